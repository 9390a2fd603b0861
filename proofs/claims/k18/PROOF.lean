import PyProof.Rows.All
import Wide.All
import OpenK.AllK
import Wide.FinOn
import PyProof.LongRange
import PyProof.ReprRoads
import HandS.Base
import HandS.Call
import HandS.List
import HandS.Words
import HandS.WordsList
import HandS.Ends
import HandS.Walk
import HandS.DictComp
import KE.KMathG
import HandS.Style
import HandS.TupAny
import HandS.ExcInit
import HandS.ExcValue
import HandS.ExcField
import HandS.ExcIs
import HandS.IsInst
import KE.KExcIs
import KE.KExcInit
import HandS.Dict
import HandS.WordsDict
import HandS.Wide
import HandS.Comp
import HandS.Text
import KE.DataMinMax
import HandS.Zip
import KE.KDictZip
import HandS.Conv
import HandS.OwnEq
import HandS.NoneIn
import HandS.SortInts
import HandS.Codes
import PySem.Challenge.RW_roundticks_k18_whole_back_and_forth
set_option Elab.async false
set_option linter.all false
set_option maxRecDepth 100000
set_option maxHeartbeats 8000000
/-! own rules: far ranges, repr of data, promises under known guards -/
namespace Rt
open PySem PySem.Spec L2
open PyProof.Rows hiding St
/-! ### a range between any two ints -/
theorem turn_far {P : Program} {w : World} {K : PySem.W.Frag} {tg : Expr} (c : Addr) (lo : Int) (n : Nat) :
    Turn P w K tg (Itr lo n) [c] c (fun i h => IsLongIter h c (lo + ((i : Nat) : Int) * 1) ((n : Int) - ((i : Nat) : Int)) 1) := by
  constructor
  · exact List.mem_singleton.mpr rfl
  · intro i h st b hb
    cases List.mem_singleton.mp hb
    exact ⟨_, st, fun v z => by injection z⟩
  · intro i h h' st kp
    exact kp c (List.mem_singleton.mpr rfl) _ st
  · rintro X rfl rfl rfl calm i pins s σ H E I fresh st more
    obtain ⟨g0, g1, g2, g3, g4, g5⟩ := fresh c (List.mem_singleton.mpr rfl)
    refine (Walks.longrange (prog := X.prog) (w := X.w) (I.ok.hd calm) c lo 1 n).item i s _ _ more st fun v h' tk hv st' kp => ?_
    obtain ⟨t, rfl⟩ := hv
    have J : Inv X pins σ H { s with heap := h', toks := tk } :=
      I.turned (fun b o nb e => kp b o (fun z => nb (List.mem_singleton.mp z)) e) g0 g1 g3 g4 g5
    refine ⟨_, rfl, go_of (n := "longrange_iterator") (s := { s with heap := h', toks := tk }) st' rfl rfl (by decide) ?_⟩
    refine ⟨.int (lo + (i : Int)), H, J, ⟨t, by rw [Int.mul_one]⟩, ⟨rfl, rfl⟩, st', fun b hb => (fresh b hb).1⟩
  · rintro X rfl rfl rfl calm i pins s σ H E I fresh st over
    obtain ⟨g0, g1, g2, g3, g4, g5⟩ := fresh c (List.mem_singleton.mpr rfl)
    have le : (n : Int) - (i : Int) ≤ 0 := by have q : n ≤ i := over; omega
    exact wpAny_pyNext_long_end (I.ok.hd calm) st le fun h' kp =>
      ⟨rfl, I.turned (t' := s.toks) (fun b o nb e => kp b o nb e) g0 g1 g3 g4 g5⟩
  · intro A i s Q E st q
    exact wpAny_pyIter_longiter st q
section
variable {X : Cx} {tg : Expr}
theorem far_it {pins : List (Addr × Obj)} {σ : St} {H : Hp} {s : Shared} {R : It → Hp → Prop} {E : Value → Shared → Prop} {lo hi : Int} {t u v : Tok} {tk : Nat}
    (I : Inv X pins σ H s) (q : R (Itr lo (hi - lo).toNat) H) :
    wpAny (model X.prog X.w) X.A (pyIter (.ref s.heap.objs.size)) (PIE X pins σ tg R) E
      { s with heap := s.heap.push { cls := .type "range", data := .fields #[.int lo t, .int hi u, .int 1 v] }, toks := tk } := by
  have J : Inv X pins σ H { s with heap := s.heap.push { cls := .type "range", data := .fields #[.int lo t, .int hi u, .int 1 v] }, toks := tk } :=
    I.kept fun b o e => Heap.get?_push_of_some _ e
  have ez : lo + (((0 : Nat)) : Int) * 1 = lo := by simp
  have en : (((hi - lo).toNat : Nat) : Int) - ((0 : Nat) : Int) = Builtin.Range.rangeSize lo hi 1 := by
    rw [rangeSize_one]
    split <;> omega
  have fr : ∀ (h2 : Heap) (tk2 : Nat) (b : Addr), Inv X pins σ H { s with heap := h2, toks := tk2 } → b = h2.objs.size → FpOk X pins H b := fun h2 tk2 b J2 e => by
    subst e
    exact J2.fpOk (Nat.le_refl _) (J2.hok.fresh (Nat.le_refl _))
  cases sm : Builtin.Range.small lo hi 1 with
  | true =>
    refine wpAny_pyIter_range (IsRange.new ..) sm ?_
    refine ⟨_, [_], _, Itr lo (hi - lo).toNat, H, rfl, J.kept (t' := tk) fun b o e => Heap.get?_push_of_some _ e, turn_range _ lo (hi - lo).toNat, ?_, fun b hb => fr _ tk b J (List.mem_singleton.mp hb), q⟩
    show IsRangeIter _ _ (lo + (((0 : Nat)) : Int) * 1) ((((hi - lo).toNat : Nat) : Int) - ((0 : Nat) : Int)) 1
    rw [ez, en]
    exact Heap.get?_push_size _ rfl
  | false =>
    refine wpAny_pyIter_longrange (IsRange.new ..) sm ?_
    refine ⟨_, [_], _, Itr lo (hi - lo).toNat, H, rfl, J.kept (t' := tk) fun b o e => Heap.get?_push_of_some _ e, turn_far _ lo (hi - lo).toNat, ?_, fun b hb => fr _ tk b J (List.mem_singleton.mp hb), q⟩
    show IsLongIter _ _ (lo + (((0 : Nat)) : Int) * 1) ((((hi - lo).toNat : Nat) : Int) - ((0 : Nat) : Int)) 1
    rw [ez, en]
    exact Heap.get?_push_size _ rfl
def iFar (ta : TA) : TI := fun σ H R => ta σ H fun vs H1 => ∃ i j : Int, vs = [.int i, .int j] ∧ R (Itr i (j - i).toNat) H1
/-- for x in range(a, b), of ints of any size -/
theorem pi_far {a b : Expr} {ta : TA} {p pos : Pos} (hg : Gl X "range") (hm : X.mg "range" = none) (ha : PA X [a, b] ta)
    (h1 : starEach [a, b] X.env = [(false, eval a X.env), (false, eval b X.env)] := by rfl) (h2 : starEach [b] X.env = [(false, eval b X.env)] := by rfl) :
    PI X tg (.Call (.Name "range" p) [a, b] [] pos) (iFar ta) := by
  constructor
  intro pins s σ H R I h
  have two := thn (ha.run pos pins s σ H _ I h) (Q' := fun us s1 => wpAny (model X.prog X.w) X.A (call (.type "range") us) (fun v s2 => wpAny (model X.prog X.w) X.A (pyIter v) (PIE X pins σ tg R) X.xe s2) X.xe s1)
    fun us s1 ⟨vs, H1, I1, r1, i, j, e, q⟩ => by
      subst e
      obtain ⟨u1, u2, rfl, ⟨t1, rfl⟩, ⟨t2, rfl⟩⟩ := vals2 r1
      exact call_range_2 (far_it I1 q)
  refine PyProof.Rows.Call_ (ld_blt I hg hm boot_range (PyProof.Rows.callWith_type1 two ?_ ?_))
  · rw [h1, h2]
  · rw [h2]; rfl
end
end Rt
namespace Rt
open PySem PySem.Spec L2
open PyProof.Rows hiding St
/-! ### promises of defs that are called where no guard stands -/
structure FnG (P : Program) (w : World) (K : PySem.W.Frag) (mg : Str → Option Value) (base : Heap) (k : Nat) (f : Addr) (fd : FuncData) (ps : List Str) (sp : Sp) : Prop where
  many : ∀ vs H Q E, sp vs H Q E → vs.length = ps.length
  go : ∀ (A : Around), A.guards = some [] → Room k A → ∀ (outer : List Env) (s : Shared) (H : Hp) (args : Args) (us : List Value) (vs : List V) (Q : VK) (E : XK), Env0 P w K mg base A outer s H →
    BindsTo s fd args (ps.zip us) → Vals vs us → sp vs H Q E → codeAny (model P w) A (.call (.ref f) args) (CR CX0 outer P w H s Q E) s
section
variable {P : Program} {w : World} {K : PySem.W.Frag} {mg : Str → Option Value} {base : Heap}
theorem okG {x qual : Str} {st : Stmt} {f : Addr} {fd : FuncData} {N ps : List Str} {k : Nat} {sp : Sp} (F : Fun K x qual st f fd) (S : FnScope N ps (defScope st))
    (many : ∀ vs H Q E, sp vs H Q E → vs.length = ps.length)
    (body : ∀ (cdv : Value) (A : Around) (outer : List Env) (s : Shared) (H : Hp) (vs : List V) (Q : VK) (E : XK), A.guards = some [] →
      Room k (A.deeper (envOfC qual (defScope st) s.heap.objs.size f cdv)) → sp vs H Q E →
      ∃ t, PSs (cxOf CX0 P w K mg base N qual (defScope st) f cdv A outer s H E).nox (defBody st) t ∧ t { nx := fun _ H' => Q .non H', rt := Q } (start N vs) H) :
    FnG P w K mg base (k + 1) f fd ps sp := by
  obtain ⟨oc, od, kV, doc, pm, an, cdv, ct, osl, rfl, lk, hcd⟩ := F.ex
  refine ⟨many, ?_⟩
  intro A hg room outer s H args us vs Q E e0 bt rv want
  have size := many vs H Q E want
  have kin : K.In s.heap := e0.mod.kin.keeps fun b o e => (e0.bs b o e).1
  have noLim : s.heap.NoLimit := e0.mod.nolimit.keeps fun b o e => (e0.bs b o e).1
  refine codeAny_call_function room.depth (kin _ _ lk) rfl S.co S.gen rfl (PySem.W.codeRec_of kin hcd) (bt _ _ _ _ ?_)
  refine wpAny_newFunctionEnv_cells S.kind ?_ ?_
  · rintro ⟨nm, val⟩ mem
    exact (S.par nm (List.of_mem_zip mem).1).imp id fun c => ⟨c, PySem.W.cellsFrom_some _ _ _ (.inl c)⟩
  · rintro env rfl s1 entry
    refine ⟨noLim.keeps entry.toInCall.keep, codeAny_func ?_⟩
    obtain ⟨t, ht, now⟩ := body cdv A outer s H vs Q E hg (room.deeper _) want
    have J := inv_start (CX := CX0) (E := E) S room.hd e0 size rv entry
    refine wpAny_mono (ht.nox.run [] s1 (start N vs) H _ J now) (fun way s2 out => ?_) fun _ _ z => z
    cases way with
    | ret u =>
      obtain ⟨v, σ2, H2, J2, ru, q2⟩ := out
      exact ⟨v, H2, J2.os, J2.bare, J2.base, J2.hok, ru, q2⟩
    | next =>
      obtain ⟨σ2, H2, J2, q2⟩ := out
      exact ⟨V.non, H2, J2.os, J2.bare, J2.base, J2.hok, rfl, q2⟩
    | brk => exact out.elim fun _ z => z.elim fun _ y => y.2.elim
    | cont => exact out.elim fun _ z => z.elim fun _ y => y.2.elim
end
/-- a def of the module that may be called by its name -/
structure Cb (P : Program) (w : World) (K : PySem.W.Frag) (mg : Str → Option Value) (base : Heap) (k : Nat) (x : Str) (sp : Sp) : Prop where
  ex : ∃ (f : Addr) (fd : FuncData) (ps : List Str), FnG P w K mg base k f fd ps sp ∧ mg x = some (.ref f) ∧ PySem.W.keepIn K (.ref f) = true ∧ Binds K fd ps []
section
variable {X : Cx} {k j : Nat} {x : Str} {sp : Sp} {p pos : Pos} {e : Expr} {es : List Expr} {t : TA}
theorem pe_k (c : Cb X.prog X.w X.K X.mg X.base k x sp) (hg : X.A.guards = some []) (hr : Room j X.A) (hk : k ≤ j) (hx : Gl X x) (ha : PA X (e :: es) t)
    (hdb : (x == ("__debug__" : Str)) = false := by decide) (he : starEach (e :: es) X.env = (false, eval e X.env) :: starEach es X.env := by rfl)
    (hpl : (backTo pos (starEach es X.env)).any (·.1) = false := by rfl) : PE X (.Call (.Name x p) (e :: es) [] pos) (tCall sp [] E0 t) := by
  obtain ⟨f, fd, ps, G, hm, kp, bd⟩ := c.ex
  constructor
  intro pins s σ H Q I want
  refine wpAny_Call_Name_kw (ld_glob I hx hm ?_ hdb)
  refine PySem.W.callWith_K (h₀ := X.base) I.ok.mod.kin kp (thn (ha.run pos pins s σ H _ I want) ?_) he hpl
  rintro us s1 ⟨vs, H1, J, rv, q⟩
  refine ⟨J.kIn, ?_⟩
  have q' : sp vs H1 Q E0 := by simpa using q
  have size : us.length = ps.length := by
    rw [← rv.length]
    exact G.many _ _ _ _ q'
  have b1 : BindsTo s1 fd ⟨us, []⟩ (ps.zip us) := by
    have z := bd s1 us J.kIn (by simpa using size)
    simpa using z
  refine wpAny_call (codeAny_mono (G.go X.A hg (hr.mono hk) X.stack s1 H1 ⟨us, []⟩ us vs Q E0 J.env0 b1 rv q') ?_)
  intro r s2 out
  match r, out with
  | .error _, z => exact False.elim z
  | .ok (.ret u), z => exact J.after z
  | .ok .next, z => exact False.elim z
  | .ok .brk, z => exact False.elim z
  | .ok .cont, z => exact False.elim z
end
end Rt
namespace Rt
open PySem PySem.Spec L2
open PyProof.Rows hiding St
/-! ### the law's own call -/
abbrev isTrue1 (s₁ : Shared) : Result → Shared → Prop := fun r s' => r = .ok (.ret (.bool true)) ∧ OldK s₁.heap s'.heap ∧ s'.os = s₁.os ∧ AllBare s'.gens
/-- nothing but the script is tracked, at most -/
structure Bare (H : Hp) (h : Heap) (K : PySem.W.Frag) (a : Addr) : Prop where
  only : Only H
  here : ∀ b, H b ≠ none → b = a
  notK : H a ≠ none → K.lookup a = none
section
variable {P : Program} {w : World} {K : PySem.W.Frag} {mg mb : Str → Option Value} {k : Nat} {fa a : Addr} {fd : FuncData} {x : Str} {sp : Sp} {s₁ : Shared} {vs : List Value} {ns : List Int}
theorem bare_call {H : Hp} (B : Bare H s₁.heap K a) (ok : HOk P w H s₁.heap) (KX : K.In s₁.heap) (hns : s₁.heap.Ns mainGlobals mg) (hb : s₁.heap.Ns builtinsNs mb) (hbb : ∀ x : Str, x ≠ "__name__" → mb x = bootBuiltins x)
    (lim : s₁.heap.NoLimit) (gens : s₁.gens = #[]) (ha : s₁.heap.get? a = some { cls := .type "list", data := .seq vs.toArray }) (room : Room k callerA)
    (F : ∀ base : Heap, K.In base → base.Ns mainGlobals mg → FnG P w K mg base k fa fd [x] sp) (bind : ∀ (s : Shared) (u : Value), BindsTo s fd ⟨[u], []⟩ [(x, u)])
    (want : sp [.ref a] H (fun v _ => v = .bl true) E0) : codeAny (model P w) callerA (.call (.ref fa) ⟨[.ref a], []⟩) (isTrue1 s₁) s₁ := by
  -- an object that is no list is untracked
  have dictFree : ∀ {b : Addr} {o : Obj} {es : Array DictEntry} {ep : Nat}, s₁.heap.get? b = some o → o.data = .dict es ep → H b = none := by
    intro b o es ep hb hd
    by_cases z : H b = none
    · exact z
    · exfalso
      cases B.here b z
      rw [ha] at hb
      cases hb
      exact nomatch hd
  have kFree : ∀ {b : Addr} {o : Obj}, K.lookup b = some o → H b = none := by
    intro b o hb
    by_cases z : H b = none
    · exact z
    · exfalso
      cases B.here b z
      rw [B.notK z] at hb
      cases hb
  have names : ∀ {b : Addr} {m : Str → Option Value}, s₁.heap.Ns b m → (hidT s₁.heap H).Ns b m := by
    rintro b m ⟨o, es, ep, e, d, r⟩
    exact ⟨o, es, ep, hidT_get e (dictFree e d), d, r⟩
  have inBase : K.In (hidT s₁.heap H) := fun b o e => hidT_get (KX b o e) (kFree e)
  have noLim : (hidT s₁.heap H).NoLimit := by
    obtain ⟨mc, z1, z2⟩ := lim
    exact ⟨mc, names z1, z2⟩
  have e0 : Env0 P w K mg (hidT s₁.heap H) callerA [] s₁ H := by
    constructor
    · rfl
    · exact ⟨inBase, names hns, ⟨mb, names hb, hbb⟩, noLim⟩
    · exact fun b o e => of_hidT e
    · exact Nat.le_of_eq (hidT_size _ _)
    · exact True.intro
    · exact fun b hb => nomatch (show b ∈ ([] : List Addr) from hb)
    · exact ok
    · exact .of_eq gens
  have run := (F _ inBase (names hns)).go callerA rfl room [] s₁ H ⟨[.ref a], []⟩ [.ref a] [.ref a] _ _ e0 (bind s₁ (.ref a)) (.cons rfl .nil) want
  refine codeAny_mono run ?_
  intro r s2 out
  match r, out with
  | .error _, z => exact False.elim z
  | .ok .next, z => exact False.elim z
  | .ok .brk, z => exact False.elim z
  | .ok .cont, z => exact False.elim z
  | .ok (.ret u), ⟨v, H2, os, bare, un, ok2, ru, q⟩ =>
    obtain rfl : v = .bl true := q
    obtain rfl : u = Value.bool true := ru
    refine ⟨rfl, OldK.of_keep ?_, os, bare⟩
    intro b o e
    by_cases z : H b = none
    · exact un.keep b o e z (fun y => nomatch (show b ∈ ([] : List Addr) from y)) (fun y => nomatch (show b ∈ ([] : List Addr) from y))
    · rcases B.only b with y | ⟨ob, xs, y⟩
      · exact absurd y z
      · have e1 := (ok b _ y).1
        have e2 := (ok2 b _ (un.frzs b ob _ y)).1
        rw [e] at e1
        cases e1
        exact e2
theorem law_g (KX : K.In s₁.heap) (hns : s₁.heap.Ns mainGlobals mg) (hb : s₁.heap.Ns builtinsNs mb) (hbb : ∀ x : Str, x ≠ "__name__" → mb x = bootBuiltins x) (lim : s₁.heap.NoLimit) (gens : s₁.gens = #[])
    (ha : s₁.heap.get? a = some { cls := .type "list", data := .seq vs.toArray }) (nums : IntsAre vs ns) (fit : ns.length ≤ sizeLine) (room : Room k callerA)
    (F : ∀ base : Heap, K.In base → base.Ns mainGlobals mg → FnG P w K mg base k fa fd [x] sp) (bind : ∀ (s : Shared) (u : Value), BindsTo s fd ⟨[u], []⟩ [(x, u)])
    (want : ∀ H : Hp, Only H → SqL K H a (ns.map V.int) → sp [.ref a] H (fun v _ => v = .bl true) E0) :
    codeAny (model P w) callerA (.call (.ref fa) ⟨[.ref a], []⟩) (isTrue1 s₁) s₁ := by
  have rv := vals_ints nums
  have lv := nums.length
  rcases hk : K.lookup a with _ | o
  · -- the script is no object of the module's own
    let H : Hp := fun b => if b = a then some (.frz { cls := .type "list", data := .seq vs.toArray } (.lst (ns.map V.int))) else none
    have Ha : H a = some (.frz { cls := .type "list", data := .seq vs.toArray } (.lst (ns.map V.int))) := if_pos rfl
    have Hn : ∀ b, b ≠ a → H b = none := fun b z => if_neg z
    have only : Only H := fun b => by
      by_cases z : b = a
      · subst z
        exact .inr ⟨_, _, Ha⟩
      · exact .inl (Hn b z)
    have here : ∀ b, H b ≠ none → b = a := fun b z => by
      by_cases y : b = a
      · exact y
      · exact absurd (Hn b y) z
    have ok : HOk P w H s₁.heap := fun b u e => by
      by_cases y : b = a
      · subst y
        rw [Ha] at e
        cases e
        refine ⟨ha, ?_, vs, _, rv, ha⟩
        rw [List.length_map]
        exact fit
      · rw [Hn b y] at e
        cases e
    exact bare_call ⟨only, here, fun _ => hk⟩ ok KX hns hb hbb lim gens ha room F bind (want H only (.inl (.inr ⟨_, Ha⟩)))
  · have e := KX a o hk
    rw [ha] at e
    cases e
    have only : Only (fun _ => none) := fun _ => .inl rfl
    refine bare_call (H := fun _ => none) ⟨only, fun b z => absurd rfl z, fun z => absurd rfl z⟩ (fun b u e => nomatch e) KX hns hb hbb lim gens ha room F bind ?_
    refine want _ only (.inr ⟨_, vs.toArray, _, hk, rfl, rfl, rfl, ?_, by simpa using rv⟩)
    rw [List.size_toArray, lv]
    exact fit
theorem walk_g {l : PySem.W.OpenLaw} {n k : Nat} {q : Program} {loose : List Str} {XP : (Str → Option Value) → Heap → Prop} {YP : World → Heap → Prop} {d : DefRec} {K : Params → PySem.W.Frag} {sp : PySem.W.Frag → Sp} {x : Str}
    (hn : l.most = some n) (le : n ≤ sizeLine) (noDf : d.params.defaults = []) (room : Room k callerA) (hY : ∀ (w : World) (h : Heap), YP w h → (K w.params).In h)
    (F : ∀ (w : World) (mg : Str → Option Value) (fa : Addr) (h : Heap), (K w.params).In h → h.Ns mainGlobals mg → mg d.name = some (.ref fa) →
      ∃ fd : FuncData, (∀ (s : Shared) (u : Value), BindsTo s fd ⟨[u], []⟩ [(x, u)]) ∧
        ∀ base : Heap, (K w.params).In base → base.Ns mainGlobals mg → FnG l.prog w (K w.params) mg base k fa fd [x] (sp (K w.params)))
    (want : ∀ (K : PySem.W.Frag) (H : Hp) (a : Addr) (ns : List Int), ns.length ≤ n → SqL K H a (ns.map V.int) → sp K [.ref a] H (fun v _ => v = .bl true) E0) :
    PySem.W.WalkO q loose XP YP l.row.toRowW d [] (fun f vs => PySem.call f vs) := by
  refine Att.attach_call hn noDf ?_
  intro w s₀ s₁ mg mb fa o pm cd doc a vs ns G Y ho hd hcd hmg hobj nums few gens
  obtain ⟨fd, bind, each⟩ := F w mg fa _ (hY w _ Y) G.T.g hmg
  exact law_g (hY w _ Y) G.T.g G.T.b G.T.builtins G.T.nolimit gens hobj nums (Nat.le_trans few le) room each bind fun H _ hS => want _ H a ns few hS
end
end Rt
namespace Rt
open PySem PySem.Spec L2
open PyProof.Rows hiding St
/-! ### the defs as the top has left them -/
structure At (K : PySem.W.Frag) (mg : Str → Option Value) (x : Str) (st : Stmt) : Prop where
  ex : ∃ (f : Addr) (fd : FuncData), Fun K x x st f fd ∧ mg x = some (.ref f)
section
variable {P : Program} {w : World} {K : PySem.W.Frag} {mg : Str → Option Value} {base h : Heap} {x : Str} {st : Stmt}
theorem at_mk {f : Addr} {oc kV dc pm cd ct : Value} {od an : Option Addr} {sl : Array (Option Value)} (X : K.In h) (G : h.Ns mainGlobals mg) (a : PySem.W.nsIn K mainGlobals x = some (some (.ref f)))
    (l : K.lookup f = some ⟨oc, od, .func (PySem.W.fnOf x x (defArgs st) (defBody st) (defScope st) .none kV dc pm an cd ct), sl⟩) (c : PySem.W.codeIn K cd x = true) (k : PySem.W.keepIn K (.ref f) = true) : At K mg x st :=
  ⟨f, _, fun_mk l c k, PySem.W.mg_of X G a⟩
theorem At.cb {k : Nat} {ps : List Str} {sp : Sp} (A : At K mg x st) (ok : ∀ (f : Addr) (fd : FuncData), Fun K x x st f fd → FnG P w K mg base k f fd ps sp)
    (bd : ∀ (f : Addr) (fd : FuncData), Fun K x x st f fd → Binds K fd ps []) : Cb P w K mg base k x sp := by
  obtain ⟨f, fd, F, m⟩ := A.ex
  exact ⟨f, fd, ps, ok f fd F, m, F.kp, bd f fd F⟩
end
end Rt
namespace Rt
open PySem PySem.Spec L2
open PyProof.Rows hiding St
/-! ### defs that may be called under any guards -/
structure Cf (P : Program) (w : World) (K : PySem.W.Frag) (mg : Str → Option Value) (base : Heap) (k : Nat) (x : Str) (sp : Sp) : Prop where
  ex : ∃ (f : Addr) (fd : FuncData) (ps : List Str), FnOk P w K mg base CX0 k f fd ps sp ∧ mg x = some (.ref f) ∧ PySem.W.keepIn K (.ref f) = true ∧ Binds K fd ps []
section
variable {P : Program} {w : World} {K : PySem.W.Frag} {mg : Str → Option Value} {base : Heap} {k : Nat} {x : Str} {sp : Sp} {st : Stmt}
theorem Cf.toB (c : Cf P w K mg base k x sp) : Cb P w K mg base k x sp := by
  obtain ⟨f, fd, ps, F, m, kp, b⟩ := c.ex
  exact ⟨f, fd, ps, ⟨F.len, fun A _ r o s H a us vs Q E => F.run A o s H a us vs Q E r⟩, m, kp, b⟩
theorem At.cf {ps : List Str} (A : At K mg x st) (ok : ∀ (f : Addr) (fd : FuncData), Fun K x x st f fd → FnOk P w K mg base CX0 k f fd ps sp)
    (bd : ∀ (f : Addr) (fd : FuncData), Fun K x x st f fd → Binds K fd ps []) : Cf P w K mg base k x sp := by
  obtain ⟨f, fd, F, m⟩ := A.ex
  exact ⟨f, fd, ps, ok f fd F, m, F.kp, bd f fd F⟩
end
section
variable {X : Cx} {k j : Nat} {x : Str} {sp : Sp} {p pos : Pos} {e : Expr} {es : List Expr} {t : TA}
theorem pe_f (c : Cf X.prog X.w X.K X.mg X.base k x sp) (hr : Room j X.A) (hk : k ≤ j) (hx : Gl X x) (ha : PA X (e :: es) t)
    (hdb : (x == ("__debug__" : Str)) = false := by decide) (he : starEach (e :: es) X.env = (false, eval e X.env) :: starEach es X.env := by rfl)
    (hpl : (backTo pos (starEach es X.env)).any (·.1) = false := by rfl) : PE X (.Call (.Name x p) (e :: es) [] pos) (tCall sp [] E0 t) := by
  obtain ⟨f, fd, ps, F, hm, kp, bd⟩ := c.ex
  exact pe_call F (hr.mono hk) hx hm kp bd .nil (fun _ _ _ _ _ _ _ z => z.elim) ha hdb he hpl
end
end Rt
namespace Rt
open PySem PySem.Spec L2
open PyProof.Rows hiding St
/-! ### a dict comprehension over any walk -/
section
variable {J : It} {n : Nat} {G : Hp → Prop} {Y : Nat → Hp → V → Hp → Prop}
theorem dc_it (wk : Walk J n G Y) {g : TG} {tt : TT} {tk tv : TE} {vs : List Nat} {σ : L2.St} {H1 : Hp} {D : Addr} {Qd : Hp → Prop} (Pv : Nat → Hp → Prop) (start : Pv 0 (upd H1 D (.dK []))) (good : ∀ i H, i ≤ n → Pv i H → G H)
    (turn : ∀ i x H H', i < n → Pv i H → Y i H x H' → g x (wipe σ vs) H' fun σ2 H2 => wipe σ2 vs = wipe σ vs ∧ tt σ2 H2 fun b H3 =>
      if b = true then tk σ2 H3 fun y H4 => tv σ2 H4 fun z H5 => ∃ kvs k, y = kV k ∧ H5 D = some (.dK kvs) ∧ kvs.length < sizeLine ∧ Pv (i + 1) (upd H5 D (.dK (putK kvs k z))) else Pv (i + 1) H3) (fin : ∀ H, Pv n H → Qd H) :
    ∃ W : Nat → Nat → Hp → Prop, (∃ m, W 0 m (upd H1 D (.dK []))) ∧ ∀ i m H, W i m H →
      (J.stop i H ∧ Qd H) ∨ (J.go i H ∧ ∃ Nx : Hp → Prop, (∀ H', Nx H' → ∃ m', m' < m ∧ W (i + 1) m' H') ∧ ∀ x H', J.yld i H x H' → g x (wipe σ vs) H' fun σ2 H2 => wipe σ2 vs = wipe σ vs ∧ tt σ2 H2 fun b H3 =>
        if b = true then tk σ2 H3 fun y H4 => tv σ2 H4 fun z H5 => ∃ kvs k, y = kV k ∧ H5 D = some (.dK kvs) ∧ kvs.length < sizeLine ∧ Nx (upd H5 D (.dK (putK kvs k z))) else Nx H3) := by
  refine ⟨fun i m H => m + i = n ∧ Pv i H, ⟨n, rfl, start⟩, fun i m H ⟨e, p⟩ => ?_⟩
  have q := good i H (by omega) p
  rcases Nat.lt_or_ge i n with lt | ge
  · exact .inr ⟨wk.goes i H lt q, Pv (i + 1), fun H' p' => ⟨m - 1, by omega, by omega, p'⟩, fun x H' y => turn i x H H' lt p (wk.yields i H x H' lt q y)⟩
  · obtain rfl : i = n := by omega
    exact .inl ⟨wk.stops H q, fin H p⟩
end
/-! ### a tuple as a target within a comprehension -/
theorem pg_tk {X : Cx} {K : PySem.W.Frag} {es : List Expr} {k n : Nat} {t : TGs} {pos : Pos} (hK : X.K = K) (hc : X.calm = true) (h : PGs X es t) (hn : (assignEach es X.env).length = n) (hst : (assignEach es X.env).findIdx? (·.1) = none) : PG X (.Tuple es k pos) (gTup K n t) := by
  subst hK
  exact pg_tup hc h hn hst
/-! ### tuple(..) within a comprehension -/
def rTup (K : PySem.W.Frag) : List V → Hp → VK → Prop := fun vs H Q =>
  ∃ (b : Addr) (us : List V), vs = [.ref b] ∧ ((SqL K H b us ∧ ∀ n, H n = none → Q (.ref n) (upd H n (.tup us))) ∨ (SqT K H b us ∧ Q (.ref b) H))
theorem call_tupK {X : Cx} {K : PySem.W.Frag} (hK : X.K = K) : CallR X (.type "tuple") (rTup K) := by
  subst hK
  exact call_tuple_of
/-! ### name = {..: .. for ..} on one line -/
theorem sw_dict {a b : Expr} {gs : List Comprehension} {sc : Scope} {q qn : Pos} {n : Str} {line : Nat} {env : Env} (kind : env.scope.kind = .function) (loc : env.scope.names.lookup n = some .local) (same : (qn.line == q.line) = true)
    (other : (sc.names.any fun (m, k) => m == n && (k == .local || k == .cell)) = false) : swapsWith (.DictComp a b gs sc q) (some (.Name n qn)) line env = pure true := by
  have e1 : env.kindOf n = some .local := loc
  have e2 : env.blockKind = .function := by
    show env.blockKind = _
    unfold Env.blockKind
    rw [kind]
    rfl
  simp only [swapsWith, e1, e2, other, Expr.pos, same]
  rfl
theorem ps_setDc {X : Cx} {i : Nat} {n : Str} {qn q qs : Pos} {ke ve tg it : Expr} {cs : List Expr} {sc : Scope} {own : List (Str × Nat)} {wi : TI} {g : TG} {tt : TT} {tk tv : TE} (cm : X.calm = true) (nd : X.N.Nodup) (at_ : X.N[i]? = some n)
    (loc : X.env.scope.names.lookup n = some .local) (sw : swapsWith (.DictComp ke ve [⟨tg, it, cs, 0⟩] sc q) (some (.Name n qn)) qs.line X.env = pure true) (pi : PI X tg it wi) (bo : BlkOk X.N X.env.scope sc own)
    (pg : ∀ (s : Shared) (H : Hp) (C : Addr) (cl : List (Str × Addr)) (fp : List Addr), PG (X.blk s H sc (compEnvC sc cl C X.env) fp) tg g) (pt : ∀ (s : Shared) (H : Hp) (C : Addr) (cl : List (Str × Addr)) (fp : List Addr), PTs (X.blk s H sc (compEnvC sc cl C X.env) fp) cs tt)
    (pk : ∀ (s : Shared) (H : Hp) (C : Addr) (cl : List (Str × Addr)) (fp : List Addr), PE (X.blk s H sc (compEnvC sc cl C X.env) fp) ke tk)
    (pv : ∀ (s : Shared) (H : Hp) (C : Addr) (cl : List (Str × Addr)) (fp : List Addr), PE (X.blk s H sc (compEnvC sc cl C X.env) fp) ve tv) (fo : ∀ x, foldedSetIterable it X.env x = pure x := by intro _; rfl) :
    PS X (.Assign [.Name n qn] (.DictComp ke ve [⟨tg, it, cs, 0⟩] sc q) qs) (tAsg (tDc wi g tt tk tv (own.map (·.2))) (gName i)) := by
  constructor
  intro pins s σ H D I want
  rw [exec_Assign_Name_used _ _ _ _ sw]
  refine wpAny_bind (wpAny_standAt ?_)
  refine wpAny_bind ?_
  show wpAny _ X.A (do
    let _ ← comprehension (.DictComp ke ve [⟨tg, it, cs, 0⟩] sc q) sc X.env (firstIterPos [⟨tg, it, cs, 0⟩] q) newDict false (eval it X.env) (some (assign (.Name n qn) X.env))) _ _ s
  have want' : tDc wi g tt tk tv (own.map (·.2)) σ H (fun x H1 => gName i x σ H1 D.nx) := want
  refine wpAny_bind (thn (dc_core (Qf := fun _ z => SP X pins D .next z) cm nd I pi bo pg pt pk pv fo want' ?_) fun _ z y => wpAny_pure (wpAny_pure y))
  intro L C t m H' J now hn f
  show wpAny _ _ (assign (.Name n qn) X.env (.ref L)) _ _ _
  refine wpAny_assign_Name (store_ok2 (v := V.ref L) J nd at_ (.inl loc) rfl ?_ (.inr loc))
  intro u J2 ⟨b, only, hb⟩
  obtain ⟨f0, f1, f2, f3, f4, f5⟩ := f
  have away : C ≠ b := by
    rcases hb with z | z
    · exact z ▸ f1
    · exact fun e => f4 n b z e.symm
  refine ⟨m, hn.sameBut only away, fun h3 only3 => ⟨_, H', ?_, now⟩⟩
  exact J2.turned (t' := u.toks) (fun c o hc e => (only3.2 c hc).trans e) f0 f1 f3 f4 f5
/-! ### methods and makers that may be called under any guards -/
structure Md (P : Program) (w : World) (K : PySem.W.Frag) (mg : Str → Option Value) (base : Heap) (k : Nat) (C : Addr) (m : Str) (sp : Sp) : Prop where
  ex : ∃ (f : Addr) (fd : FuncData) (ps : List Str), Meth K C m f ∧ FnOk P w K mg base CX0 k f fd ps sp ∧ Binds K fd ps []
structure Mkr (P : Program) (w : World) (K : PySem.W.Frag) (mg : Str → Option Value) (base : Heap) (k : Nat) (C : Addr) (x : Str) (sp : Sp) : Prop where
  ex : ∃ (f : Addr) (fd : FuncData) (ps : List Str), L2.Mk K C f ∧ mg x = some (.ref C) ∧ FnOk P w K mg base CX0 k f fd ps sp ∧ Binds K fd ps []
section
variable {X : Cx} {k j : Nat} {C : Addr} {m x : Str} {sp : Sp} {p pos apos : Pos} {o e : Expr} {es : List Expr} {ta : TE} {t : TA}
theorem pe_m {pl : Sem Bool} (c : Cls X.K C) (M : Md X.prog X.w X.K X.mg X.base k C m sp) (hr : Room j X.A) (hk : k ≤ j) (he : PE X o ta) (ha : PA X (e :: es) t)
    (hst : starEach (e :: es) X.env = (false, eval e X.env) :: starEach es X.env := by rfl) (hpl : (backTo pos (starEach es X.env)).any (·.1) = false := by rfl)
    (ht : eval (.Call (.Attribute o m apos) (e :: es) [] pos) X.env = (do
      let ov ← eval o X.env
      standAt apos.atName
      let (f, first) ← holding [ov] (getMethod ov m pl)
      callWith pos f first (backTo pos (starEach (e :: es) X.env)) (backToKw pos (keywordEach [] X.env))) := by rfl) :
    PE X (.Call (.Attribute o m apos) (e :: es) [] pos) (tMeth C m sp [] E0 ta t) := by
  obtain ⟨f, fd, ps, hm, F, b⟩ := M.ex
  exact pe_meth he c hm F (hr.mono hk) b .nil (fun _ _ _ _ _ _ _ z => z.elim) ha hst hpl ht
theorem pe_m0' {pl : Sem Bool} (c : Cls X.K C) (M : Md X.prog X.w X.K X.mg X.base k C m sp) (hr : Room j X.A) (hk : k ≤ j) (he : PE X o ta)
    (ht : eval (.Call (.Attribute o m apos) [] [] pos) X.env = (do
      let ov ← eval o X.env
      standAt apos.atName
      let (f, first) ← holding [ov] (getMethod ov m pl)
      callWith pos f first (backTo pos (starEach [] X.env)) (backToKw pos (keywordEach [] X.env))) := by rfl) :
    PE X (.Call (.Attribute o m apos) [] [] pos) (tMeth C m sp [] E0 ta tNil) := by
  obtain ⟨f, fd, ps, hm, F, b⟩ := M.ex
  exact pe_meth0 he c hm F (hr.mono hk) b .nil (fun _ _ _ _ _ _ _ z => z.elim) ht
theorem pe_mkr (M : Mkr X.prog X.w X.K X.mg X.base k C x sp) (hr : Room j X.A) (hk : k + 1 ≤ j) (hg : Gl X x) (ha : PA X (e :: es) t)
    (hdb : (x == ("__debug__" : Str)) = false := by decide) (he : starEach (e :: es) X.env = (false, eval e X.env) :: starEach es X.env := by rfl) (hpl : (backTo pos (starEach es X.env)).any (·.1) = false := by rfl) :
    PE X (.Call (.Name x p) (e :: es) [] pos) (tMake C sp [] E0 t) := by
  obtain ⟨f, fd, ps, mk, hm, F, b⟩ := M.ex
  exact pe_make mk F (hr.mono hk) hg hm b .nil (fun _ _ _ _ _ _ _ z => z.elim) ha hdb he hpl
end
end Rt
namespace Rt
open PySem PySem.Spec L2
open PyProof.Rows hiding St
/-! ### a built-in function that stands among the names of the module -/
theorem pe_bg {X : Cx} {x : Str} {p pos : Pos} {e : Expr} {es : List Expr} {t : TA} {id : String} {r : List V → Hp → VK → Prop} (c : CallR X (.builtin id) r) (hx : Gl X x) (m : X.mg x = some (.builtin id)) (a : PA X (e :: es) t)
    (nodbg : (x == ("__debug__" : Str)) = false := by decide) (st : starEach (e :: es) X.env = (false, eval e X.env) :: starEach es X.env := by rfl)
    (pl : (backTo pos (starEach es X.env)).any (·.1) = false := by rfl) : PE X (.Call (.Name x p) (e :: es) [] pos) (tCB r t) := by
  constructor
  intro pins s σ H Q I want
  refine wpAny_Call_Name_kw (ld_glob I hx m ?_ nodbg)
  refine PyProof.Rows.callWith_builtin1 (thn (a.run pos pins s σ H _ I want) ?_) st pl
  rintro us s1 ⟨vs, H1, J, rv, q⟩
  exact c pins s1 σ H1 vs us Q J rv q
def rLcm : List V → Hp → VK → Prop := fun vs H Q => ∃ a b : Nat, vs = [.int a, .int b] ∧ a < 2 ^ 60 ∧ b < 2 ^ 60 ∧ Nat.lcm a b < 2 ^ 60 ∧ Q (.int (Nat.lcm a b : Nat)) H
theorem call_lcm {X : Cx} : CallR X (.builtin "math.lcm") rLcm := by
  intro pins s σ H vs us Q I rv want
  obtain ⟨a, b, rfl, ha, hb, hl, q⟩ := want
  obtain ⟨u1, u2, rfl, ⟨t1, rfl⟩, ⟨t2, rfl⟩⟩ := vals2 rv
  have e : ((((Nat.lcm 1 (a : Int).natAbs).lcm (b : Int).natAbs : Nat) : Int)) = ((Nat.lcm a b : Nat) : Int) := by
    rw [Int.natAbs_natCast, Int.natAbs_natCast, Nat.lcm_one_left]
  refine PySem.W.mg_lcm_v (by rw [Int.natAbs_natCast]; omega) (by rw [Int.natAbs_natCast]; omega) e ?_ ⟨.int _, H, I.tok _, ⟨_, rfl⟩, q⟩
  rw [Int.natAbs_natCast]
  have : (Nat.lcm a b).log2 < 60 := by
    rcases Nat.eq_zero_or_pos (Nat.lcm a b) with z | z
    · rw [z]
      decide
    · exact (Nat.log2_lt (by omega)).mpr hl
  exact Nat.lt_trans this (by decide)
end Rt
/-! own rules: a tuple turned round by a slice -/
namespace Rt
open PySem PySem.Spec L2
open PyProof.Rows hiding St
section
variable {prog : Program} {w : World} {A : Around} {E : Value → Shared → Prop} {s : Shared}
theorem slice_back {sl : Addr} {v1 v2 v3 : Value} {n : Nat} {Q : Int × Int × Nat → Shared → Prop} (isS : s.heap.IsSliceOf sl v1 v2 v3) (p1 : IsPart v1 none) (p2 : IsPart v2 none) (p3 : IsPart v3 (some (-1))) (now : Q ((n : Int) - 1, -1, n) s) :
    wpAny (model prog w) A (Builtin.Slice.sliceApplied (.ref sl) (pure (n : Int))) Q E s := by
  obtain ⟨ob, hob, cls, dat⟩ := id isS
  cases p1
  cases p2
  cases p3 with
  | int _ tk =>
    unfold Builtin.Slice.sliceApplied
    unfold Builtin.Slice.sliceFields
    refine wpAny_bind (wpAny_bind (wpAny_field hob dat (x := .none) rfl (wpAny_bind (wpAny_field hob dat (x := .none) rfl (wpAny_bind (wpAny_field hob dat (x := .int (-1) tk) rfl (wpAny_pure ?_)))))))
    refine wpAny_bind (slicePart_int ?_)
    show wpAny _ _ (if ((-1 : Int) == 0) = true then _ else _) _ _ s
    rw [if_neg (by decide)]
    refine wpAny_bind (slicePart_none (wpAny_bind (slicePart_none (wpAny_bind (wpAny_pure ?_)))))
    show wpAny _ _ (pure ((n : Int) - 1, (-1 : Int), Builtin.Slice.slicePlaces ((n : Int) - 1) (-1) (-1))) _ _ s
    have e : Builtin.Slice.slicePlaces ((n : Int) - 1) (-1) (-1) = n := by
      unfold Builtin.Slice.slicePlaces
      rw [if_neg (by decide)]
      split
      · rw [show (-(-1 : Int)) = 1 by decide, Int.ediv_one]
        omega
      · omega
    rw [e]
    exact wpAny_pure now
theorem pick_all {α : Type} : ∀ (n : Nat) (f : Nat → Option α) (ys : List α), ys.length = n → (∀ k, k < n → f k = ys[k]?) → (List.range n).filterMap f = ys
  | 0, f, ys, l, _ => by
    rw [List.eq_nil_of_length_eq_zero l]
    rfl
  | n + 1, f, ys, l, h => by
    rw [List.range_succ, List.filterMap_append, pick_all n f (ys.take n) (by rw [List.length_take]; omega) (fun k hk => by rw [h k (by omega), List.getElem?_take_of_lt hk])]
    have e := h n (Nat.lt_succ_self n)
    have lt : n < ys.length := by omega
    rw [List.getElem?_eq_getElem lt] at e
    have all : ys.take (n + 1) = ys := List.take_of_length_le (by omega)
    rw [List.take_succ, List.getElem?_eq_getElem lt] at all
    show ys.take n ++ [n].filterMap f = ys
    rw [show [n].filterMap f = [ys[n]] by simp [e]]
    exact all
theorem back_pick (xs : Array Value) : ((List.range xs.size).filterMap fun (k : Nat) => xs[((xs.size : Int) - 1 + (k : Int) * (-1)).toNat]?).toArray = xs.toList.reverse.toArray := by
  congr 1
  refine pick_all _ _ _ (by rw [List.length_reverse, Array.length_toList]) fun k lt => ?_
  rw [List.getElem?_reverse (by rw [Array.length_toList]; exact lt), Array.length_toList, Array.getElem?_toList]
  congr 1
  omega
theorem item_back {t sl : Addr} {items : Array Value} {v1 v2 v3 : Value} {Q : Value → Shared → Prop} (htp : IsTup s.heap t items) (isS : s.heap.IsSliceOf sl v1 v2 v3) (p1 : IsPart v1 none) (p2 : IsPart v2 none) (p3 : IsPart v3 (some (-1)))
    (now : Q (.ref s.heap.objs.size) { s with heap := s.heap.push { cls := .type "tuple", data := .seq items.toList.reverse.toArray } }) (small : items.size ≤ sizeLine) : wpAny (model prog w) A (getItem (.ref t) (.ref sl)) Q E s := by
  have fits : sizeOk (.seq items.toList.reverse.toArray) := by
    show items.toList.reverse.toArray.size ≤ sizeLine
    rw [List.size_toArray, List.length_reverse, Array.length_toList]
    exact small
  obtain ⟨ob, hob, cls, dat⟩ := id isS
  have isT : s.TypeIs (.ref sl) "slice" := ⟨ob, hob, cls⟩
  unfold getItem
  try with_reducible refine wpAny_holding ?_
  first | refine wpAny_bind (wpAny_pure ?_) | skip
  refine wpAny_bind (wpAny_sequenceKey htp.typeIs (by decide) ?_)
  refine wpAny_bind (wpAny_callSpecial?_slot (name := Str.ofString "__getitem__") htp.typeIs PyProof.Rows.slot_tuple_getitem (wpAny_call_entry PyProof.Rows.slot_tuple_getitem htp.typeIs entry_tuple_getitem ?_ (args_tuple_getitem _ _)))
  show wpAny _ _ (Builtin.Tuple.tupleItemsOf (.ref t) >>= _) _ _ s
  refine wpAny_bind (tupleItemsOf_ htp (wpAny_bind (wpAny_typeOf isT ?_)))
  rw [if_pos (by decide)]
  refine wpAny_bind (slice_back isS p1 p2 p3 ?_)
  have no : ¬ ((((items.size : Int) - 1 == 0) && ((-1 : Int) == 1) && (items.size == items.size)) = true) := by
    rw [show ((-1 : Int) == 1) = false by decide, Bool.and_false, Bool.false_and]
    exact Bool.false_ne_true
  show wpAny _ _ (if (((items.size : Int) - 1 == 0) && ((-1 : Int) == 1) && (items.size == items.size)) = true then _ else _) _ _ s
  rw [if_neg no, back_pick]
  first
    | exact wpAny_bind (m := Builtin.Tuple.tupleExact _) (wpAny_newObj_type (wpAny_pure ⟨_, rfl, wpAny_pure now⟩) fits)
    | exact wpAny_bind (m := Builtin.Tuple.tupleExact _) (wpAny_newObj_type (wpAny_bind (wpAny_pure (wpAny_pure ⟨_, rfl, wpAny_pure now⟩))) fits)
    | exact wpAny_bind (wpAny_bind (m := Builtin.Tuple.tupleExact _) (wpAny_newObj_type (wpAny_pure (wpAny_pure ⟨_, rfl, wpAny_pure now⟩)) fits))
    | exact wpAny_bind (wpAny_bind (m := Builtin.Tuple.tupleExact _) (wpAny_newObj_type (wpAny_pure ⟨_, rfl, wpAny_pure now⟩) fits))
end
def tBack (K : PySem.W.Frag) (te : TE) : TE := fun σ H Q => te σ H fun x H1 => ∃ (b : Addr) (us : List V), x = .ref b ∧ SqT K H1 b us ∧ ∀ n, H1 n = none → Q (.ref n) (upd H1 n (.tup us.reverse))
theorem pe_back {X : Cx} {e : Expr} {te : TE} {k : Nat} {q1 q2 q3 q : Pos} (he : PE X e te) : PE X (.Subscript e (.Slice none none (some (.UnaryOp .USub (.Constant (.int 1) k q1) q2)) q3) q) (tBack X.K te) := by
  constructor
  intro pins s σ H Q I want
  refine Subscript_ (thn (he.run pins s σ H _ I want) ?_)
  rintro v s1 ⟨x, H1, I1, r1, b, us, rfl, hb, now⟩
  cases r1
  have neg : PO X (some (.UnaryOp .USub (.Constant (.int 1) k q1) q2)) (tPart (tUn (rU fun i => .int (-i)) (tC (.int 1)))) := po_some (pe_un un_neg pe_int)
  refine wpAny_Slice (thn (po_none.run pins s1 σ H1 (fun o H2 => o = none ∧ H2 = H1) I1 ⟨rfl, rfl⟩) ?_)
  rintro w1 s2 ⟨_, H2, I2, p1, rfl, rfl⟩
  refine thn (po_none.run pins s2 σ H2 (fun o H3 => o = none ∧ H3 = H2) I2 ⟨rfl, rfl⟩) ?_
  rintro w2 s3 ⟨_, H3, I3, p2, rfl, rfl⟩
  refine thn (neg.run pins s3 σ H3 (fun o H4 => o = some (-1) ∧ H4 = H3) I3 ⟨1, rfl, -1, rfl, rfl, rfl⟩) ?_
  rintro w3 s4 ⟨_, H4, I4, p3, rfl, rfl⟩
  have I5 : Inv X pins σ H4 { s4 with heap := s4.heap.push { cls := .type "slice", data := .fields #[w1, w2, w3] } } := I4.kept (t' := s4.toks) fun c oc z => Heap.get?_push_of_some _ z
  obtain ⟨its, rv, htp, small⟩ := I5.tuple hb
  have same := rv.length
  show wpAny (model X.prog X.w) X.A (subscriptTail e (.Slice none none (some (.UnaryOp .USub (.Constant (.int 1) k q1) q2)) q3) (.ref b) (.ref s4.heap.objs.size)) (EP X pins σ Q) X.xe { s4 with heap := s4.heap.push { cls := .type "slice", data := .fields #[w1, w2, w3] } }
  refine tail_any (ops := [.ref b, .ref s4.heap.objs.size]) htp.typeIs (PyProof.Rows.slot_tuple_getitem.lookup) ?_ (by with_unfolding_all rfl)
  refine item_back htp (Heap.IsSliceOf.new _ w1 w2 w3) p1 p2 p3 ?_ (by rw [List.size_toArray]; omega)
  refine ⟨.ref _, _, I5.laid (t' := s4.toks) (o := .tup us.reverse) (fun c oc z => Heap.get?_push_of_some _ z) (Nat.le_refl _) ?_, rfl, now _ (I5.hok.fresh (Nat.le_refl _))⟩
  exact ⟨by rw [List.length_reverse]; exact small, _, rv.reverse, IsTup.new _ _⟩
end Rt
namespace Rt
open PySem PySem.Spec L2
open PyProof.Rows hiding St
/-! ### repr of data -/
mutual
theorem dp_plain {K : PySem.W.Frag} {H : Hp} : ∀ (d : PyData) (v : V), Dp K H v d → d.hasDict = false
  | .none, _, _ => by simp only [PyData.hasDict]
  | .bool _, _, _ => by simp only [PyData.hasDict]
  | .int _, _, _ => by simp only [PyData.hasDict]
  | .str _, _, _ => by simp only [PyData.hasDict]
  | .list ds, _, h => by
    cases h with
    | lst _ ha =>
      simp only [PyData.hasDict]
      exact dp_plainAll ds _ ha
  | .tuple ds, _, h => by
    cases h with
    | tup _ ha =>
      simp only [PyData.hasDict]
      exact dp_plainAll ds _ ha
  | .dict _, _, h => by cases h
theorem dp_plainAll {K : PySem.W.Frag} {H : Hp} : ∀ (ds : List PyData) (vs : List V), DpAll K H vs ds → PyData.hasDictAll ds = false
  | [], _, _ => by simp only [PyData.hasDictAll]
  | d :: ds, _, h => by
    cases h with
    | cons h1 h2 => simp only [PyData.hasDictAll, dp_plain d _ h1, dp_plainAll ds _ h2, Bool.or_self]
end
def rRepr (K : PySem.W.Frag) : List V → Hp → VK → Prop := fun xs H Q => ∃ v d, xs = [v] ∧ Dp K H v d ∧ d.showable = true ∧ d.depth ≤ 60 ∧ d.shown.length ≤ sizeLine ∧ Q (.str d.shown) H
section
variable {X : Cx}
theorem call_repr (hg : X.A.guards = some []) (hu : X.A.units + 64 < cLine) : CallR X (.builtin "repr") (rRepr X.K) := by
  intro pins s σ H xs us Q I r h
  obtain ⟨v, d, rfl, hd, hs, hdep, hz, q⟩ := h
  obtain ⟨u, rfl, ru⟩ := vals1 r
  have np := dp_plain d v hd
  obtain ⟨as, rd⟩ := Dp.reads I d v u hd ru
  cases rd with
  | none => exact PySem.P.repr_of_none ⟨.str _, H, I.tok _, ⟨_, rfl⟩, by simpa only [PyData.shown] using q⟩
  | bool b => exact PySem.P.repr_of_bool ⟨.str _, H, I.tok _, ⟨_, rfl⟩, by simpa only [PyData.shown] using q⟩
  | int i t => exact PySem.P.repr_of_int (by simpa [PyData.showable] using hs) ⟨.str _, H, I.tok _, ⟨_, rfl⟩, by simpa only [PyData.shown] using q⟩
  | str x t => exact PySem.P.repr_of_str ⟨.str _, H, I.tok _, ⟨_, rfl⟩, by simpa only [PyData.shown] using q⟩ (by simpa only [PyData.shown] using hz)
  | list h1 h2 h3 h4 =>
    exact repr_of_reads' (.list h1 h2 h3 h4) hs (fun z => by rw [np] at z; cases z) hg (by omega) (fun _ _ e => e) (fun h' u tk kp => ⟨.str _, H, I.kept kp, ⟨u, rfl⟩, q⟩) hz
  | tuple h1 h2 h3 h4 =>
    exact repr_of_reads' (.tuple h1 h2 h3 h4) hs (fun z => by rw [np] at z; cases z) hg (by omega) (fun _ _ e => e) (fun h' u tk kp => ⟨.str _, H, I.kept kp, ⟨u, rfl⟩, q⟩) hz
  | dict => simp [PyData.hasDict] at np
end
end Rt
/-! own rules: exceptions as values, with attributes -/
namespace Rt
open PySem PySem.Spec L2
open PyProof.Rows hiding St
/-- an exception of the class at C stands at a; its attributes are fs -/
def Ex (H : Hp) (a C : Addr) (fs : List (Str × V)) : Prop := (fs = [] ∧ H a = some (exo a C none)) ∨ ∃ d, H a = some (exo a C (some d)) ∧ H d = some (exd d fs)
section
variable {X : Cx} {pins : List (Addr × Obj)} {σ : St} {H : Hp} {s : Shared} {a C : Addr} {fs : List (Str × V)}
/-- its object, and its own dict, if it has one -/
theorem ex_inst (I : Inv X pins σ H s) (e : Ex H a C fs) : ∃ (ox : Obj) (od : Option Obj), PySem.W.InstAt s.heap a ox C od ∧
    ∀ n v, fs.lookup n = some v → ∃ u o, od = some o ∧ PySem.W.lookIn n o = some (some u) ∧ L2.RelV v u := by
  rcases e with ⟨rfl, e⟩ | ⟨d, e, ed⟩
  · obtain ⟨t1, he⟩ := exo_at I.hok e
    exact ⟨_, none, ⟨he, rfl, rfl, trivial⟩, fun n v z => nomatch z⟩
  · obtain ⟨t1, he⟩ := exo_at I.hok e
    obtain ⟨mA, hns, rel⟩ := exd_at I.hok ed
    obtain ⟨od, ho, hl⟩ := lookIn_ns hns
    refine ⟨_, some od, ⟨he, rfl, rfl, ho⟩, fun n v z => ?_⟩
    obtain ⟨u, hu, ru⟩ := RelO.some_of (v := v) (o := mA n) (by rw [← z]; exact rel n)
    exact ⟨u, od, rfl, by rw [hl, hu], ru⟩
theorem ex_kit (C' : ExcC X.K C) : PySem.W.KitX X.K (.ref a) (.ref C) (fun h => ∃ ox od, PySem.W.InstAt h a ox C od) := by
  have hcl : (PySem.W.clsIn X.K C).isSome = true := by
    obtain ⟨cd, hc, _⟩ := PySem.W.any_some C'.hd
    rw [hc]
    rfl
  have Z := fun ox od => PySem.W.kitx_exc (x := a) (ox := ox) (od := od) hcl C'.hg C'.hk C'.hs C'.ha C'.hn C'.ht C'.hm
  exact ⟨fun _ _ x ⟨ox, od, p⟩ => (Z ox od).ty _ _ x p, fun _ _ x ⟨ox, od, p⟩ => (Z ox od).it _ _ x p, fun h tp dd its n sl x t => (Z default none).ne h tp dd its n sl x t, fun x ⟨ox, od, p⟩ k => (Z ox od).ca x p k⟩
end
/-- isinstance(e, c), isinstance(e, (c1, c2)) -/
def rIsX (K : PySem.W.Frag) : List V → Hp → VK → Prop := fun xs H Q => ∃ (a C : Addr) (fs : List (Str × V)), Ex H a C fs ∧ ExcC K C ∧
  ((∃ (c : V) (u : Value) (b : Bool), xs = [.ref a, c] ∧ ClsV c u ∧ PySem.W.kitOne K (.ref C) u = some b ∧ Q (.bl b) H) ∨
   (∃ (tp : Addr) (cs : List V) (us : List Value) (b : Bool), xs = [.ref a, .ref tp] ∧ H tp = some (.tup cs) ∧ Paired ClsV cs us ∧ PySem.W.kitAny K (.ref C) us = some b ∧ Q (.bl b) H))
section
variable {X : Cx}
theorem call_isX : CallR X (.builtin "isinstance") (rIsX X.K) := by
  intro pins s σ H xs us Q I r h
  obtain ⟨a, C, fs, e, CC, h⟩ := h
  obtain ⟨ox, od, J, _⟩ := ex_inst I e
  have no : (Value.ref a) ≠ .builtin "__main__.__loader__#opaque" := fun z => nomatch z
  rcases h with ⟨c, u, b, rfl, k, ek, q⟩ | ⟨tp, cs, ws, b, rfl, hT, k, ek, q⟩
  · obtain ⟨u1, u2, rfl, r1, r2⟩ := vals2 r
    cases r1
    cases k.eq r2
    exact PySem.W.kia_one (ex_kit CC) I.kIn ⟨ox, od, J⟩ ek no fun tk => ⟨.bl b, H, I.tok tk, rfl, q⟩
  · obtain ⟨u1, u2, rfl, r1, r2⟩ := vals2 r
    cases r1
    cases r2
    obtain ⟨_, its, rv, o, h1, h2, n, h3⟩ := (show ObjOk X.prog X.w H s.heap tp (.tup cs) from I.hok tp _ hT)
    cases ClsV.all k rv
    obtain ⟨oc, ode, dt, sl⟩ := o
    cases h2
    cases h3
    exact PySem.W.kia_tup (ex_kit CC) I.kIn ⟨ox, od, J⟩ h1 ek no fun tk => ⟨.bl b, H, I.tok tk, rfl, q⟩
/-- e.n of such an exception -/
def tXg (K : PySem.W.Frag) (n : Str) (te : TE) : TE := fun σ H Q => te σ H fun x H1 => ∃ (a C : Addr) (fs : List (Str × V)) (v : V), x = .ref a ∧ Ex H1 a C fs ∧ ExcC K C ∧ PySem.W.findIn K (.ref C) n = some none ∧ fs.lookup n = some v ∧ Q v H1
theorem pe_xg {e : Expr} {te : TE} {pos : Pos} {n : Str} (he : PE X e te) (hb : attributeBase e n X.env (eval e X.env) = eval e X.env := by rfl) : PE X (.Attribute e n pos) (tXg X.K n te) := by
  constructor
  intro pins s σ H Q I h
  refine attr_of hb (thn (he.run pins s σ H _ I h) ?_)
  rintro u s1 ⟨x, H1, J, rx, a, C, fs, v, rfl, ex, CC, hno, l, q⟩
  cases rx
  obtain ⟨ox, od, inst, look⟩ := ex_inst J ex
  obtain ⟨w, o, rfl, lu, rw'⟩ := look n v l
  exact HandSPX.exc_get J.kIn inst CC.hg CC.hk CC.hs (PySem.W.findObj_own CC.hd hno rfl lu) (handed_of rw') ⟨v, H1, J.tok _, rw', q⟩
end
end Rt
namespace Rt
open PySem PySem.Spec L2
open PyProof.Rows hiding St
section
open Builtin Builtin.ObjectAttr PySem.Calls
variable {prog : Program} {w : World} {A : Around} {R : Result → Shared → Prop} {hp : Heap} {g : Array GenState} {d : Drawn} {t : Nat} {os : OsState}
/-- the first attribute of an exception of one's own, whatever its built-in base is -/
theorem exc_first {K : PySem.W.Frag} {B : String} {bmB : List Value} {name : Str} {tk : Tok} {v : Value} {x C : Addr} {fv : Array Value}
    (SF : StoreFacts B bmB "object.__setattr__" "object") (kin : K.In hp) (hx : hp.get? x = some { cls := .ref C, data := .fields fv }) (over : PySem.W.excOver K C bmB = true) (no : PySem.W.findIn K (.ref C) name = some none) (hd : PySem.W.hasDictIn K C = true)
    (hq : ∀ h' tk' dx, (∀ b o, b ≠ x → hp.get? b = some o → h'.get? b = some o) → hp.objs.size ≤ dx → dx ≠ x → h'.get? x = some { cls := .ref C, dict := some dx, data := .fields fv } →
      h'.Ns1 dx (fun y => if y = name then some v else none) → R (.ok (.ret .none)) ⟨h', g, d, tk', os⟩) :
    codeAny (model prog w) A (.call (.builtin "object.__setattr__") ⟨[.ref x, .str name tk, v], []⟩) R ⟨hp, g, d, t, os⟩ := by
  have inst : PySem.W.InstAt hp x { cls := .ref C, data := .fields fv } C none := ⟨hx, rfl, rfl, trivial⟩
  have taker : PySem.W.takerIn K C name = some none := by
    unfold PySem.W.takerIn
    rw [no]
    rfl
  have far : x ≠ hp.objs.size := Nat.ne_of_lt (Heap.lt_size hx)
  obtain ⟨cd, hcd, hh⟩ := PySem.W.any_some hd
  refine PySem.W.osa_openX (s := ⟨hp, g, d, t, os⟩) SF kin inst over taker fun b => ?_
  have hcls : PySem.W.Looks (model prog w) hp (classData C) cd := PySem.W.looks_clsIn kin hcd
  obtain ⟨nm, bs, mro, ns, qn, hdc, sn, sb, ab, col, del⟩ := cd
  dsimp only at hh
  subst hh
  show wpAny _ _ (storeInOwnDict (.ref x) (.ref C) (.str name tk) name v b) _ _ _
  unfold storeInOwnDict ownDictForStores
  repeat (first | with_reducible refine HandSPX.store_in_new ?_ ?_ | with_reducible refine wpAny_loadPart_at hx ?_ | with_reducible refine hcls.at ?_ | wp_step)
  · exact ⟨_, #[], _, (Heap.get?_update_ne _ _ _ _ far.symm).trans (Heap.get?_push_at rfl rfl), rfl, fun e he => absurd he (by simp), fun _ => rfl⟩
  · intro h' tk' ns1 same
    have there : (hp.push { cls := .type "dict", data := .dict #[] }).get? x = some { cls := .ref C, data := .fields fv } := Heap.get?_push_of_some _ hx
    refine hq h' tk' hp.objs.size ?_ (Nat.le_refl _) far.symm ?_ ns1
    · intro b o nb ho
      exact (same.2 b (Nat.ne_of_lt (Heap.lt_size ho))).trans ((Heap.get?_update_ne _ _ _ _ nb).trans (Heap.get?_push_of_some _ ho))
    · exact (same.2 x far).trans (Heap.get?_update_self _ there rfl)
end
end Rt
namespace Rt
open PySem PySem.Spec L2
open PyProof.Rows hiding St
/-- a class of one's own over a built-in exception: its instances may be made, read, stored into -/
structure ExM (K : PySem.W.Frag) (C : Addr) (bmB : List Value) : Prop where
  over : PySem.W.excOver K C bmB = true
  sa : PySem.W.findIn K (.ref C) "__setattr__" = some (some (.builtin "object.__setattr__"))
  cc : ExcC K C
  kp : PySem.W.keepIn K (.ref C) = true
section
variable {X : Cx} {pins : List (Addr × Obj)} {σ : St} {H : Hp} {s : Shared} {a C : Addr} {f : Str} {y : V} {u : Value} {B : String} {bmB : List Value} {Q : Unit → Shared → Prop} {E : Value → Shared → Prop} {A : Around}
theorem ext_ne {φ : Heap → Prop} {o : HO} {b c : Addr} (h1 : H b = some (.ext φ)) (h2 : H c = some o) (d : ∀ ψ, o ≠ .ext ψ) : c ≠ b := fun z => by
  rw [z, h1] at h2
  exact d φ (Option.some.inj h2).symm
theorem set_first (SF : StoreFacts B bmB "object.__setattr__" "object") (M : ExM X.K C bmB) (no : PySem.W.findIn X.K (.ref C) f = some none) (I : Inv X pins σ H s) (e : H a = some (exo a C none)) (ry : L2.RelV y u)
    (h : ∀ dx s', H dx = none → dx ≠ a → Inv X pins σ (upd (upd H dx (exd dx [(f, y)])) a (exo a C (some dx))) s' → Q () s') : wpAny (model X.prog X.w) A (setAttr (.ref a) f u) Q E s := by
  obtain ⟨t1, there⟩ := exo_at I.hok e
  obtain ⟨hp, g, d, t, os⟩ := s
  refine PySem.W.set_plain (ox := { cls := .ref C, dict := none, data := .fields #[.ref t1, .none, .none, .none, .bool false, .none] }) (od := none) I.kIn ⟨there, rfl, rfl, trivial⟩ M.sa ?_
  refine exc_first SF I.kIn there M.over no M.cc.hd ?_
  intro h' tk' dx kp big apart hx ns1
  have fresh : H dx = none := I.hok.fresh big
  have old : ∀ {b : Addr} {o : Obj}, hp.get? b = some o → b ≠ dx := fun {b o} z => Nat.ne_of_lt (Nat.lt_of_lt_of_le (Heap.lt_size z) big)
  have free : ∀ {b : Addr}, H b = none → b ≠ a := fun {b} z y => by
    rw [y, e] at z
    cases z
  have keepsH : ∀ {b : Addr} {o : HO}, H b = some o → b ≠ a → (upd (upd H dx (exd dx [(f, y)])) a (exo a C (some dx))) b = some o := fun {b o} z nb => by
    rw [upd_ne nb, upd_ne (ne_of_none z fresh)]
    exact z
  have U : Un X.fs [] H (upd (upd H dx (exd dx [(f, y)])) a (exo a C (some dx))) hp h' := by
    constructor
    · exact fun b o z n _ _ => kp b o (free n) z
    · exact fun b o z n _ _ => ⟨o.slots, kp b o (free n) z⟩
    · intro b o z n _
      rw [upd_ne (free n), upd_ne (old z)]
      exact n
    · intro b o z _
      by_cases hb : b = a
      · subst hb
        exact ⟨_, hx⟩
      · exact ⟨o, kp b o hb z⟩
    · exact fun b xs z => keepsH z (ext_ne e z (fun _ => nofun))
    · exact fun b o v z => keepsH z (ext_ne e z (fun _ => nofun))
    · exact fun b ps z => ⟨#[], by rw [keepsH z (ext_ne e z (fun _ => nofun))]; simp⟩
  refine h dx _ fresh apart (I.un (t' := tk') U ?_)
  intro b o z
  by_cases hb : b = a
  · subst hb
    rw [upd_same] at z
    cases z
    exact exo_ok hx
  · rw [upd_ne hb] at z
    by_cases hd : b = dx
    · subst hd
      rw [upd_same] at z
      cases z
      exact exd_ok ns1 (relO_put (fs := []) ry fun _ => True.intro)
    · rw [upd_ne hd] at z
      refine (I.hok b o z).stay (fun c v hc q => kp c v ?_ q) (fun c q => keepsH q (ext_ne e q (fun _ => nofun))) fun c xs q => keepsH q (ext_ne e q (fun _ => nofun))
      rcases hc with rfl | hc
      · exact hb
      · exact ext_ne e hc (fun _ => nofun)
end
/-- self.f = e, within the own __init__ -/
def tXs (K : PySem.W.Frag) (bmB : List Value) (f : Str) (to te : TE) : TS := fun D σ H => te σ H fun y H1 => to σ H1 fun x H2 => ∃ a C : Addr, x = .ref a ∧ ExM K C bmB ∧ PySem.W.findIn K (.ref C) f = some none ∧ H2 a = some (exo a C none) ∧
  ∀ dx, H2 dx = none → dx ≠ a → D.nx σ (upd (upd H2 dx (exd dx [(f, y)])) a (exo a C (some dx)))
section
variable {X : Cx} {o e : Expr} {to te : TE} {f : Str} {p p' pos : Pos} {B : String} {bmB : List Value} {es : List Expr} {ta : TA}
theorem ps_xs (SF : StoreFacts B bmB "object.__setattr__" "object") (ho : PE X o to) (he : PE X e te) (hs : swapsWith e (some (.Attribute o f p')) pos.line X.env = pure false := by rfl) : PS X (.Assign [.Attribute o f p'] e pos) (tXs X.K bmB f to te) := by
  constructor
  intro pins s σ H D I h
  refine plainObj_wpAny_Assign_Attribute (thn (he.run pins s σ H _ I h) ?_) hs
  rintro v s1 ⟨y, H1, J1, r1, q1⟩
  refine thn (ho.run pins s1 σ H1 _ J1 q1) ?_
  rintro u s2 ⟨x, H2, J2, r2, a, C, rfl, M, no, ea, q⟩
  cases r2
  exact set_first SF M no J2 ea r1 fun dx s' n ne J => ⟨σ, _, J, q dx n ne⟩
/-- C(e, ..), C's own __init__ keeping sp: the new exception as a value -/
def tXm (C : Addr) (sp : Sp) (ta : TA) : TE := fun σ H Q => ta σ H fun vs H1 => vs.length ≤ 1000 ∧ ∀ a, H1 a = none → sp (.ref a :: vs) (upd H1 a (exo a C none)) (fun v H2 => v = .non ∧ Q (.ref a) H2) E0
theorem pe_xm {x : Str} {C fI : Addr} {k : Nat} {fd : FuncData} {ps : List Str} {sp : Sp} {newId initId : String} (F : ExcBaseFacts B newId initId bmB) (M : ExM X.K C bmB) (ini : PySem.W.excInitIn X.K C bmB newId = true)
    (iC : PySem.W.findIn X.K (.ref C) "__init__" = some (some (.ref fI))) (tI : PySem.W.typeIn X.K (.ref fI) = some (.type "function")) (G : FnOk X.prog X.w X.K X.mg X.base CX0 k fI fd ps sp) (hr : Room (k + 1) X.A) (hb : Binds X.K fd ps [])
    (hg : Gl X x) (hm : X.mg x = some (.ref C)) (ha : PA X (e :: es) ta) (hdb : (x == ("__debug__" : Str)) = false := by decide) (he : starEach (e :: es) X.env = (false, eval e X.env) :: starEach es X.env := by rfl)
    (hpl : (backTo pos (starEach es X.env)).any (·.1) = false := by rfl) : PE X (.Call (.Name x p) (e :: es) [] pos) (tXm C sp ta) := by
  constructor
  intro pins s σ H Q I h
  refine wpAny_Call_Name_kw (ld_glob I hg hm ?_ hdb)
  refine PySem.W.callWith_K (h₀ := X.base) I.ok.mod.kin M.kp (thn (ha.run pos pins s σ H _ I h) ?_) he hpl
  rintro us s1 ⟨vs, H1, J, rv, few, q⟩
  refine ⟨J.kIn, ?_⟩
  show wpAny _ _ (call (.ref C) us) _ _ _
  obtain ⟨hp, g, dr, tk, os⟩ := s1
  obtain ⟨nm, N, qn, bs, bm, hdct, sn, sub, ab, col, dd, k0, k1, k2, k3, k5, hC, tail⟩ := PySem.W.excInit_of J.kIn ini
  have le : hp.objs.size ≤ hp.objs.size + 1 := Nat.le_succ _
  have hn : H1 (hp.objs.size + 1) = none := J.hok.fresh le
  have want := q (hp.objs.size + 1) hn
  have kept : ∀ b o, hp.get? b = some o → ((hp.push (PySem.W.kdv_tup us)).push (PySem.HandSPX.excO C hp.objs.size)).get? b = some o := fun b o z => Heap.get?_push_of_some _ (Heap.get?_push_of_some _ z)
  have got : ((hp.push (PySem.W.kdv_tup us)).push (PySem.HandSPX.excO C hp.objs.size)).get? (hp.objs.size + 1) = some (PySem.HandSPX.excO C hp.objs.size) := by heap_get
  have J2 : Inv X pins σ (upd H1 (hp.objs.size + 1) (exo (hp.objs.size + 1) C none)) ⟨(hp.push (PySem.W.kdv_tup us)).push (PySem.HandSPX.excO C hp.objs.size), g, dr, tk, os⟩ :=
    J.laid (t' := tk) kept le (exo_ok got)
  have r2 : Vals (V.ref (hp.objs.size + 1) :: vs) (Value.ref (hp.objs.size + 1) :: us) := .cons rfl rv
  have hl : (Value.ref (hp.objs.size + 1) :: us).length = ps.length := by
    rw [← r2.length]
    exact G.len _ _ _ _ want
  have hus : us.length ≤ sizeLine := by
    rw [← Paired.length rv, sizeLine_eq]
    omega
  have bt : BindsTo ⟨(hp.push (PySem.W.kdv_tup us)).push (PySem.HandSPX.excO C hp.objs.size), g, dr, tk, os⟩ fd ⟨Value.ref (hp.objs.size + 1) :: us, []⟩ (ps.zip (Value.ref (hp.objs.size + 1) :: us)) := by
    have z := hb _ (Value.ref (hp.objs.size + 1) :: us) J2.kIn (by simpa using hl)
    simpa using z
  refine wpAny_call (PySem.HandSPX.call_own F tail hC (PySem.W.looks_findIn J.kIn iC) (fun self => PySem.W.bind_fn J.kIn self tI) hus
    (codeAny_mono (G.run _ X.stack _ _ ⟨Value.ref (hp.objs.size + 1) :: us, []⟩ (Value.ref (hp.objs.size + 1) :: us) _ _ E0 (hr.make C us []) (J2.env0.make C us []) bt r2 want) ?_))
  intro r s2 out
  match r, out with
  | .error _, z => exact False.elim z
  | .ok .next, z => exact False.elim z
  | .ok .brk, z => exact False.elim z
  | .ok .cont, z => exact False.elim z
  | .ok (.ret u), z =>
    obtain ⟨v, H2, J3, ru, rfl, q3⟩ := J2.after z
    exact ⟨ru, ⟨.ref (hp.objs.size + 1), H2, J3, rfl, q3⟩⟩
/-- C(), C without an own __init__ -/
def tXn (C : Addr) : TE := fun _ H Q => ∀ a, H a = none → Q (.ref a) (upd H a (exo a C none))
theorem pe_xn {x : Str} {C : Addr} {newId initId : String} (F : ExcBaseFacts B newId initId bmB) (q : PySem.W.excIn X.K C bmB newId = true) (kp : PySem.W.keepIn X.K (.ref C) = true) (hg : Gl X x) (hm : X.mg x = some (.ref C))
    (hdb : (x == ("__debug__" : Str)) = false := by decide) : PE X (.Call (.Name x p) [] [] pos) (tXn C) := by
  constructor
  intro pins s σ H Q I h
  refine wpAny_Call_Name_kw (ld_glob I hg hm ?_ hdb)
  refine PySem.W.callWith_K0 I.kIn kp ?_
  obtain ⟨bm, N, nm, qn, bs, hdct, sn, sub, ab, col, dd, k0, k1, k2, k3, k5, mN, hC, hN, hni, T⟩ := exc_obj I.kIn q
  obtain ⟨hp, g, d, t, os⟩ := s
  refine wpAny_call_exc_subT F T hC hN hni (fun h' b made => ?_) (by show 0 ≤ sizeLine; omega)
  have hn : H b = none := I.hok.gone made.new
  obtain ⟨t1, there, _, _⟩ := made.there
  exact ⟨.ref b, _, I.laidN made.keeps made.new hn (exo_ok there), rfl, h b hn⟩
end
end Rt
/-! own rules: repr of data with dicts in it -/
namespace Rt
open PySem PySem.Spec L2
open PyProof.Rows hiding St
def kd : Key → PyData
  | .inl i => .int i
  | .inr x => .str x
mutual
inductive Dx (K : PySem.W.Frag) (H : Hp) : V → PyData → Prop
  | non : Dx K H .non .none
  | bl (b : Bool) : Dx K H (.bl b) (.bool b)
  | int (i : Int) : Dx K H (.int i) (.int i)
  | str (x : Str) : Dx K H (.str x) (.str x)
  | lst {a : Addr} {xs : List V} {ds : List PyData} : SqL K H a xs → DxAll K H xs ds → Dx K H (.ref a) (.list ds)
  | tup {a : Addr} {xs : List V} {ds : List PyData} : SqT K H a xs → DxAll K H xs ds → Dx K H (.ref a) (.tuple ds)
  | dic {a : Addr} {kvs : List (Key × V)} {ds : List PyData} : H a = some (.dK kvs) → DxAll K H (kvs.map (·.2)) ds → Dx K H (.ref a) (.dict ((kvs.map fun p => kd p.1).zip ds))
inductive DxAll (K : PySem.W.Frag) (H : Hp) : List V → List PyData → Prop
  | nil : DxAll K H [] []
  | cons {v : V} {vs : List V} {d : PyData} {ds : List PyData} : Dx K H v d → DxAll K H vs ds → DxAll K H (v :: vs) (d :: ds)
end
theorem DxAll.length {K : PySem.W.Frag} {H : Hp} : ∀ {vs : List V} {ds : List PyData}, DxAll K H vs ds → vs.length = ds.length
  | _, _, .nil => rfl
  | _, _, .cons _ t => congrArg (· + 1) t.length
/-- a value's data, where it stands, with what its repr rests on -/
structure Told (prog : Program) (w : World) (h : Heap) (u : Value) (d : PyData) : Prop where
  ex : ∃ as bs, Reads h u d as ∧ ReadAtMost h d.depth bs ∧ (d.showable = true → d.shown.length ≤ sizeLine → ReprK prog w bs h d.depth u d.shown)
structure ToldAll (prog : Program) (w : World) (h : Heap) (us : List Value) (ds : List PyData) : Prop where
  ex : ∃ as bs, ReadsAll h us ds as ∧ ReadAtMost h (PyData.depthAll ds) bs ∧
    (PyData.showableAll ds = true → (∀ t ∈ PyData.shownAll ds, t.length ≤ sizeLine) → ReprAllK prog w bs h (PyData.depthAll ds) us (PyData.shownAll ds))
section
variable {prog : Program} {w : World} {h : Heap}
theorem ToldAll.nil : ToldAll prog w h [] [] := ⟨[], [], .nil, (fun _ z => nomatch z), fun _ _ => by simp only [PyData.shownAll]; exact .nil⟩
theorem ToldAll.cons {u : Value} {d : PyData} {us : List Value} {ds : List PyData} (a : Told prog w h u d) (b : ToldAll prog w h us ds) : ToldAll prog w h (u :: us) (d :: ds) := by
  obtain ⟨as, bs, r, m, k⟩ := a.ex
  obtain ⟨as', bs', r', m', k'⟩ := b.ex
  refine ⟨_, bs ++ bs', .cons r r', ?_, fun hs hz => ?_⟩
  · simp only [PyData.depthAll]
    exact (m.mono (Nat.le_max_left _ _)).append (m'.mono (Nat.le_max_right _ _))
  · have hs' : d.showable = true ∧ PyData.showableAll ds = true := by simpa [PyData.showableAll] using hs
    have k1 := k hs'.1 (hz _ (by simp only [PyData.shownAll]; exact List.mem_cons_self ..))
    have k2 := k' hs'.2 fun t ht => hz t (by simp only [PyData.shownAll]; exact List.mem_cons_of_mem _ ht)
    simp only [PyData.depthAll, PyData.shownAll]
    exact .cons ((k1.more fun b z => List.mem_append_left _ z).level_le (Nat.le_max_left _ _)) (k2.more_le (fun b z => List.mem_append_right _ z) (Nat.le_max_right _ _))
theorem zip_fst : ∀ (ks : List PyData) (ds : List PyData), ks.length = ds.length → (ks.zip ds).map (·.1) = ks
  | [], _, _ => rfl
  | _ :: _, [], e => nomatch e
  | k :: ks, d :: ds, e => by
    show k :: ((ks.zip ds).map (·.1)) = k :: ks
    rw [zip_fst ks ds (Nat.succ.inj e)]
theorem zip_snd : ∀ (ks : List PyData) (ds : List PyData), ks.length = ds.length → (ks.zip ds).map (·.2) = ds
  | [], [], _ => rfl
  | [], _ :: _, e => nomatch e
  | _ :: _, [], e => nomatch e
  | k :: ks, d :: ds, e => by
    show d :: ((ks.zip ds).map (·.2)) = d :: ds
    rw [zip_snd ks ds (Nat.succ.inj e)]
theorem Told.list {a : Addr} {o : Obj} {us : List Value} {n : Nat} {ds : List PyData} (h1 : h.get? a = some o) (h2 : o.cls = .type "list") (h3 : o.data = .seq us.toArray n) (t : ToldAll prog w h us ds) : Told prog w h (.ref a) (.list ds) := by
  obtain ⟨as, bs, rs, m, k⟩ := t.ex
  have r : Reads h (.ref a) (.list ds) _ := .list h1 h2 h3 rs
  have out : a ∉ bs := not_mem_of_deeper r (by simp only [PyData.depth]; omega) m
  refine ⟨_, a :: bs, r, ReadAtMost.cons r (by simp only [PyData.depth]; omega) m, fun hs hz => ?_⟩
  have hz' : (listText (PyData.shownAll ds)).length ≤ sizeLine := by simpa only [PyData.shown] using hz
  have kk := k (by simpa [PyData.showable] using hs) fun t ht => Nat.le_trans (listText_mem_le ht) hz'
  simp only [PyData.depth, PyData.shown]
  cases us with
  | nil =>
    cases rs
    simp only [PyData.shownAll, listText_nil]
    exact (ReprK.listEmpty (as := bs) h1 h2 h3).more fun b z => List.mem_cons_of_mem _ z
  | cons x l => exact ReprK.list h1 h2 h3 out (by simpa using kk.length_eq) (fun i y e => kk.item i y (by simpa using e))
theorem Told.tuple {a : Addr} {o : Obj} {us : List Value} {n : Nat} {ds : List PyData} (h1 : h.get? a = some o) (h2 : o.cls = .type "tuple") (h3 : o.data = .seq us.toArray n) (t : ToldAll prog w h us ds) : Told prog w h (.ref a) (.tuple ds) := by
  obtain ⟨as, bs, rs, m, k⟩ := t.ex
  have r : Reads h (.ref a) (.tuple ds) _ := .tuple h1 h2 h3 rs
  have out : a ∉ bs := not_mem_of_deeper r (by simp only [PyData.depth]; omega) m
  refine ⟨_, a :: bs, r, ReadAtMost.cons r (by simp only [PyData.depth]; omega) m, fun hs hz => ?_⟩
  have hz' : (tupleText (PyData.shownAll ds)).length ≤ sizeLine := by simpa only [PyData.shown] using hz
  have kk := k (by simpa [PyData.showable] using hs) fun t ht => Nat.le_trans (tupleText_mem_le ht) hz'
  simp only [PyData.depth, PyData.shown]
  exact ReprK.tuple h1 h2 h3 out kk
theorem Told.dict {a : Addr} {o : Obj} {es : Array DictEntry} {n : Nat} {ks ds : List PyData} (h1 : h.get? a = some o) (h2 : o.cls = .type "dict") (h3 : o.data = .dict es n) (sys : (a == sysModules) = false) (le : ks.length = ds.length)
    (t1 : ToldAll prog w h (es.toList.map (·.key)) ks) (t2 : ToldAll prog w h (es.toList.map (·.val)) ds) : Told prog w h (.ref a) (.dict (ks.zip ds)) := by
  obtain ⟨as, bs, rs, m, k⟩ := t1.ex
  obtain ⟨as', bs', rs', m', k'⟩ := t2.ex
  have ek := zip_fst ks ds le
  have ev := zip_snd ks ds le
  have dk := PyData.depthAll_keys_le (ks.zip ds)
  have dv := PyData.depthAll_vals_le (ks.zip ds)
  rw [ek] at dk
  rw [ev] at dv
  have r : Reads h (.ref a) (.dict (ks.zip ds)) _ := .dict h1 h2 h3 (by rw [ek]; exact rs) (by rw [ev]; exact rs')
  have mm : ReadAtMost h (PyData.depthKv (ks.zip ds)) (bs ++ bs') := (m.mono dk).append (m'.mono dv)
  have out : a ∉ bs ++ bs' := not_mem_of_deeper r (by simp only [PyData.depth]; omega) mm
  refine ⟨_, a :: (bs ++ bs'), r, ReadAtMost.cons r (by simp only [PyData.depth]; omega) mm, fun hs hz => ?_⟩
  have hz' : (dictText (PyData.shownKv (ks.zip ds))).length ≤ sizeLine := by simpa only [PyData.shown] using hz
  obtain ⟨s1, s2⟩ := PyData.showableKv_split (ks.zip ds) (by simpa [PyData.showable] using hs)
  rw [ek] at s1
  rw [ev] at s2
  have k1 := k s1 fun t ht => by
    obtain ⟨p, hp, hl⟩ := PyData.shownKv_key_le (ks.zip ds) t (by rw [ek]; exact ht)
    exact Nat.le_trans hl (Nat.le_trans (dictText_mem_le hp) hz')
  have k2 := k' s2 fun t ht => by
    obtain ⟨p, hp, hl⟩ := PyData.shownKv_val_le (ks.zip ds) t (by rw [ev]; exact ht)
    exact Nat.le_trans hl (Nat.le_trans (dictText_mem_le hp) hz')
  simp only [PyData.depth, PyData.shown, PyData.shownKv_eq, ek, ev]
  exact ReprK.dict h1 h2 h3 sys out (ReprEntriesK.of_two es.toList _ _ (k1.more_le (fun b z => List.mem_append_left _ z) dk) (k2.more_le (fun b z => List.mem_append_right _ z) dv))
end
end Rt
namespace Rt
open PySem PySem.Spec L2
open PyProof.Rows hiding St
section
variable {X : Cx} {pins : List (Addr × Obj)} {σ : St} {H : Hp} {s : Shared}
theorem keys_told : ∀ {es : List DictEntry} {kvs : List (Key × V)} {vs : List (Key × Value)}, KV kvs vs → Pairs (mixKind X.prog X.w) es vs →
    ToldAll X.prog X.w s.heap (es.map (·.key)) (kvs.map fun p => kd p.1) ∧ Vals (kvs.map (·.2)) (es.map (·.val))
  | _, _, _, .nil, .nil => ⟨.nil, .nil⟩
  | e :: es, p :: kvs, q :: vs, .cons r t, .cons k v ps => by
    obtain ⟨a, b⟩ := keys_told t ps
    obtain ⟨ep, rv⟩ := r
    refine ⟨.cons ?_ a, .cons ?_ b⟩
    · have k' : keyIs p.1 e.key = true := by
        rw [ep]
        exact k
      show Told X.prog X.w s.heap e.key (kd p.1)
      rcases keyIs_shape k' with ⟨i, tk, e1, e2⟩ | ⟨x, tk, e1, e2⟩
      · rw [e1, e2]
        refine ⟨[], [], .int i tk, (fun _ z => nomatch z), fun hs hz => ?_⟩
        simp only [kd, PyData.shown]
        exact .of_is (ReprIs.int tk (by simpa [PyData.showable, kd] using hs)) _ _ _
      · rw [e1, e2]
        refine ⟨[], [], .str x tk, (fun _ z => nomatch z), fun hs hz => ?_⟩
        simp only [PyData.shown, kd] at hz ⊢
        exact .of_is (ReprIs.str x tk hz) _ _ _
    · show L2.RelV p.2 e.val
      rw [v]
      exact rv
mutual
theorem dx_told (I : Inv X pins σ H s) : ∀ (v : V) (d : PyData) (u : Value), Dx X.K H v d → L2.RelV v u → Told X.prog X.w s.heap u d
  | _, _, _, .non, r => by
    cases r
    exact ⟨[], [], .none, (fun _ z => nomatch z), fun _ _ => by simp only [PyData.shown]; exact .of_is ReprIs.none _ _ _⟩
  | _, _, _, .bl b, r => by
    cases r
    exact ⟨[], [], .bool b, (fun _ z => nomatch z), fun _ _ => by simp only [PyData.shown]; exact .of_is (ReprIs.bool b) _ _ _⟩
  | _, _, _, .int i, r => by
    obtain ⟨tk, rfl⟩ := r
    exact ⟨[], [], .int i tk, (fun _ z => nomatch z), fun hs _ => by simp only [PyData.shown]; exact .of_is (ReprIs.int tk (by simpa [PyData.showable] using hs)) _ _ _⟩
  | _, _, _, .str x, r => by
    obtain ⟨tk, rfl⟩ := r
    exact ⟨[], [], .str x tk, (fun _ z => nomatch z), fun _ hz => by
      simp only [PyData.shown] at hz ⊢
      exact .of_is (ReprIs.str x tk hz) _ _ _⟩
  | _, _, _, .lst hs ha, r => by
    cases r
    obtain ⟨its, rv, ⟨o, n, ho, hc, _, hd⟩, _⟩ := I.list hs
    exact Told.list ho hc hd (dx_toldAll I _ _ _ ha rv)
  | _, _, _, .tup hs ha, r => by
    cases r
    obtain ⟨its, rv, ⟨o, ho, hc, n, hd⟩, _⟩ := I.tuple hs
    exact Told.tuple ho hc hd (dx_toldAll I _ _ _ ha rv)
  | _, _, _, .dic (a := a) (kvs := kvs) (ds := ds) hs ha, r => by
    cases r
    obtain ⟨_, sys, vs, kv, o, es, ep, ho, hx, hd, _, ps, _⟩ := (show ObjOk X.prog X.w H s.heap a (.dK kvs) from I.hok a _ hs)
    obtain ⟨t1, rv⟩ := keys_told (s := s) kv ps
    exact Told.dict ho hx.1 hd sys (by rw [List.length_map, ← ha.length, List.length_map]) t1 (dx_toldAll I _ _ _ ha rv)
theorem dx_toldAll (I : Inv X pins σ H s) : ∀ (vs : List V) (ds : List PyData) (us : List Value), DxAll X.K H vs ds → Vals vs us → ToldAll X.prog X.w s.heap us ds
  | _, _, _, .nil, r => by
    cases r
    exact .nil
  | _, _, _, .cons h t, r => by
    cases r with
    | cons r1 r2 => exact .cons (dx_told I _ _ _ h r1) (dx_toldAll I _ _ _ t r2)
end
end
def rReprX (K : PySem.W.Frag) : List V → Hp → VK → Prop := fun xs H Q => ∃ v d, xs = [v] ∧ Dx K H v d ∧ d.showable = true ∧ d.depth ≤ 60 ∧ d.shown.length ≤ sizeLine ∧ Q (.str d.shown) H
section
variable {X : Cx}
/-- repr(v), v of data, also of dicts -/
theorem call_reprX (hg : X.A.guards = some []) (hu : X.A.units + 64 < cLine) : CallR X (.builtin "repr") (rReprX X.K) := by
  intro pins s σ H xs us Q I r h
  obtain ⟨v, d, rfl, hd, hs, dep, hz, q⟩ := h
  obtain ⟨u, rfl, ru⟩ := vals1 r
  have end0 : ∀ tk, EP X pins σ Q (.str d.shown s.toks) { s with toks := tk } := fun tk => ⟨.str d.shown, H, I.tok _, ⟨_, rfl⟩, q⟩
  have endH : ∀ h' u tk, (∀ b o, s.heap.get? b = some o → h'.get? b = some o) → EP X pins σ Q (.str d.shown u) { s with heap := h', toks := tk } := fun h' u tk kp => ⟨.str d.shown, H, I.kept kp, ⟨u, rfl⟩, q⟩
  have t := dx_told I _ _ _ hd ru
  cases hd with
  | non =>
    cases ru
    exact PySem.P.repr_of_none (by simpa only [PyData.shown] using end0 (s.toks + 1))
  | bl b =>
    cases ru
    exact PySem.P.repr_of_bool (by simpa only [PyData.shown] using end0 (s.toks + 1))
  | int i =>
    obtain ⟨tk, rfl⟩ := ru
    exact PySem.P.repr_of_int (by simpa [PyData.showable] using hs) (by simpa only [PyData.shown] using end0 (s.toks + 1))
  | str x =>
    obtain ⟨tk, rfl⟩ := ru
    exact PySem.P.repr_of_str (by simpa only [PyData.shown] using end0 (s.toks + 1)) (by simpa only [PyData.shown] using hz)
  | @lst a xs ds hl ha =>
    cases ru
    obtain ⟨its, rv, ⟨o, n, ho, hc, _, hdt⟩, _⟩ := I.list hl
    obtain ⟨as, bs, rs, m, k⟩ := (dx_toldAll I _ _ _ ha rv).ex
    have rd : Reads s.heap (.ref a) (.list ds) _ := .list ho hc hdt rs
    have out : a ∉ bs := not_mem_of_deeper rd (by simp only [PyData.depth]; omega) m
    have hz' : (listText (PyData.shownAll ds)).length ≤ sizeLine := by simpa only [PyData.shown] using hz
    have kk := k (by simpa [PyData.showable] using hs) fun t ht => Nat.le_trans (listText_mem_le ht) hz'
    simp only [PyData.depth] at dep
    simp only [PyData.shown] at endH
    refine call_repr_slot (by omega) ⟨o, ho, hc⟩ F.slot_list_repr.toG ?_
    have hu1 : X.A.in1.units + (PyData.depthAll ds + 1) < cLine := by
      show X.A.units + 1 + (PyData.depthAll ds + 1) < cLine
      omega
    cases its with
    | nil =>
      cases rs
      simp only [PyData.shownAll, listText_nil] at endH
      exact call_list_repr_empty ⟨o, ho, hc⟩ ho hdt ⟨_, _, rfl, endH s.heap _ _ fun _ _ e => e⟩
    | cons x l =>
      exact call_list_reprK ho hc hdt out (by simpa using kk.length_eq) (fun i y e => kk.item i y (by simpa using e)) hg (fun b _ => Clear.nil b) hu1 (fun _ _ e => e) (fun h' u tk kp => ⟨_, _, rfl, endH h' u tk kp⟩) hz'
  | @tup a xs ds hl ha =>
    cases ru
    obtain ⟨its, rv, ⟨o, ho, hc, n, hdt⟩, _⟩ := I.tuple hl
    obtain ⟨as, bs, rs, m, k⟩ := (dx_toldAll I _ _ _ ha rv).ex
    have rd : Reads s.heap (.ref a) (.tuple ds) _ := .tuple ho hc hdt rs
    have out : a ∉ bs := not_mem_of_deeper rd (by simp only [PyData.depth]; omega) m
    have hz' : (tupleText (PyData.shownAll ds)).length ≤ sizeLine := by simpa only [PyData.shown] using hz
    have kk := k (by simpa [PyData.showable] using hs) fun t ht => Nat.le_trans (tupleText_mem_le ht) hz'
    simp only [PyData.depth] at dep
    simp only [PyData.shown] at endH
    refine call_repr_slot (by omega) ⟨o, ho, hc⟩ F.slot_tuple_repr ?_
    have hu1 : X.A.in1.units + (PyData.depthAll ds + 1) < cLine := by
      show X.A.units + 1 + (PyData.depthAll ds + 1) < cLine
      omega
    exact call_tuple_reprK ho hc hdt out kk hg (fun b _ => Clear.nil b) hu1 (fun _ _ e => e) (fun h' u tk kp => ⟨_, _, rfl, endH h' u tk kp⟩) hz'
  | @dic a kvs ds hl ha =>
    cases ru
    obtain ⟨_, sys, vs, kv, o, es, ep, ho, hx, hdt, _, ps, _⟩ := (show ObjOk X.prog X.w H s.heap a (.dK kvs) from I.hok a _ hl)
    obtain ⟨t1, rv⟩ := keys_told (s := s) kv ps
    obtain ⟨as, bs, rs, m, k⟩ := t1.ex
    obtain ⟨as', bs', rs', m', k'⟩ := (dx_toldAll I _ _ _ ha rv).ex
    have le : (kvs.map fun p => kd p.1).length = ds.length := by rw [List.length_map, ← ha.length, List.length_map]
    clear end0 t
    revert rs m k le hs dep hz endH
    generalize (kvs.map fun p => kd p.1) = ks
    intro hs dep hz endH rs m k le
    have ek := zip_fst ks ds le
    have ev := zip_snd ks ds le
    have dk := PyData.depthAll_keys_le (ks.zip ds)
    have dv := PyData.depthAll_vals_le (ks.zip ds)
    rw [ek] at dk
    rw [ev] at dv
    have rd : Reads s.heap (.ref a) (.dict (ks.zip ds)) _ := .dict ho hx.1 hdt (by rw [ek]; exact rs) (by rw [ev]; exact rs')
    have mm : ReadAtMost s.heap (PyData.depthKv (ks.zip ds)) (bs ++ bs') := (m.mono dk).append (m'.mono dv)
    have out : a ∉ bs ++ bs' := not_mem_of_deeper rd (by simp only [PyData.depth]; omega) mm
    have hz' : (dictText (PyData.shownKv (ks.zip ds))).length ≤ sizeLine := by simpa only [PyData.shown] using hz
    obtain ⟨s1, s2⟩ := PyData.showableKv_split (ks.zip ds) (by simpa [PyData.showable] using hs)
    rw [ek] at s1
    rw [ev] at s2
    have k1 := k s1 fun t ht => by
      obtain ⟨p, hp, hl⟩ := PyData.shownKv_key_le (ks.zip ds) t (by rw [ek]; exact ht)
      exact Nat.le_trans hl (Nat.le_trans (dictText_mem_le hp) hz')
    have k2 := k' s2 fun t ht => by
      obtain ⟨p, hp, hl⟩ := PyData.shownKv_val_le (ks.zip ds) t (by rw [ev]; exact ht)
      exact Nat.le_trans hl (Nat.le_trans (dictText_mem_le hp) hz')
    simp only [PyData.depth] at dep
    simp only [PyData.shown, PyData.shownKv_eq, ek, ev] at endH
    rw [PyData.shownKv_eq, ek, ev] at hz'
    refine call_repr_slot (by omega) ⟨o, ho, hx.1⟩ F.slot_dict_repr ?_
    have hu1 : X.A.in1.units + (PyData.depthKv (ks.zip ds) + 1) < cLine := by
      show X.A.units + 1 + (PyData.depthKv (ks.zip ds) + 1) < cLine
      omega
    exact call_dict_reprK ho hx.1 hdt sys out (ReprEntriesK.of_two es.toList _ _ (k1.more_le (fun b z => List.mem_append_left _ z) dk) (k2.more_le (fun b z => List.mem_append_right _ z) dv))
      hg (fun b _ => Clear.nil b) hu1 (fun _ _ e => e) (fun h' u tk kp => ⟨_, _, rfl, endH h' u tk kp⟩) hz'
end
end Rt
/-! what the texts of all laws share: the source of numbers, the heap without it, data -/
namespace Rs
open PySem PySem.Spec L2 Rt
open PyProof.Rows hiding St
theorem n_cl : ¬ (("cells" : Str) = "left") := by decide +kernel
theorem n_cm : ¬ (("cells" : Str) = "mixed") := by decide +kernel
theorem n_ct : ¬ (("cells" : Str) = "turn") := by decide +kernel
theorem n_lm : ¬ (("left" : Str) = "mixed") := by decide +kernel
theorem n_lt : ¬ (("left" : Str) = "turn") := by decide +kernel
theorem n_mt : ¬ (("mixed" : Str) = "turn") := by decide +kernel
def srcK (c : Addr) (l m t : Int) : List (Key × V) := [(Sum.inr "cells", .ref c), (Sum.inr "left", .int l), (Sum.inr "mixed", .int m), (Sum.inr "turn", .int t)]
theorem ne_inr {a b : Str} (h : ¬ a = b) : ¬ ((Sum.inr a : Key) = Sum.inr b) := fun e => h (Sum.inr.inj e)
theorem val_cells (c : Addr) (l m t : Int) : valV (srcK c l m t) (Sum.inr "cells") = some (.ref c) := valV_pos rfl
theorem val_left (c : Addr) (l m t : Int) : valV (srcK c l m t) (Sum.inr "left") = some (.int l) := by
  unfold srcK
  rw [valV_neg (ne_inr n_cl), valV_pos rfl]
theorem val_mixed (c : Addr) (l m t : Int) : valV (srcK c l m t) (Sum.inr "mixed") = some (.int m) := by
  unfold srcK
  rw [valV_neg (ne_inr n_cm), valV_neg (ne_inr n_lm), valV_pos rfl]
theorem val_turn (c : Addr) (l m t : Int) : valV (srcK c l m t) (Sum.inr "turn") = some (.int t) := by
  unfold srcK
  rw [valV_neg (ne_inr n_ct), valV_neg (ne_inr n_lt), valV_neg (ne_inr n_mt), valV_pos rfl]
theorem put_left (c : Addr) (l m t z : Int) : putK (srcK c l m t) (Sum.inr "left") (.int z) = srcK c z m t := by
  have h1 := ne_inr n_cl
  have h2 := ne_inr (fun e => n_lm e.symm)
  have h3 := ne_inr (fun e => n_lt e.symm)
  unfold putK srcK
  simp [h1, h2, h3]
theorem put_mixed (c : Addr) (l m t z : Int) : putK (srcK c l m t) (Sum.inr "mixed") (.int z) = srcK c l z t := by
  have h1 := ne_inr n_cm
  have h2 := ne_inr n_lm
  have h3 := ne_inr (fun e => n_mt e.symm)
  unfold putK srcK
  simp [h1, h2, h3]
theorem put_turn (c : Addr) (l m t z : Int) : putK (srcK c l m t) (Sum.inr "turn") (.int z) = srcK c l m z := by
  have h1 := ne_inr n_ct
  have h2 := ne_inr n_lt
  have h3 := ne_inr n_mt
  unfold putK srcK
  simp [h1, h2, h3]
section
variable {H : Hp} {d c : Addr} {l m t : Int}
theorem get_cells (h : H d = some (.dK (srcK c l m t))) : DGet H d (.str "cells") (some (.ref c)) := by
  have z := DGet.k (k := (Sum.inr "cells" : Key)) h
  rw [val_cells] at z
  exact z
theorem get_left (h : H d = some (.dK (srcK c l m t))) : DGet H d (.str "left") (some (.int l)) := by
  have z := DGet.k (k := (Sum.inr "left" : Key)) h
  rw [val_left] at z
  exact z
theorem get_mixed (h : H d = some (.dK (srcK c l m t))) : DGet H d (.str "mixed") (some (.int m)) := by
  have z := DGet.k (k := (Sum.inr "mixed" : Key)) h
  rw [val_mixed] at z
  exact z
theorem get_turn (h : H d = some (.dK (srcK c l m t))) : DGet H d (.str "turn") (some (.int t)) := by
  have z := DGet.k (k := (Sum.inr "turn" : Key)) h
  rw [val_turn] at z
  exact z
theorem few4 : (srcK c l m t).length < sizeLine := by show 4 < sizeLine; decide
theorem st_left (h : H d = some (.dK (srcK c l m t))) (z : Int) : DPut H d (.str "left") (.int z) (upd H d (.dK (srcK c z m t))) := by
  have q := DPut.k (k := (Sum.inr "left" : Key)) (v := .int z) h few4
  rw [put_left] at q
  exact q
theorem st_mixed (h : H d = some (.dK (srcK c l m t))) (z : Int) : DPut H d (.str "mixed") (.int z) (upd H d (.dK (srcK c l z t))) := by
  have q := DPut.k (k := (Sum.inr "mixed" : Key)) (v := .int z) h few4
  rw [put_mixed] at q
  exact q
theorem st_turn (h : H d = some (.dK (srcK c l m t))) (z : Int) : DPut H d (.str "turn") (.int z) (upd H d (.dK (srcK c l m z))) := by
  have q := DPut.k (k := (Sum.inr "turn" : Key)) (v := .int z) h few4
  rw [put_turn] at q
  exact q
end
structure Src (H : Hp) (d c : Addr) : Prop where
  ex : ∃ (ks : List Int) (l m t : Int), H d = some (.dK (srcK c l m t)) ∧ H c = some (.lst (ks.map V.int))
def Keep (d c : Addr) (H H' : Hp) : Prop := ∀ b o, H b = some o → b ≠ d → b ≠ c → H' b = some o
theorem Keep.refl {d c : Addr} {H : Hp} : Keep d c H H := fun _ _ e _ _ => e
theorem Keep.trans {d c : Addr} {H H1 H2 : Hp} (a : Keep d c H H1) (b : Keep d c H1 H2) : Keep d c H H2 := fun x o e n1 n2 => b x o (a x o e n1 n2) n1 n2
theorem Keep.new {d c p : Addr} {o : HO} {H H1 : Hp} (a : Keep d c H H1) (n : H1 p = none) : Keep d c H (upd H1 p o) := fun x u e n1 n2 => by
  have z := a x u e n1 n2
  rw [upd_ne (ne_of_none z n)]
  exact z
theorem Keep.d {d c : Addr} {o : HO} {H H1 : Hp} (a : Keep d c H H1) : Keep d c H (upd H1 d o) := fun x u e n1 n2 => by
  rw [upd_ne n1]
  exact a x u e n1 n2
theorem Keep.c {d c : Addr} {o : HO} {H H1 : Hp} (a : Keep d c H H1) : Keep d c H (upd H1 c o) := fun x u e n1 n2 => by
  rw [upd_ne n2]
  exact a x u e n1 n2
theorem Src.new {d c p : Addr} {o : HO} {H : Hp} (S : Src H d c) (n : H p = none) : Src (upd H p o) d c := by
  obtain ⟨ks, l, m, t, h1, h2⟩ := S.ex
  exact ⟨ks, l, m, t, by rw [upd_ne (ne_of_none h1 n)]; exact h1, by rw [upd_ne (ne_of_none h2 n)]; exact h2⟩
theorem Src.nd {d c : Addr} {H : Hp} {b : Addr} {xs : List V} (S : Src H d c) (h : H b = some (.tup xs)) : b ≠ d ∧ b ≠ c := by
  obtain ⟨ks, l, m, t, h1, h2⟩ := S.ex
  exact ⟨ne_of h h1 (by intro z; cases z), ne_of h h2 (by intro z; cases z)⟩
theorem Keep.tup {d c : Addr} {H H1 : Hp} {b : Addr} {xs : List V} (a : Keep d c H H1) (S : Src H d c) (h : H b = some (.tup xs)) : H1 b = some (.tup xs) := a b _ h (S.nd h).1 (S.nd h).2
def spSource (K : PySem.W.Frag) : Sp := fun vs H Q _ => ∃ (a : Addr) (ns : List Int), vs = [.ref a] ∧ SqL K H a (ns.map V.int) ∧ ns.length ≤ 63 ∧
  ∀ (d c : Addr) (H' : Hp), H d = none → H c = none → Src H' d c → Same H H' → Q (.ref d) H'
def spPick : Sp := fun vs H Q _ => ∃ (d c : Addr) (n : Int), vs = [.ref d, .int n] ∧ Src H d c ∧ n < 1000000000 ∧
  ∀ (r : Int) (H' : Hp), 0 ≤ r → r < n ∨ r = 0 → Src H' d c → Keep d c H H' → Q (.int r) H'
def spOf : Sp := fun vs H Q _ => ∃ (d c p : Addr) (xs : List V), vs = [.ref d, .ref p] ∧ Src H d c ∧ H p = some (.lst xs) ∧ p ≠ c ∧ 0 < xs.length ∧ xs.length < 1000000000 ∧
  ∀ (i : Nat) (v : V) (H' : Hp), xs[i]? = some v → Src H' d c → Keep d c H H' → Q v H'
theorem merge_src (c : Addr) (l m t : Int) : mergeK [] (srcK c l m t) = srcK c l m t := by
  have h1 := ne_inr n_cl
  have h2 := ne_inr n_cm
  have h3 := ne_inr n_ct
  have h4 := ne_inr n_lm
  have h5 := ne_inr n_lt
  have h6 := ne_inr n_mt
  unfold mergeK srcK putK
  simp [h1, h2, h3, h4, h5, h6]
theorem int_at {ns : List Int} {i : Nat} {y : V} (h : (ns.map V.int)[i]? = some y) : ∃ z, ns[i]? = some z ∧ y = V.int z := by
  rw [List.getElem?_map] at h
  cases e : ns[i]? with
  | none => rw [e] at h; cases h
  | some z => rw [e] at h; exact ⟨z, rfl, (Option.some.inj h).symm⟩
theorem same_new {H : Hp} {p : Addr} {o : HO} (n : H p = none) : Same H (upd H p o) := fun b u e => by
  rw [upd_ne (ne_of_none e n)]
  exact e
theorem pick_at {α : Type} {xs : List α} {r : Int} (h0 : 0 ≤ r) (h1 : r < xs.length) : ∃ v, atI xs r = some v ∧ v ∈ xs := by
  obtain ⟨j, ej⟩ : ∃ j : Nat, r = (j : Int) := ⟨r.toNat, by omega⟩
  have hj : j < xs.length := by omega
  refine ⟨xs[j], ?_, List.getElem_mem hj⟩
  subst ej
  unfold atI ixN
  rw [if_pos h0, if_pos h1]
  show xs[((j : Int)).toNat]? = _
  rw [Int.toNat_natCast, List.getElem?_eq_getElem hj]
theorem Src.away {d c p : Addr} {H : Hp} (S : Src H d c) (n : H p = none) : p ≠ d ∧ p ≠ c := by
  obtain ⟨ks, l, m, u, h1, h2⟩ := S.ex
  exact ⟨(ne_of_none h1 n).symm, (ne_of_none h2 n).symm⟩
theorem Src.put {d c L : Addr} {o : HO} {H : Hp} (S : Src H d c) (a : L ≠ d ∧ L ≠ c) : Src (upd H L o) d c := by
  obtain ⟨ks, l, m, u, h1, h2⟩ := S.ex
  exact ⟨ks, l, m, u, by rw [upd_ne a.1.symm]; exact h1, by rw [upd_ne a.2.symm]; exact h2⟩
theorem Keep.put {d c L : Addr} {o : HO} {H H1 : Hp} (a : Keep d c H H1) (n : H L = none) : Keep d c H (upd H1 L o) := fun x u e n1 n2 => by
  rw [upd_ne (ne_of_none e n)]
  exact a x u e n1 n2
def Row {α : Type} (f : α → HO) (H : Hp) (as : List Addr) (ps : List α) : Prop := as.length = ps.length ∧ ∀ (i : Nat) (a : Addr) (p : α), as[i]? = some a → ps[i]? = some p → H a = some (f p)
theorem Row.same {α : Type} {f : α → HO} {H H' : Hp} {as : List Addr} {ps : List α} (r : Row f H as ps) (s : Same H H') : Row f H' as ps := ⟨r.1, fun i a p h1 h2 => s _ _ (r.2 i a p h1 h2)⟩
theorem atI_0 {α : Type} {a : α} {xs : List α} : atI (a :: xs) 0 = some a := by
  unfold atI ixN
  rw [if_pos (Int.le_refl 0), if_pos (by simp)]
  rfl
theorem get_k {H : Hp} {d : Addr} {kvs : List (Key × V)} {x : Str} (h : H d = some (.dK kvs)) : DGet H d (.str x) (valV kvs (Sum.inr x)) := DGet.k (k := Sum.inr x) h
theorem kitLT {K : PySem.W.Frag} {t : Value} (h : t = .type "list" ∨ t = .type "tuple") : PySem.W.kitAny K t [.type "list", .type "tuple"] = some true := by
  rcases h with rfl | rfl
  · exact kitAny_cons (b := true) (kit_ty (by decide +kernel)) (fun z => nomatch z) (fun _ => rfl)
  · exact kitAny_cons (b := false) (kit_ty (by decide +kernel)) (fun _ => kitAny_cons (b := true) (kit_ty (by decide +kernel)) (fun z => nomatch z) (fun _ => rfl)) (fun z => nomatch z)
def Sbut (a : Addr) (H H' : Hp) : Prop := ∀ b o, H b = some o → b ≠ a → H' b = some o
theorem Sbut.refl {a : Addr} {H : Hp} : Sbut a H H := fun _ _ e _ => e
theorem Sbut.trans {a : Addr} {H H1 H2 : Hp} (x : Sbut a H H1) (y : Sbut a H1 H2) : Sbut a H H2 := fun b o e n => y b o (x b o e n) n
theorem Sbut.of {a : Addr} {H H' : Hp} (s : Same H H') : Sbut a H H' := fun b o e _ => s b o e
theorem Sbut.put {a : Addr} {o : HO} {H : Hp} : Sbut a H (upd H a o) := fun b u e n => by
  rw [upd_ne n]
  exact e
theorem Row.but {α : Type} {f : α → HO} {a : Addr} {H H' : Hp} {as : List Addr} {ps : List α} (r : Row f H as ps) (s : Sbut a H H') (n : a ∉ as) : Row f H' as ps :=
  ⟨r.1, fun i b p h1 h2 => s _ _ (r.2 i b p h1 h2) fun e => n (e ▸ List.mem_of_getElem? h1)⟩
theorem row_not {α : Type} {f : α → HO} {a : Addr} {o : HO} {H : Hp} {as : List Addr} {ps : List α} (r : Row f H as ps) (h : H a = some o) (d : ∀ p, o ≠ f p) : a ∉ as := fun m => by
  obtain ⟨i, hi, e⟩ := List.getElem_of_mem m
  have hp : i < ps.length := by rw [← r.1]; exact hi
  have q := r.2 i a ps[i] (by rw [List.getElem?_eq_getElem hi, e]) (List.getElem?_eq_getElem hp)
  rw [h] at q
  exact d _ (Option.some.inj q)
def kindOf : HO → Option String
  | .lst _ => some "list"
  | .tup _ => some "tuple"
  | .dK _ => some "dict"
  | _ => none
def Od (H : Hp) : V → Prop
  | .ref t => ∃ o T, H t = some o ∧ kindOf o = some T
  | .ty _ => False
  | .byt _ => False
  | .flt _ => False
  | _ => True
def isI : V → Bool
  | .int _ => true
  | _ => false
theorem od_type {K : PySem.W.Frag} {H : Hp} {v : V} (h : Od H v) : ∃ T b1 b2, TyX K H v (.type T) ∧ kitB T "int" = some b1 ∧ kitB T "bool" = some b2 ∧ (b1 && !b2) = isI v := by
  cases v with
  | non => exact ⟨_, false, false, .base .non, by decide +kernel, by decide +kernel, rfl⟩
  | bl b => exact ⟨_, true, true, .base (.bl b), by decide +kernel, by decide +kernel, rfl⟩
  | int i => exact ⟨_, true, false, .base (.int i), by decide +kernel, by decide +kernel, rfl⟩
  | str x => exact ⟨_, false, false, .base (.str x), by decide +kernel, by decide +kernel, rfl⟩
  | byt b => exact h.elim
  | flt b => exact h.elim
  | ty n => exact h.elim
  | ref t =>
    obtain ⟨o, T, e, k⟩ := h
    cases o with
    | lst xs => exact ⟨_, false, false, .base (.lst e), by decide +kernel, by decide +kernel, rfl⟩
    | tup xs => exact ⟨_, false, false, .base (.tup e), by decide +kernel, by decide +kernel, rfl⟩
    | dK kvs => exact ⟨_, false, false, .base (.dK e), by decide +kernel, by decide +kernel, rfl⟩
    | _ => cases k
def onB (f s : Int) : V → Bool
  | .int i => decide ((i - f) % s = 0)
  | _ => false
theorem dec_V (i j : Int) : decide (V.int i = V.int j) = decide (i = j) := by
  by_cases h : i = j
  · subst h
    simp
  · rw [decide_eq_false h]
    exact decide_eq_false fun z => h (V.int.inj z)
def spIsInt : Sp := fun vs H Q _ => ∃ v, vs = [v] ∧ Od H v ∧ Q (.bl (isI v)) H
def spOn : Sp := fun vs H Q _ => ∃ (t : Addr) (f s : Int) (v : V), vs = [.ref t, v] ∧ H t = some (.tup [.int f, .int s]) ∧ 0 < s ∧ Od H v ∧ Q (.bl (onB f s v)) H
theorem Keep.od {d c : Addr} {H H1 : Hp} {v : V} (a : Keep d c H H1) (w : ∀ t, v = .ref t → t ≠ d ∧ t ≠ c) (h : Od H v) : Od H1 v := by
  cases v with
  | ref t =>
    obtain ⟨o, T, e, k⟩ := h
    obtain ⟨n1, n2⟩ := w t rfl
    exact ⟨o, T, a t o e n1 n2, k⟩
  | non => exact True.intro
  | bl b => exact True.intro
  | int i => exact True.intro
  | str x => exact True.intro
  | byt b => exact h.elim
  | flt b => exact h.elim
  | ty n => exact h.elim

theorem Od.same {H H' : Hp} {v : V} (s : Same H H') (h : Od H v) : Od H' v := by
  cases v with
  | ref t =>
    obtain ⟨o, T, e, k⟩ := h
    exact ⟨o, T, s _ _ e, k⟩
  | non => exact True.intro
  | bl b => exact True.intro
  | int i => exact True.intro
  | str x => exact True.intro
  | byt b => exact h.elim
  | flt b => exact h.elim
  | ty n => exact h.elim
def Row2 (H : Hp) (q : Addr) (xs : List V) : Prop := H q = some (.lst xs) ∨ H q = some (.tup xs)
theorem Row2.same {H H' : Hp} {q : Addr} {xs : List V} (s : Same H H') (h : Row2 H q xs) : Row2 H' q xs := h.imp (s _ _) (s _ _)
theorem Row2.type {K : PySem.W.Frag} {H : Hp} {q : Addr} {xs : List V} (h : Row2 H q xs) : ∃ T : String, TyX K H (.ref q) (.type T) ∧ PySem.W.kitAny K (.type T) [.type "list", .type "tuple"] = some true := by
  rcases h with h | h
  · exact ⟨_, .base (.lst h), kitLT (.inl rfl)⟩
  · exact ⟨_, .base (.tup h), kitLT (.inr rfl)⟩
theorem Row2.seq {K : PySem.W.Frag} {H : Hp} {q : Addr} {xs : List V} (h : Row2 H q xs) : SqL K H q xs ∨ SqT K H q xs := h.imp SqL.of SqT.of
theorem onB_int {f s : Int} {x : V} (h : onB f s x = true) : ∃ z, x = .int z := by
  cases x with
  | int z => exact ⟨z, rfl⟩
  | _ => exact absurd h (by simp [onB])
theorem rIx_of {K : PySem.W.Frag} {H : Hp} {q : Addr} {xs : List V} {i : Int} {x : V} {Q : VK} (h : Row2 H q xs) (e : atI xs i = some x) (k : Q x H) : rIx K (.ref q) (.int i) H Q := by
  rcases h with h | h
  · exact .inl ⟨q, xs, i, x, rfl, rfl, SqL.of h, e, k⟩
  · exact .inr (.inl ⟨q, xs, i, x, rfl, rfl, SqT.of h, e, k⟩)
theorem atN {xs : List V} {i : Nat} {x : V} (h : xs[i]? = some x) : atI xs (i : Int) = some x := at_of (j := i) rfl h
theorem kitLT0 {K : PySem.W.Frag} {T : String} (h1 : kitB T "list" = some false) (h2 : kitB T "tuple" = some false) : PySem.W.kitAny K (.type T) [.type "list", .type "tuple"] = some false :=
  kitAny_cons (b := false) (kit_ty h1) (fun _ => kitAny_cons (b := false) (kit_ty h2) (fun _ => kitAny_nil) (fun z => nomatch z)) (fun z => nomatch z)
section
variable {d c p : Addr} {H H' : Hp} {o : HO}
def mask (d c : Addr) (H : Hp) : Hp := fun b => if b = d ∨ b = c then none else H b
theorem mask_same : Same (mask d c H) H := fun b u e => by
  unfold mask at e
  split at e
  · cases e
  · exact e
theorem mask_keep (a : Keep d c H H') : Same (mask d c H) (mask d c H') := fun b u e => by
  unfold mask at e ⊢
  split at e
  · cases e
  · rename_i n
    rw [if_neg n]
    exact a b u e (fun z => n (.inl z)) (fun z => n (.inr z))
theorem mask_new (n : H p = none) : Same (mask d c H) (mask d c (upd H p o)) := mask_keep (Keep.refl.new n)
theorem mask_at (n : p ≠ d ∧ p ≠ c) (e : H p = some o) : mask d c H p = some o := by
  unfold mask
  rw [if_neg (fun z => z.elim n.1 n.2)]
  exact e
theorem Src.same (S : Src H d c) (s : Same H H') : Src H' d c := by
  obtain ⟨ks, l, m, u, h1, h2⟩ := S.ex
  exact ⟨ks, l, m, u, s _ _ h1, s _ _ h2⟩
end
def upv (f s x : Int) : Int := f + (x - f + s - 1) / s * s
theorem upv_on (f s x : Int) : (upv f s x - f) % s = 0 := by
  unfold upv
  rw [show f + (x - f + s - 1) / s * s - f = s * ((x - f + s - 1) / s) by rw [Int.mul_comm s]; omega, Int.mul_emod_right]
theorem upv_le {f s x : Int} (h : 0 < s) : x ≤ upv f s x := by
  unfold upv
  have h1 := Int.emod_def (x - f + s - 1) s
  have h2 := Int.emod_lt_of_pos (x - f + s - 1) h
  rw [Int.mul_comm] at h1
  omega
theorem upv_lt {f s x : Int} (h : 0 < s) : upv f s x < x + s := by
  unfold upv
  have h1 := Int.emod_def (x - f + s - 1) s
  have h2 := Int.emod_nonneg (x - f + s - 1) (Int.ne_of_gt h)
  rw [Int.mul_comm] at h1
  omega
def spLUp : Sp := fun vs H Q _ => ∃ (t : Addr) (f s x : Int), vs = [.ref t, .int x] ∧ H t = some (.tup [.int f, .int s]) ∧ 0 < s ∧ s < 1000 ∧ Q (.int (upv f s x)) H
theorem mask_but {d c D : Addr} {o : HO} {H : Hp} : Sbut D (mask d c H) (mask d c (upd H D o)) := fun b u e n => by
  unfold mask at e ⊢
  split at e
  · cases e
  · rename_i z
    rw [if_neg z, upd_ne n]
    exact e
theorem Row.snoc {α : Type} {f : α → HO} {H : Hp} {as : List Addr} {ps : List α} {a : Addr} {p : α} (r : Row f H as ps) (h : H a = some (f p)) : Row f H (as ++ [a]) (ps ++ [p]) := by
  refine ⟨by rw [List.length_append, List.length_append, r.1]; rfl, fun i b q h1 h2 => ?_⟩
  rcases Nat.lt_or_ge i as.length with lt | ge
  · rw [List.getElem?_append_left lt] at h1
    rw [List.getElem?_append_left (by rw [← r.1]; exact lt)] at h2
    exact r.2 i b q h1 h2
  · have e : i = as.length := by
      have := (List.getElem?_eq_some_iff.mp h1).1
      rw [List.length_append] at this
      simp at this
      omega
    rw [e, List.getElem?_append_right (Nat.le_refl _), Nat.sub_self] at h1
    rw [e, r.1, List.getElem?_append_right (Nat.le_refl _), Nat.sub_self] at h2
    cases h1
    cases h2
    exact h
theorem merge2 {a b : Str} {x y : V} (h : ¬ a = b) : mergeK [] [((Sum.inr a : Key), x), (Sum.inr b, y)] = [(Sum.inr a, x), (Sum.inr b, y)] := by
  have h1 := ne_inr h
  unfold mergeK putK
  simp [h1]
theorem eqvAll_ints : ∀ xs ys : List Int, PyData.eqvAll (xs.map PyData.int) (ys.map PyData.int) = decide (xs = ys)
  | [], [] => by simp [PyData.eqvAll]
  | [], _ :: _ => by simp [PyData.eqvAll]
  | _ :: _, [] => by simp [PyData.eqvAll]
  | x :: xs, y :: ys => by
    have h := eqvAll_ints xs ys
    have e : (x == y) = decide (x = y) := by
      rw [Bool.eq_iff_iff]
      simp
    simp [PyData.eqvAll, PyData.eqv, h, e]
theorem eqv_ints (xs ys : List Int) : PyData.eqv (.list (xs.map PyData.int)) (.list (ys.map PyData.int)) = decide (xs = ys) := by
  simp [PyData.eqv, eqvAll_ints]
theorem dpAll_ints {K : PySem.W.Frag} {H : Hp} : ∀ ks : List Int, DpAll K H (ks.map V.int) (ks.map PyData.int)
  | [] => .nil
  | k :: ks => .cons (.int k) (dpAll_ints ks)
theorem lay_ints : ∀ ks : List Int, PyData.canLayAll0 (ks.map PyData.int) = true
  | [] => by simp [PyData.canLayAll0]
  | k :: ks => by
    have h := lay_ints ks
    simp [PyData.canLayAll0, PyData.canLay0, h]
theorem depth_ints : ∀ ks : List Int, PyData.depthAll (ks.map PyData.int) = 0
  | [] => by simp [PyData.depthAll]
  | k :: ks => by
    have h := depth_ints ks
    simp [PyData.depthAll, PyData.depth, h]
theorem shaped_ints (ks : List Int) : SeqAt.shaped (.list (ks.map PyData.int)) = true := by
  unfold SeqAt.shaped
  simp [PyData.canLay0, lay_ints, PyData.depth, depth_ints]
theorem int_get {ys : List Int} {i : Nat} {z : Int} (h : (ys.map V.int)[i]? = some (V.int z)) : ys[i]? = some z := by
  obtain ⟨y, hy, e⟩ := int_at h
  cases e
  exact hy
theorem set_self {xs : List Int} {p : Nat} {z : Int} (h : xs[p]? = some z) : xs.set p z = xs := by
  refine List.ext_getElem? fun m => ?_
  by_cases e : p = m
  · subst e
    rw [List.getElem?_set_self (List.getElem?_eq_some_iff.mp h).1, h]
  · rw [List.getElem?_set_ne e]
theorem sqT_same {K : PySem.W.Frag} {H H' : Hp} {a : Addr} {xs : List V} (s : Same H H') (h : SqT K H a xs) : SqT K H' a xs := by
  rcases h with (h | ⟨o, h⟩) | h
  · exact .inl (.inl (s _ _ h))
  · exact .inl (.inr ⟨o, s _ _ h⟩)
  · exact .inr h
mutual
theorem Dx.same {K : PySem.W.Frag} {H H' : Hp} (s : Same H H') : ∀ (v : V) (d : PyData), Dx K H v d → Dx K H' v d
  | _, _, .non => .non
  | _, _, .bl b => .bl b
  | _, _, .int i => .int i
  | _, _, .str x => .str x
  | _, _, .lst h a => .lst (s.seq h) (DxAll.same s _ _ a)
  | _, _, .tup h a => .tup (sqT_same s h) (DxAll.same s _ _ a)
  | _, _, .dic h a => .dic (s _ _ h) (DxAll.same s _ _ a)
theorem DxAll.same {K : PySem.W.Frag} {H H' : Hp} (s : Same H H') : ∀ (vs : List V) (ds : List PyData), DxAll K H vs ds → DxAll K H' vs ds
  | _, _, .nil => .nil
  | _, _, .cons h t => .cons (Dx.same s _ _ h) (DxAll.same s _ _ t)
end
structure Nice (d : PyData) : Prop where
  sh : d.showable = true
  dp : d.depth ≤ 5
  ln : d.shown.length ≤ 10000
theorem Nice.one {d : PyData} (n : Nice d) : d.showable = true ∧ d.depth ≤ 60 ∧ d.shown.length ≤ sizeLine := ⟨n.sh, Nat.le_trans n.dp (by decide), Nat.le_trans n.ln (by decide)⟩
structure Sm (d : PyData) : Prop where
  sh : d.showable = true
  dp : d.depth ≤ 2
  ln : d.shown.length ≤ 450
theorem Sm.nice {d : PyData} (h : Sm d) : Nice d := ⟨h.sh, Nat.le_trans h.dp (by decide), Nat.le_trans h.ln (by decide)⟩
theorem sm_int {i : Int} (h : i.natAbs < 10 ^ 40) : Sm (.int i) := by
  refine ⟨?_, by simp [PyData.depth], ?_⟩
  · simp only [PyData.showable, decide_eq_true_eq]
    rcases Nat.eq_zero_or_pos i.natAbs with z | z
    · rw [z]
      decide
    · rw [Nat.log2_lt (Nat.ne_of_gt z)]
      exact Nat.lt_trans h (by decide +kernel)
  · simp only [PyData.shown]
    rw [ofString_len]
    exact Nat.le_trans (int_text_length_le10 (k := 40) (by decide) h) (by decide)
theorem sum_le {ds : List PyData} (h : ∀ d, d ∈ ds → Sm d) : ((PyData.shownAll ds).map (·.length)).sum ≤ 450 * ds.length ∧ (PyData.shownAll ds).length = ds.length ∧ PyData.showableAll ds = true ∧ PyData.depthAll ds ≤ 2 := by
  induction ds with
  | nil => exact ⟨by simp [PyData.shownAll], by simp [PyData.shownAll], by simp [PyData.showableAll], by simp [PyData.depthAll]⟩
  | cons d ds ih =>
    obtain ⟨i1, i2, i3, i4⟩ := ih fun x m => h x (List.mem_cons_of_mem _ m)
    have s := h d List.mem_cons_self
    have s1 := s.ln
    have s2 := s.dp
    refine ⟨?_, ?_, ?_, ?_⟩
    · simp only [PyData.shownAll, List.map_cons, List.sum_cons, List.length_cons]
      omega
    · simp only [PyData.shownAll, List.length_cons, i2]
    · simp only [PyData.showableAll, s.sh, i3, Bool.and_self]
    · simp only [PyData.depthAll]
      omega
theorem dxAll_ints {K : PySem.W.Frag} {H : Hp} : ∀ ks : List Int, DxAll K H (ks.map V.int) (ks.map PyData.int)
  | [] => .nil
  | k :: ks => .cons (.int k) (dxAll_ints ks)
mutual
theorem Dp.same {K : PySem.W.Frag} {H H' : Hp} (s : Same H H') : ∀ (v : V) (d : PyData), Dp K H v d → Dp K H' v d
  | _, _, .non => .non
  | _, _, .bl b => .bl b
  | _, _, .int i => .int i
  | _, _, .str x => .str x
  | _, _, .lst h a => .lst (s.seq h) (DpAll.same s _ _ a)
  | _, _, .tup h a => .tup (sqT_same s h) (DpAll.same s _ _ a)
theorem DpAll.same {K : PySem.W.Frag} {H H' : Hp} (s : Same H H') : ∀ (vs : List V) (ds : List PyData), DpAll K H vs ds → DpAll K H' vs ds
  | _, _, .nil => .nil
  | _, _, .cons h t => .cons (Dp.same s _ _ h) (DpAll.same s _ _ t)
end
theorem DpAll.snoc {K : PySem.W.Frag} {H : Hp} {v : V} {d : PyData} (h : Dp K H v d) : ∀ (vs : List V) (ds : List PyData), DpAll K H vs ds → DpAll K H (vs ++ [v]) (ds ++ [d])
  | _, _, .nil => .cons h .nil
  | _, _, .cons g t => .cons g (DpAll.snoc h _ _ t)
theorem Row.nil {α : Type} {f : α → HO} {H : Hp} : Row f H [] [] := ⟨rfl, fun i a p h => nomatch h⟩
theorem Row.cons {α : Type} {f : α → HO} {H : Hp} {a : Addr} {p : α} {as : List Addr} {ps : List α} (h : H a = some (f p)) (r : Row f H as ps) : Row f H (a :: as) (p :: ps) := by
  refine ⟨by rw [List.length_cons, List.length_cons, r.1], fun i b q e1 e2 => ?_⟩
  match i with
  | 0 => cases e1; cases e2; exact h
  | i + 1 => exact r.2 i b q e1 e2
def hide (p : Addr) (M : Hp) : Hp := fun b => if b = p then none else M b
theorem hide_same {p : Addr} {M : Hp} : Same (hide p M) M := fun b u e => by
  unfold hide at e
  split at e
  · cases e
  · exact e
theorem hide_up {p : Addr} {M M' : Hp} (s : Sbut p M M') : Same (hide p M) (hide p M') := fun b u e => by
  unfold hide at e ⊢
  split at e
  · cases e
  · rename_i n
    rw [if_neg n]
    exact s b u e n
theorem hide_in {p : Addr} {M M' : Hp} (n : M p = none) (s : Same M M') : Same M (hide p M') := fun b u e => by
  unfold hide
  rw [if_neg (ne_of_none e n)]
  exact s b u e
theorem Keep.free {d c p : Addr} {H H' : Hp} (a : Keep d c H H') (n : p ≠ d ∧ p ≠ c) (h : H' p = none) : H p = none := by
  cases e : H p with
  | none => rfl
  | some o =>
    rw [a p o e n.1 n.2] at h
    cases h
theorem hide_at {p b : Addr} {M : Hp} {o : HO} (n : b ≠ p) (e : M b = some o) : hide p M b = some o := by
  unfold hide
  rw [if_neg n]
  exact e
theorem flat_len {n : Nat} {v : V} : (List.replicate n [v]).flatten.length = n := by
  induction n with
  | zero => rfl
  | succ n ih => rw [List.replicate_succ, List.flatten_cons, List.length_append, ih]; show 1 + n = n + 1; omega
theorem sub_same {d c : Addr} {H H' : Hp} (s : Same H H') : Same (mask d c H) (mask d c H') := mask_keep fun b o e _ _ => s b o e
theorem Keep.of {d c : Addr} {H H' : Hp} (s : Same H H') : Keep d c H H' := fun b o e _ _ => s b o e
end Rs
/-! own rules: the greater and the less one of a pair of ints -/
namespace Rt
open PySem PySem.Spec L2
open PyProof.Rows hiding St
def rBest (K : PySem.W.Frag) (op : Int → Int → Int) : List V → Hp → VK → Prop := fun vs H Q => ∃ (b : Addr) (i j : Int), vs = [.ref b] ∧ SqT K H b [.int i, .int j] ∧ Q (.int (op i j)) H
theorem alike2 (i j : Int) : PySem.W.AlikeAll [.int i, .int j] := by
  refine ⟨fun x hx y hy => ?_, fun x hx => ?_⟩
  · rcases List.mem_cons.mp hx with rfl | hx <;> rcases List.mem_cons.mp hy with rfl | hy
    all_goals first
      | rfl
      | (cases List.mem_singleton.mp hx; first | rfl | (cases List.mem_singleton.mp hy; rfl))
      | (cases List.mem_singleton.mp hy; rfl)
  · rcases List.mem_cons.mp hx with rfl | hx
    · exact fun z => nomatch z
    · cases List.mem_singleton.mp hx
      exact fun z => nomatch z
theorem call_maxP {X : Cx} (hc : X.calm = true) (hu : X.A.units + 64 < cLine) : CallR X (.builtin "max") (rBest X.K fun i j => if j > i then j else i) := by
  intro pins s σ H vs us Q I rv want
  obtain ⟨b, i, j, rfl, hb, q⟩ := want
  obtain ⟨its, r, htp, _⟩ := I.tuple hb
  rw [Vals.ref1 rv]
  cases r with
  | cons r1 r =>
    cases r with
    | cons r2 r =>
      cases r
      obtain ⟨t1, rfl⟩ := r1
      obtain ⟨t2, rfl⟩ := r2
      refine PySem.W.max_tuple_data (I.ok.hd hc) htp (.cons (.int i t1) (.cons (.int j t2) .nil)) (alike2 i j) (by simp only [PyData.depthAll, PyData.depth]; omega) fun k v h' tk bs _ rd keep => ?_
      have e : PySem.W.maxD (.int i) [.int j] = .int (if j > i then j else i) := by
        refine (PySem.W.maxD_ints i [j]).trans (congrArg PyData.int ?_)
        show max i j = _
        split <;> omega
      rw [e] at rd
      cases rd with
      | int _ t => exact ⟨.int _, H, I.kept (t' := tk) keep, ⟨_, rfl⟩, q⟩
theorem call_minP {X : Cx} (hc : X.calm = true) (hu : X.A.units + 64 < cLine) : CallR X (.builtin "min") (rBest X.K fun i j => if j < i then j else i) := by
  intro pins s σ H vs us Q I rv want
  obtain ⟨b, i, j, rfl, hb, q⟩ := want
  obtain ⟨its, r, htp, _⟩ := I.tuple hb
  rw [Vals.ref1 rv]
  cases r with
  | cons r1 r =>
    cases r with
    | cons r2 r =>
      cases r
      obtain ⟨t1, rfl⟩ := r1
      obtain ⟨t2, rfl⟩ := r2
      refine PySem.W.min_tuple_data (I.ok.hd hc) htp (.cons (.int i t1) (.cons (.int j t2) .nil)) (alike2 i j) (by simp only [PyData.depthAll, PyData.depth]; omega) fun k v h' tk bs _ rd keep => ?_
      have e : PySem.W.minD (.int i) [.int j] = .int (if j < i then j else i) := by
        refine (PySem.W.minD_ints i [j]).trans (congrArg PyData.int ?_)
        show min i j = _
        split <;> omega
      rw [e] at rd
      cases rd with
      | int _ t => exact ⟨.int _, H, I.kept (t' := tk) keep, ⟨_, rfl⟩, q⟩
end Rt
/-! own rules: zip of two tuples whose pairs are kept under one name -/
namespace Rt
open PySem PySem.Spec L2 RZ
open PyProof.Rows hiding St
/-- a zip, whatever its first two fields tell of the pair that it handed out -/
abbrev ZAt (h : Heap) (z TI TO : Addr) (r : Value) (g : Bool) : Prop := h.get? z = some { cls := .type "zip", dict := none, data := .fields #[r, .bool g, .bool false, .ref TI, .ref TO], slots := #[] }
def Out (r : Value) : Prop := r = .none ∨ ∃ T : Nat, r = rawInt T
section
variable {prog : Program} {w : World} {A : Around} {E : Value → Shared → Prop} {s : Shared} {z TI TO i1 i2 l1 l2 : Addr} {r : Value} {g : Bool}
theorem free_or {Q : Bool → Shared → Prop} (hz : ZAt s.heap z TI TO r g) (hr : Out r) (yes : Q true s) (no : ∀ h', ZAt h' z TI TO r true → Heap.SameBut z s.heap h' → Q false { s with heap := h' }) :
    wpAny (model prog w) A (Builtin.SmallTypes.ownedTupleIsFree (.ref z)) Q E s := by
  rcases hr with rfl | ⟨T, rfl⟩
  · unfold Builtin.SmallTypes.ownedTupleIsFree
    exact wpAny_bind (wpAny_field hz rfl (x := .none) rfl (wpAny_pure yes))
  · cases hT : s.heap.get? T with
    | some o => exact wpAny_tupleHeld_zip hz hT fun h' a b => no h' a b
    | none =>
      unfold Builtin.SmallTypes.ownedTupleIsFree
      refine wpAny_bind (wpAny_field hz rfl (x := rawInt T) rfl ?_)
      show wpAny _ _ (loadIfAlive ((T : Int).toNat) >>= _) _ _ _
      rw [Int.toNat_natCast]
      refine wpAny_bind ?_
      have dead : ∀ {R : Option Obj → Shared → Prop}, R none s → wpAny (model prog w) A (loadIfAlive T) R E s := fun {R} q => by
        have q' : R (s.heap.get? T) s := by rw [hT]; exact q
        exact fun _ _ _ => q'
      refine dead ?_
      simp only [Option.isNone_none, if_true]
      exact wpAny_pure yes
/-- what stands behind an item -/
def After (D : Heap) (z TI TO i1 i2 l1 l2 : Addr) (k : Nat) (x y : Value) (h' : Heap) : Prop :=
  (∃ r g, ZAt h' z TI TO r g ∧ Out r) ∧ (∃ a b, IsPair h' TO a b) ∧ h'.IsTupleIter i1 l1 (k + 1) ∧ h'.IsTupleIter i2 l2 (k + 1) ∧ IsPair h' D.objs.size x y ∧ h'.objs.size = D.objs.size + 1 ∧
    ∀ c o, c ≠ z → c ≠ TO → c ≠ i1 → c ≠ i2 → D.get? c = some o → h'.get? c = some o
theorem zn_item {k : Nat} {xs ys : Array Value} {x y a b : Value} {Q : Value → Shared → Prop} (D : ZipApart z TI TO i1 i2 l1 l2) (hz : ZAt s.heap z TI TO r g) (hr : Out r) (pI : IsPair s.heap TI (.ref i1) (.ref i2)) (pO : IsPair s.heap TO a b)
    (u1 : s.heap.IsTupleIter i1 l1 k) (u2 : s.heap.IsTupleIter i2 l2 k) (t1 : s.heap.IsTuple l1 xs) (t2 : s.heap.IsTuple l2 ys) (ex : xs[k]? = some x) (ey : ys[k]? = some y)
    (now : ∀ h', After s.heap z TI TO i1 i2 l1 l2 k x y h' → Q (.ref s.heap.objs.size) { s with heap := h' }) : wpAny (model prog w) A (Builtin.«zip.__next__» ⟨[.ref z], []⟩) (fun fin s' => ∃ v, fin = .done (.ret v) ∧ Q v s') E s := by
  show wpAny _ _ (field (.ref z) 2 >>= _) _ _ _
  refine wpAny_bind (wpAny_field hz rfl (x := .bool false) rfl ?_); show wpAny _ _ (field (.ref z) 3 >>= _) _ _ _
  refine wpAny_bind (wpAny_field hz rfl (x := .ref TI) rfl (wpAny_bind (wpAny_seqItems pI rfl ?_)))
  show wpAny _ _ (Builtin.SmallTypes.ownedTupleIsFree (.ref z) >>= _) _ _ _
  refine wpAny_bind (free_or hz hr ?_ fun ha za sa => ?_)
  · -- the pair is free: it is laid anew out of the kept one
    simp only [if_true]
    refine wpAny_bind (wpAny_rule (wpAny_bind (wpAny_field hz rfl (x := .ref TO) rfl ?_)))
    refine wpAny_bind (wpAny_setField_rec hz (by simp) fun ha za sa => wpAny_bind ?_)
    replace za : ZAt ha z TI TO .ellipsis g := za
    simp only [List.zipIdx_cons, List.zipIdx_nil, List.forIn_cons, List.forIn_nil]
    refine wpAny_bind ?_; refine wpAny_bind (wpAny_onRaise ?_)
    show wpAny _ _ (Builtin.SmallTypes.nextOf (.ref i1) >>= _) _ _ _
    refine wpAny_bind (nextOf_tuple_item (u1.extBut sa.extBut D.i1z) (t1.extBut sa.extBut D.l1z) ex fun hb ub sb => wpAny_pure ?_)
    have pb : IsPair hb TO a b := sb.extBut _ _ D.TOi1 (sa.extBut _ _ D.TOz pO)
    refine wpAny_bind (wpAny_seqItems pb rfl (wpAny_bind (wpAny_updateSeq_pair pb fun hc pc sc => wpAny_bind (wpAny_letGo (wpAny_pure ?_)))))
    replace pc : IsPair hc TO x b := pc
    refine wpAny_bind ?_; refine wpAny_bind (wpAny_onRaise ?_)
    show wpAny _ _ (Builtin.SmallTypes.nextOf (.ref i2) >>= _) _ _ _
    have uc2 := ((u2.extBut sa.extBut D.i2z).extBut sb.extBut D.i12.symm).extBut sc.extBut D.TOi2.symm
    have tc2 := ((t2.extBut sa.extBut D.l2z).extBut sb.extBut D.l2i1).extBut sc.extBut D.l2TO
    refine wpAny_bind (nextOf_tuple_item uc2 tc2 ey fun hd ud sd => wpAny_pure ?_)
    have pd : IsPair hd TO x b := sd.extBut _ _ D.TOi2 pc
    refine wpAny_bind (wpAny_seqItems pd rfl (wpAny_bind (wpAny_updateSeq_pair pd fun he pe se => wpAny_bind (wpAny_letGo (wpAny_pure (wpAny_pure ?_))))))
    replace pe : IsPair he TO x y := pe
    refine wpAny_bind (wpAny_seqItems pe rfl (wpAny_bind (wpAny_newTuple ?_)))
    have size : he.objs.size = s.heap.objs.size := by rw [se.1, sd.1, sc.1, sb.1, sa.1]
    have ze : ZAt he z TI TO .ellipsis g := se.extBut _ _ D.TOz.symm (sd.extBut _ _ D.i2z.symm (sc.extBut _ _ D.TOz.symm (sb.extBut _ _ D.i1z.symm za)))
    have stay : ∀ c o, c ≠ z → c ≠ TO → c ≠ i1 → c ≠ i2 → s.heap.get? c = some o → he.get? c = some o := fun c o n1 n2 n3 n4 e => se.extBut _ _ n2 (sd.extBut _ _ n4 (sc.extBut _ _ n2 (sb.extBut _ _ n3 (sa.extBut _ _ n1 e))))
    have ue1 : he.IsTupleIter i1 l1 (k + 1) := ((ub.extBut sc.extBut D.TOi1.symm).extBut sd.extBut D.i12).extBut se.extBut D.TOi1.symm
    have ue2 : he.IsTupleIter i2 l2 (k + 1) := ud.extBut se.extBut D.TOi2.symm
    have zlt : z < he.objs.size := Heap.lt_size ze
    show wpAny _ _ (Builtin.SmallTypes.ownedTupleHandOut (.ref z) (.ref he.objs.size) >>= _) _ _ _
    refine wpAny_bind ?_
    unfold Builtin.SmallTypes.ownedTupleHandOut
    have zf : ZAt (he.push { cls := .type "tuple", data := .seq #[x, y] }) z TI TO .ellipsis g := Heap.get?_push_of_some _ ze
    refine wpAny_bind (wpAny_setField_rec zf (by simp) fun hf zg sf => ?_)
    replace zg : ZAt hf z TI TO (rawInt he.objs.size) g := zg
    refine wpAny_setField_rec zg (by simp) fun hg zh sg => wpAny_pure ⟨_, rfl, ?_⟩
    replace zh : ZAt hg z TI TO (rawInt he.objs.size) false := zh
    have up : ∀ c o, c ≠ z → he.get? c = some o → hg.get? c = some o := fun c o n e => sg.extBut _ _ n (sf.extBut _ _ n (Heap.get?_push_of_some _ e))
    have pn : IsPair hg he.objs.size x y := sg.extBut _ _ (Nat.ne_of_gt zlt) (sf.extBut _ _ (Nat.ne_of_gt zlt) (Heap.get?_push_size _ rfl))
    have sz : hg.objs.size = he.objs.size + 1 := by rw [sg.1, sf.1, Heap.size_push]
    show Q (.ref he.objs.size) _
    rw [size] at pn sz ⊢
    exact now hg ⟨⟨_, _, zh, .inr ⟨_, rfl⟩⟩, ⟨_, _, up _ _ D.TOz pe⟩, ue1.at fun o e => up _ o D.i1z e, ue2.at fun o e => up _ o D.i2z e, pn, sz, fun c o n1 n2 n3 n4 e => up c o n1 (stay c o n1 n2 n3 n4 e)⟩
  · -- the pair is still out: a new one
    simp only [Bool.false_eq_true, if_false]
    refine wpAny_bind ?_
    rw [← Array.forIn_toList]
    simp only [List.forIn_cons, List.forIn_nil]
    refine wpAny_bind ?_; refine wpAny_bind (wpAny_holding ?_)
    show wpAny _ _ (Builtin.SmallTypes.nextOf (.ref i1) >>= _) _ _ _
    refine wpAny_bind (nextOf_tuple_item (s := { s with heap := ha }) (u1.extBut sa.extBut D.i1z) (t1.extBut sa.extBut D.l1z) ex fun hb ub sb => wpAny_pure (wpAny_pure ?_))
    refine wpAny_bind ?_; refine wpAny_bind (wpAny_holding ?_)
    show wpAny _ _ (Builtin.SmallTypes.nextOf (.ref i2) >>= _) _ _ _
    have ub2 := (u2.extBut sa.extBut D.i2z).extBut sb.extBut D.i12.symm
    have tb2 := (t2.extBut sa.extBut D.l2z).extBut sb.extBut D.l2i1
    refine wpAny_bind (nextOf_tuple_item (s := { s with heap := hb }) ub2 tb2 ey fun hc uc sc => wpAny_pure (wpAny_pure (wpAny_pure ?_)))
    show wpAny _ _ (newTuple [x, y] >>= _) _ _ _
    refine wpAny_bind (wpAny_newTuple (wpAny_pure ⟨_, rfl, ?_⟩))
    have size : hc.objs.size = s.heap.objs.size := by rw [sc.1, sb.1, sa.1]
    have zc : ZAt hc z TI TO r true := sc.extBut _ _ D.i2z.symm (sb.extBut _ _ D.i1z.symm za)
    have stay : ∀ c o, c ≠ z → c ≠ i1 → c ≠ i2 → s.heap.get? c = some o → hc.get? c = some o := fun c o n1 n2 n3 e => sc.extBut _ _ n3 (sb.extBut _ _ n2 (sa.extBut _ _ n1 e))
    have uc1 : hc.IsTupleIter i1 l1 (k + 1) := ub.extBut sc.extBut D.i12
    have pn : IsPair (hc.push { cls := .type "tuple", data := .seq #[x, y] }) hc.objs.size x y := Heap.get?_push_size _ rfl
    have sz : (hc.push { cls := .type "tuple", data := .seq #[x, y] }).objs.size = hc.objs.size + 1 := Heap.size_push ..
    show Q (.ref hc.objs.size) _
    rw [size] at pn sz ⊢
    exact now _ ⟨⟨_, _, Heap.get?_push_of_some _ zc, hr⟩, ⟨_, _, Heap.get?_push_of_some _ (stay _ _ D.TOz D.TOi1 D.TOi2 pO)⟩, uc1.at fun o e => Heap.get?_push_of_some _ e, uc.at fun o e => Heap.get?_push_of_some _ e, pn, sz,
      fun c o n1 _ n3 n4 e => Heap.get?_push_of_some _ (stay c o n1 n3 n4 e)⟩
end
end Rt
/-! own rules: zip of two tuples as what a loop or a comprehension with one name goes over -/
namespace Rt
open PySem PySem.Spec L2 RZ
open PyProof.Rows hiding St
section
variable {prog : Program} {w : World} {A : Around} {E : Value → Shared → Prop} {s : Shared} {z TI TO i1 i2 l1 l2 : Addr} {r : Value} {g : Bool}
theorem zn_end {k : Nat} {xs ys : Array Value} {a b : Value} {Q : Fin → Shared → Prop} (hh : A.handled = none) (D : ZipApart z TI TO i1 i2 l1 l2) (hz : ZAt s.heap z TI TO r g) (hr : Out r) (pI : IsPair s.heap TI (.ref i1) (.ref i2))
    (u1 : s.heap.IsTupleIter i1 l1 k) (t1 : s.heap.IsTuple l1 xs) (ex : xs[k]? = none)
    (out : ∀ h' e, (∀ c o, c ≠ z → c ≠ TO → c ≠ i1 → c ≠ i2 → s.heap.get? c = some o → h'.get? c = some o) → (∃ o, h'.get? e = some o ∧ o.cls = .type "StopIteration") → E (.ref e) { s with heap := h' }) : wpAny (model prog w) A (Builtin.«zip.__next__» ⟨[.ref z], []⟩) Q E s := by
  show wpAny _ _ (field (.ref z) 2 >>= _) _ _ _
  refine wpAny_bind (wpAny_field hz rfl (x := .bool false) rfl ?_); show wpAny _ _ (field (.ref z) 3 >>= _) _ _ _
  refine wpAny_bind (wpAny_field hz rfl (x := .ref TI) rfl (wpAny_bind (wpAny_seqItems pI rfl ?_)))
  show wpAny _ _ (Builtin.SmallTypes.ownedTupleIsFree (.ref z) >>= _) _ _ _
  refine wpAny_bind (free_or hz hr ?_ fun ha za sa => ?_)
  · simp only [if_true]
    refine wpAny_bind (wpAny_rule (wpAny_bind (wpAny_field hz rfl (x := .ref TO) rfl ?_)))
    refine wpAny_bind (wpAny_setField_rec hz (by simp) fun ha za sa => wpAny_bind ?_)
    replace za : ZAt ha z TI TO .ellipsis g := za
    simp only [List.zipIdx_cons, List.zipIdx_nil, List.forIn_cons, List.forIn_nil]
    refine wpAny_bind ?_; refine wpAny_bind (wpAny_onRaise ?_)
    show wpAny _ _ (Builtin.SmallTypes.nextOf (.ref i1) >>= _) _ _ _
    refine wpAny_bind (nextOf_tuple_end hh (u1.extBut sa.extBut D.i1z) (t1.extBut sa.extBut D.l1z) ex fun hb e sb he => ?_)
    obtain ⟨oe, e1, e2⟩ := he
    have zb : ZAt hb z TI TO .ellipsis g := sb _ _ D.i1z.symm za
    have ne : e ≠ z := fun same => by subst same; rw [zb] at e1; cases e1; simp at e2
    refine wpAny_setField_rec zb (by simp) fun hc _ sc => out hc e (fun c o n1 _ n3 _ q => ?_) ⟨oe, sc.extBut _ _ ne e1, e2⟩
    exact sc.extBut _ _ n1 (sb _ _ n3 (sa.extBut _ _ n1 q))
  · simp only [Bool.false_eq_true, if_false]
    refine wpAny_bind ?_
    rw [← Array.forIn_toList]
    simp only [List.forIn_cons, List.forIn_nil]
    refine wpAny_bind ?_; refine wpAny_bind (wpAny_holding ?_)
    show wpAny _ _ (Builtin.SmallTypes.nextOf (.ref i1) >>= _) _ _ _
    refine wpAny_bind (nextOf_tuple_end (s := { s with heap := ha }) hh (u1.extBut sa.extBut D.i1z) (t1.extBut sa.extBut D.l1z) ex fun hb e sb he => out hb e (fun c o n1 _ n3 _ q => ?_) he)
    exact sb _ _ n3 (sa.extBut _ _ n1 q)
theorem next_zn {k : Nat} {xs ys : Array Value} {x y a b : Value} {Q : Option Value → Shared → Prop} (D : ZipApart z TI TO i1 i2 l1 l2) (hz : ZAt s.heap z TI TO r g) (hr : Out r) (pI : IsPair s.heap TI (.ref i1) (.ref i2)) (pO : IsPair s.heap TO a b)
    (u1 : s.heap.IsTupleIter i1 l1 k) (u2 : s.heap.IsTupleIter i2 l2 k) (t1 : s.heap.IsTuple l1 xs) (t2 : s.heap.IsTuple l2 ys) (ex : xs[k]? = some x) (ey : ys[k]? = some y)
    (now : ∀ h', After s.heap z TI TO i1 i2 l1 l2 k x y h' → Q (some (.ref s.heap.objs.size)) { s with heap := h' }) : wpAny (model prog w) A (pyNext (.ref z)) Q E s := by
  have isZ : s.TypeIs (.ref z) "zip" := ⟨_, hz, rfl⟩
  unfold pyNext
  refine wpAny_bind (wpAny_attempt (wpAny_callSpecial?_slot (name := Str.ofString "__next__") isZ F.slot_zip_next (wpAny_call_entry F.slot_zip_next isZ F.entry_zip_next ?_ (F.args_zip_next_1 _))))
  exact zn_item D hz hr pI pO u1 u2 t1 t2 ex ey fun h' q => wpAny_pure (now h' q)
theorem stop_zn {k : Nat} {xs : Array Value} {Q : Option Value → Shared → Prop} (hh : A.handled = none) (D : ZipApart z TI TO i1 i2 l1 l2) (hz : ZAt s.heap z TI TO r g) (hr : Out r) (pI : IsPair s.heap TI (.ref i1) (.ref i2)) (u1 : s.heap.IsTupleIter i1 l1 k) (t1 : s.heap.IsTuple l1 xs) (ex : xs[k]? = none)
    (now : ∀ h', (∀ c o, c ≠ z → c ≠ TO → c ≠ i1 → c ≠ i2 → s.heap.get? c = some o → h'.get? c = some o) → Q none { s with heap := h' }) : wpAny (model prog w) A (pyNext (.ref z)) Q E s := by
  have isZ : s.TypeIs (.ref z) "zip" := ⟨_, hz, rfl⟩
  unfold pyNext
  refine wpAny_bind (wpAny_attempt (wpAny_callSpecial?_slot (name := Str.ofString "__next__") isZ F.slot_zip_next (wpAny_call_entry F.slot_zip_next isZ F.entry_zip_next ?_ (F.args_zip_next_1 _))))
  refine zn_end (xs := xs) (ys := xs) (a := .none) (b := .none) hh D hz hr pI u1 t1 ex fun h' e stay he => ?_
  obtain ⟨o, e1, e2⟩ := he
  refine wpAny_bind (wpAny_isInstance (T := "StopIteration") (b := true) ⟨o, e1, e2⟩ isSubtype_stop (wpAny_pure (now _ stay)))
theorem iter_zn {Q : Value → Shared → Prop} (hz : ZAt s.heap z TI TO r g) (now : Q (.ref z) s) : wpAny (model prog w) A (pyIter (.ref z)) Q E s := by
  have isZ : s.TypeIs (.ref z) "zip" := ⟨_, hz, rfl⟩
  refine wpAny_pyIter_slot isZ F.slot_zip_iter (wpAny_call_entry F.slot_zip_iter isZ F.entry_zip_iter ?_ (F.args_zip_iter_1 _))
  show wpAny _ _ (ret (.ref z)) _ _ s
  exact wpAny_pure ⟨_, rfl, "zip", _, isZ, F.slot_zip_next.lookup, now⟩
end
/-- two tuples of one length, their items in new pairs -/
def Itn (K : PySem.W.Frag) (a b : Addr) : It where
  go i H := ∃ (xs ys : List V) (x y : V), SqT K H a xs ∧ SqT K H b ys ∧ xs[i]? = some x ∧ ys[i]? = some y
  yld i H v H' := ∃ (T : Addr) (x y : V), v = .ref T ∧ H T = none ∧ H' = upd H T (.tup [x, y]) ∧ (∀ xs, SqT K H a xs → xs[i]? = some x) ∧ ∀ ys, SqT K H b ys → ys[i]? = some y
  stop i H := ∃ xs : List V, SqT K H a xs ∧ xs.length ≤ i
def Zn (z TI TO i1 i2 a b : Addr) (i : Nat) (h : Heap) : Prop := (∃ r g, ZAt h z TI TO r g ∧ Out r) ∧ IsPair h TI (.ref i1) (.ref i2) ∧ (∃ x y, IsPair h TO x y) ∧ h.IsTupleIter i1 a i ∧ h.IsTupleIter i2 b i
theorem five {z TI TO i1 i2 c : Addr} (h : c ∈ [z, TI, TO, i1, i2]) : c = z ∨ c = TI ∨ c = TO ∨ c = i1 ∨ c = i2 := by simpa using h
theorem turn_zn {P : Program} {w : World} {K : PySem.W.Frag} {nm : Str} {px : Pos} {a b z TI TO i1 i2 : Addr} (D : ZipApart z TI TO i1 i2 a b) : Turn P w K (.Name nm px) (Itn K a b) [z, TI, TO, i1, i2] z (Zn z TI TO i1 i2 a b) := by
  refine ⟨by simp, ?_, ?_, ?_, ?_, ?_⟩
  · rintro i h ⟨⟨r, g, hz, _⟩, hI, ⟨x, y, hO⟩, ⟨o1, e1, _, d1⟩, ⟨o2, e2, _, d2⟩⟩ c hc
    rcases five hc with rfl | rfl | rfl | rfl | rfl
    · exact ⟨_, hz, fun v q => nomatch q⟩
    · exact ⟨_, hI, fun v q => nomatch q⟩
    · exact ⟨_, hO, fun v q => nomatch q⟩
    · exact ⟨o1, e1, fun v q => by rw [d1] at q; cases q⟩
    · exact ⟨o2, e2, fun v q => by rw [d2] at q; cases q⟩
  · rintro i h h' ⟨⟨r, g, hz, hr⟩, hI, ⟨x, y, hO⟩, u1, u2⟩ k
    exact ⟨⟨r, g, k z (by simp) _ hz, hr⟩, k TI (by simp) _ hI, ⟨x, y, k TO (by simp) _ hO⟩, u1.at fun o q => k i1 (by simp) o q, u2.at fun o q => k i2 (by simp) o q⟩
  · intro X hP hw hK hc i pins s σ H E I free st hg
    subst hP hw hK
    obtain ⟨⟨r, g, hz, hr⟩, hI, ⟨x0, y0, hO⟩, u1, u2⟩ := st
    obtain ⟨xs, ys, x, y, qx, qy, hx, hy⟩ := hg
    obtain ⟨its, rv, p, _⟩ := I.tuple qx
    obtain ⟨its2, rv2, p2, _⟩ := I.tuple qy
    obtain ⟨v1, hv1, r1⟩ := rv.get hx
    obtain ⟨v2, hv2, r2⟩ := rv2.get hy
    refine next_zn D hz hr hI hO u1 u2 p p2 (x := v1) (y := v2) (by simpa using hv1) (by simpa using hv2) fun h' ⟨zz, oo, n1, n2, pn, sz, stay⟩ => ?_
    refine ⟨_, rfl, wpAny_pure ?_⟩
    have new : ObjOk X.prog X.w (upd H s.heap.objs.size (.tup [x, y])) h' s.heap.objs.size (.tup [x, y]) := ⟨by show 2 ≤ sizeLine; decide, [v1, v2], .cons r1 (.cons r2 .nil), ⟨_, pn, rfl, _, rfl⟩⟩
    have I1 : Inv X pins σ (upd H s.heap.objs.size (.tup [x, y])) { s with heap := h' } :=
      I.turnedNew (t' := s.toks) (ch := [z, TI, TO, i1, i2]) (fun c o out q => stay c o (fun e => out (by simp [e])) (fun e => out (by simp [e])) (fun e => out (by simp [e])) (fun e => out (by simp [e])) q) free (Nat.le_refl _) new
    have hI' : IsPair h' TI (.ref i1) (.ref i2) := stay _ _ D.TIz D.TITO D.TIi1 D.TIi2 hI
    refine ⟨.ref s.heap.objs.size, _, I1, rfl, ⟨_, x, y, rfl, I.hok.fresh (Nat.le_refl _), rfl, fun l hl => by rw [I.tuple_inj hl qx]; exact hx, fun l hl => by rw [I.tuple_inj hl qy]; exact hy⟩, ⟨zz, hI', oo, n1, n2⟩, fun c hcm => ?_⟩
    have lt : c < s.heap.objs.size := by
      rcases five hcm with rfl | rfl | rfl | rfl | rfl
      · exact Heap.lt_size hz
      · exact Heap.lt_size hI
      · exact Heap.lt_size hO
      · obtain ⟨_, e, _⟩ := u1
        exact Heap.lt_size e
      · obtain ⟨_, e, _⟩ := u2
        exact Heap.lt_size e
    rw [upd_ne (Nat.ne_of_lt lt)]
    exact (free c hcm).1
  · intro X hP hw hK hc i pins s σ H E I free st hg
    subst hP hw hK
    obtain ⟨⟨r, g, hz, hr⟩, hI, ⟨x0, y0, hO⟩, u1, u2⟩ := st
    obtain ⟨xs, qx, le⟩ := hg
    obtain ⟨its, rv, p, _⟩ := I.tuple qx
    have same := rv.length
    refine stop_zn (I.ok.hd hc) D hz hr hI u1 p (by simp; omega) fun h' stay => ⟨rfl, I.turnedL (t' := s.toks) (ch := [z, TI, TO, i1, i2]) (fun c o out q => ?_) free⟩
    exact stay c o (fun e => out (by simp [e])) (fun e => out (by simp [e])) (fun e => out (by simp [e])) (fun e => out (by simp [e])) q
  · rintro A i s Q E ⟨⟨r, g, hz, _⟩, _⟩ h
    exact iter_zn hz h
def iZipN (K : PySem.W.Frag) (ta : TA) : TI := fun σ H R => ta σ H fun vs H1 => ∃ (a b : Addr) (xs ys : List V), vs = [.ref a, .ref b] ∧ SqT K H1 a xs ∧ SqT K H1 b ys ∧ R (Itn K a b) H1
theorem pi_zipN {X : Cx} {e e2 : Expr} {ta : TA} {p pos px : Pos} {nm : Str} (hg : Gl X "zip") (hm : X.mg "zip" = none) (ha : PA X [e, e2] ta) (hs : starEach [e, e2] X.env = (false, eval e X.env) :: starEach [e2] X.env := by rfl)
    (hpl : (backTo pos (starEach [e2] X.env)).any (·.1) = false := by rfl) : PI X (.Name nm px) (.Call (.Name "zip" p) [e, e2] [] pos) (iZipN X.K ta) := by
  constructor
  intro pins s σ H R I want
  refine Call_ (ld_blt I hg hm PyProof.Rows.boot_zip (PyProof.Rows.callWith_type1 (thn (ha.run pos pins s σ H _ I want) ?_) hs hpl))
  rintro us s1 ⟨vs, H1, J, rv, a, b, xs, ys, rfl, qx, qy, now⟩
  obtain ⟨u1, u2, rfl, r1, r2⟩ := vals2 rv
  cases r1
  cases r2
  obtain ⟨its, rx, p1, _⟩ := J.tuple qx
  obtain ⟨its2, ry, p2, _⟩ := J.tuple qy
  obtain ⟨o1, ho1, _⟩ := id p1
  obtain ⟨o2, ho2, _⟩ := id p2
  refine call_zipT (show s1.heap.IsTuple a its.toArray from p1) (show s1.heap.IsTuple b its2.toArray from p2) fun h' hz hI hO v1 v2 size keep => ?_
  have hz' : ZAt h' (s1.heap.objs.size + 4) (s1.heap.objs.size + 2) (s1.heap.objs.size + 3) .none false := hz
  refine iter_zn hz' ?_
  have J2 : Inv X pins σ H1 { s1 with heap := h' } := J.kept (t' := s1.toks) keep
  refine ⟨s1.heap.objs.size + 4, [s1.heap.objs.size + 4, s1.heap.objs.size + 2, s1.heap.objs.size + 3, s1.heap.objs.size, s1.heap.objs.size + 1], _, _, H1, rfl, J2, turn_zn (PySem.W.ktu_apart s1.heap.objs.size a b (Heap.lt_size ho1) (Heap.lt_size ho2)), ⟨⟨_, _, hz', .inl rfl⟩, hI, ⟨_, _, hO⟩, v1, v2⟩, fun c hc => ?_, now⟩
  have le : s1.heap.objs.size ≤ c := by
    rcases five hc with rfl | rfl | rfl | rfl | rfl <;> omega
  exact J.fpOk le (J.hok.fresh le)
theorem walk_zn {K : PySem.W.Frag} {a b : Addr} {xs ys : List V} (same : xs.length = ys.length) : Walk (Itn K a b) xs.length (fun H => SqT K H a xs ∧ SqT K H b ys) (YPair (fun i => xs[i]?) (fun i => ys[i]?)) := by
  refine ⟨fun i H lt ⟨h1, h2⟩ => ⟨xs, ys, xs[i], ys[i]'(by omega), h1, h2, List.getElem?_eq_getElem lt, List.getElem?_eq_getElem (by omega)⟩, fun H ⟨h1, _⟩ => ⟨xs, h1, Nat.le_refl _⟩, ?_⟩
  rintro i H v H' lt ⟨h1, h2⟩ ⟨T, x, y, rfl, nT, rfl, q1, q2⟩
  exact ⟨T, x, y, rfl, nT, rfl, q1 xs h1, q2 ys h2⟩
end Rt
namespace Rt
open PySem PySem.Spec L2
open PyProof.Rows hiding St
theorem call_maxK {X : Cx} {K : PySem.W.Frag} (hK : X.K = K) (hc : X.calm = true) (hu : X.A.units + 64 < cLine) : CallR X (.builtin "max") (rBest K fun i j => if j > i then j else i) := by
  subst hK
  exact call_maxP hc hu
theorem call_minK {X : Cx} {K : PySem.W.Frag} (hK : X.K = K) (hc : X.calm = true) (hu : X.A.units + 64 < cLine) : CallR X (.builtin "min") (rBest K fun i j => if j < i then j else i) := by
  subst hK
  exact call_minP hc hu
end Rt
namespace Rt
open PySem PySem.Spec L2
open PyProof.Rows hiding St
/-! ### methods and makers as the top has left them -/
structure MAt (K : PySem.W.Frag) (C : Addr) (m qual : Str) (st : Stmt) : Prop where
  ex : ∃ (f : Addr) (fd : FuncData), Meth K C m f ∧ Fun K m qual st f fd
structure MkAt (K : PySem.W.Frag) (mg : Str → Option Value) (x : Str) (C : Addr) (qual : Str) (st : Stmt) : Prop where
  ex : ∃ (f : Addr) (fd : FuncData), L2.Mk K C f ∧ mg x = some (.ref C) ∧ Fun K "__init__" qual st f fd
section
variable {P : Program} {w : World} {K : PySem.W.Frag} {mg : Str → Option Value} {base h : Heap} {x m qual : Str} {st : Stmt} {C : Addr}
theorem mat_mk {f : Addr} {oc kV dc pm cd ct : Value} {od an : Option Addr} {sl : Array (Option Value)} (a : PySem.W.findIn K (.ref C) m = some (some (.ref f))) (i : PySem.W.isFn K (.ref f) = true)
    (l : K.lookup f = some ⟨oc, od, .func (PySem.W.fnOf m qual (defArgs st) (defBody st) (defScope st) .none kV dc pm an cd ct), sl⟩) (c : PySem.W.codeIn K cd qual = true) (k : PySem.W.keepIn K (.ref f) = true) : MAt K C m qual st :=
  ⟨f, _, ⟨a, i, k⟩, fun_mk l c k⟩
theorem mkat_mk {f : Addr} {oc kV dc pm cd ct : Value} {od an : Option Addr} {sl : Array (Option Value)} (X : K.In h) (G : h.Ns mainGlobals mg) (n : PySem.W.nsIn K mainGlobals x = some (some (.ref C))) (mk : PySem.W.makesIn K C = true) (kc : PySem.W.keepIn K (.ref C) = true)
    (a : PySem.W.findIn K (.ref C) "__init__" = some (some (.ref f))) (i : PySem.W.isFn K (.ref f) = true)
    (l : K.lookup f = some ⟨oc, od, .func (PySem.W.fnOf "__init__" qual (defArgs st) (defBody st) (defScope st) .none kV dc pm an cd ct), sl⟩) (c : PySem.W.codeIn K cd qual = true) (k : PySem.W.keepIn K (.ref f) = true) : MkAt K mg x C qual st :=
  ⟨f, _, ⟨mk, a, i, kc⟩, PySem.W.mg_of X G n, fun_mk l c k⟩
theorem MAt.md {k : Nat} {ps : List Str} {sp : Sp} (A : MAt K C m qual st) (ok : ∀ (f : Addr) (fd : FuncData), Fun K m qual st f fd → FnOk P w K mg base CX0 k f fd ps sp)
    (bd : ∀ (f : Addr) (fd : FuncData), Fun K m qual st f fd → Binds K fd ps []) : Md P w K mg base k C m sp := by
  obtain ⟨f, fd, h, F⟩ := A.ex
  exact ⟨f, fd, ps, h, ok f fd F, bd f fd F⟩
theorem MkAt.mkr {k : Nat} {ps : List Str} {sp : Sp} (A : MkAt K mg x C qual st) (ok : ∀ (f : Addr) (fd : FuncData), Fun K "__init__" qual st f fd → FnOk P w K mg base CX0 k f fd ps sp)
    (bd : ∀ (f : Addr) (fd : FuncData), Fun K "__init__" qual st f fd → Binds K fd ps []) : Mkr P w K mg base k C x sp := by
  obtain ⟨f, fd, h, n, F⟩ := A.ex
  exact ⟨f, fd, ps, h, n, ok f fd F, bd f fd F⟩
end
end Rt
namespace Rt
open PySem PySem.Spec L2
open PyProof.Rows hiding St
/-! ### == and != by a class's own methods -/
def rOwn (C : Addr) (sp : Sp) : R2 := fun x y H Q => ∃ (a b dx dy : Addr) (fs gs : List (Str × V)), x = .ref a ∧ y = .ref b ∧ H a = some (.ins C dx fs) ∧ H b = some (.ins C dy gs) ∧ sp [.ref a, .ref b] H (fun v H' => ∃ c : Bool, v = .bl c ∧ Q (.bl c) H') E0
section
variable {X : Cx} {k j : Nat} {C : Addr} {sp : Sp}
theorem rc_own {op : CmpOp} {m : Str} (hm : (cmpInfo op).2.1 = m) (M : Md X.prog X.w X.K X.mg X.base k C m sp) (hr : Room j X.A) (hk : k ≤ j) {pins : List (Addr × Obj)} {s : Shared} {σ : L2.St} {H : Hp} {x y : V} {u v : Value} {Q : VK}
    (I : Inv X pins σ H s) (rx : L2.RelV x u) (ry : L2.RelV y v) (d : rOwn C sp x y H Q) : wpAny (model X.prog X.w) X.A (richCompare op u v) (EP X pins σ Q) X.xe s := by
  obtain ⟨a, b, dx, dy, fs, gs, rfl, rfl, ha, hb', hsp⟩ := d
  obtain ⟨f, fd, ps, mt, F, hb⟩ := M.ex
  cases rx
  cases ry
  obtain ⟨mA, J, _⟩ := ins_get I.hok ha
  obtain ⟨mB, J', _⟩ := ins_get I.hok hb'
  obtain ⟨od, J, _⟩ := J.look
  obtain ⟨od', J', _⟩ := J'.look
  obtain ⟨mm, hF⟩ := I.fr
  have hr' := hr.mono hk
  refine PySem.W.cmp_K (op := op) (tb := .ref C) hr'.units0 hF I.ok.mod.kin J J'.type (by simp [PySem.W.notFirst]) (by rw [hm]; exact mt.at_) mt.fn ?_
  have hl := F.len _ _ _ _ hsp
  have r2 : Vals [V.ref a, V.ref b] [Value.ref a, Value.ref b] := .cons rfl (.cons rfl .nil)
  refine wpAny_call (codeAny_mono (F.run X.A X.stack s H ⟨[.ref a, .ref b], []⟩ [.ref a, .ref b] [.ref a, .ref b] _ E0 hr' I.env0 (by
    have := hb s [.ref a, .ref b] I.kIn (by simpa using hl)
    simpa using this) r2 hsp) fun r s' hq => ?_)
  cases r with
  | error e => exact False.elim hq
  | ok fl =>
    cases fl with
    | ret w =>
      obtain ⟨z, H', I', rz, c, rfl, q⟩ := I.after hq
      cases rz
      exact ⟨.bl c, H', I', rfl, q⟩
    | next => exact False.elim hq
    | brk => exact False.elim hq
    | cont => exact False.elim hq
theorem op_ownEq (M : Md X.prog X.w X.K X.mg X.base k C "__eq__" sp) (hr : Room j X.A) (hk : k ≤ j) : OpR X (compareOp .Eq) (rOwn C sp) := by
  intro pins s σ H x y v u Q I rx ry hq
  show wpAny (model X.prog X.w) X.A (richCompare .Eq v u) (EP X pins σ Q) X.xe s
  exact rc_own rfl M hr hk I rx ry hq
theorem op_ownNe (M : Md X.prog X.w X.K X.mg X.base k C "__ne__" sp) (hr : Room j X.A) (hk : k ≤ j) : OpR X (compareOp .NotEq) (rOwn C sp) := by
  intro pins s σ H x y v u Q I rx ry hq
  show wpAny (model X.prog X.w) X.A (richCompare .NotEq v u) (EP X pins σ Q) X.xe s
  exact rc_own rfl M hr hk I rx ry hq
end
/-! ### list(range(a, b, c)) -/
def rgC (a c : Int) (n : Nat) : List V := (List.range n).map fun i => V.int (a + (i : Nat) * c)
theorem rgC_length (a c : Int) (n : Nat) : (rgC a c n).length = n := by unfold rgC; rw [List.length_map, List.length_range]
theorem vals_rgC {a c : Int} {n : Nat} {acc : Array Value} (h : ItemsOf (fun i v => ∃ t, v = .int (a + i * c) t) acc n) : Vals (rgC a c n) acc.toList := by
  have e : acc.toList.length = n := by rw [Array.length_toList]; exact h.1
  unfold rgC
  rw [← e]
  refine vals_of_get acc.toList _ fun j u hj => ?_
  obtain ⟨t, rfl⟩ := h.2 j u (by rw [← hj, Array.getElem?_toList])
  exact ⟨t, rfl⟩
def tLstRg3 (ta : TA) : TE := fun σ H Q => ta σ H fun vs H1 => ∃ (i j c : Int) (n : Nat), vs = [.int i, .int j, .int c] ∧ RgC i j c n ∧ n ≤ 2 ^ 23 ∧ ∀ q, H1 q = none → Q (.ref q) (upd H1 q (.lst (rgC i c n)))
section
variable {X : Cx} {a b c : Expr} {ta : TA} {p pos p2 pos2 : Pos}
theorem pe_listRg3 (hc : X.calm = true) (hg : Gl X "list") (hm : X.mg "list" = none) (hg2 : Gl X "range") (hm2 : X.mg "range" = none) (ha : PA X [a, b, c] ta)
    (hs : starEach [a, b, c] X.env = (false, eval a X.env) :: starEach [b, c] X.env := by rfl) (hpl : (backTo pos (starEach [b, c] X.env)).any (·.1) = false := by rfl)
    (na : starEach [.Call (.Name "range" p) [a, b, c] [] pos] X.env = (false, eval (.Call (.Name "range" p) [a, b, c] [] pos) X.env) :: starEach [] X.env := by rfl) :
    PE X (.Call (.Name "list" p2) [.Call (.Name "range" p) [a, b, c] [] pos] [] pos2) (tLstRg3 ta) := by
  refine ⟨fun pins s σ H Q I h => ?_⟩
  have inner : wpAny (model X.prog X.w) X.A (eval (.Call (.Name "range" p) [a, b, c] [] pos) X.env) (fun x s' => ∃ r i j k n t u v H', x = .ref r ∧ IsRange s'.heap r i j k t u v ∧ Inv X pins σ H' s' ∧ RgC i j k n ∧ n ≤ 2 ^ 23 ∧ ∀ q, H' q = none → Q (.ref q) (upd H' q (.lst (rgC i k n)))) X.xe s := by
    refine Call_ (ld_blt I hg2 hm2 boot_range (PyProof.Rows.callWith_type1 (thn (ha.run pos pins s σ H _ I h) fun us s1 ⟨vs, H1, I1, r1, q1⟩ => ?_) hs hpl))
    obtain ⟨i, j, k, n, e, ⟨c0, c1, c2, c3⟩, c4, q⟩ := q1
    subst e
    cases r1 with
    | cons r rr =>
      cases rr with
      | cons r' rr =>
        cases rr with
        | cons r'' rr =>
          cases rr
          obtain ⟨t, rfl⟩ := r
          obtain ⟨t', rfl⟩ := r'
          obtain ⟨t'', rfl⟩ := r''
          refine call_range_3 c0 ?_ (.inl (PyProof.noPylong_small c1))
          exact ⟨_, i, j, k, n, _, _, _, H1, rfl, IsRange.new _ _ _ _ _ _ _, I1.kept (t' := s1.toks) fun b o e => Heap.get?_push_of_some _ e, ⟨c0, c1, c2, c3⟩, c4, q⟩
  refine Call_ (ld_blt I hg hm boot_list (PyProof.Rows.callWith_type1 (args_cons (thn inner fun x s1 ⟨r, i, j, k, n, t, u, v, H1, ex, hr, I1, ok, le, q⟩ => args_nil ?_) na) na))
  subst ex
  obtain ⟨b1, b2, b3, b4⟩ := ok
  refine call_list_range (n := n) (I1.ok.hd hc) hr b3 b4 (Nat.le_trans le (by decide)) fun h' tk acc c' hk e' hi => ?_
  refine ⟨.ref s1.heap.objs.size, upd H1 s1.heap.objs.size (.lst (rgC i k n)), I1.laid hk (Nat.le_refl _) (show ObjOk X.prog X.w _ _ _ (.lst (rgC i k n)) from ⟨?_, acc.toList, c', vals_rgC hi, ?_⟩), rfl, q _ (I1.hok.fresh (Nat.le_refl _))⟩
  · rw [rgC_length, sizeLine_eq]; omega
  · rw [Array.toArray_toList]; exact e'
end
end Rt
/-! own mathematics: rising over rules comes to its end within so many laps as there are numbers, or there is no timetable -/
namespace Rise
def upc (f s x : Int) : Int := f + (x - f + s - 1) / s * s
theorem upc_on (f s x : Int) : (upc f s x - f) % s = 0 := by
  unfold upc
  rw [show f + (x - f + s - 1) / s * s - f = (x - f + s - 1) / s * s by omega]
  exact Int.mul_emod_left _ _
theorem upc_ge {f s x : Int} (h : 0 < s) : x ≤ upc f s x := by
  unfold upc
  have e := Int.emod_add_mul_ediv (x - f + s - 1) s
  have l := Int.emod_lt_of_pos (x - f + s - 1) h
  rw [Int.mul_comm] at e
  omega
theorem upc_lt {f s x : Int} (h : 0 < s) : upc f s x < x + s := by
  unfold upc
  have e := Int.emod_add_mul_ediv (x - f + s - 1) s
  have l := Int.emod_nonneg (x - f + s - 1) (Int.ne_of_gt h)
  rw [Int.mul_comm] at e
  omega
/-- two numbers of a clock that are less than a step apart -/
theorem near_le {f s a b : Int} (h : 0 < s) (ha : (a - f) % s = 0) (hb : (b - f) % s = 0) (lt : a < b + s) : a ≤ b := by
  obtain ⟨i, hi⟩ := Int.dvd_of_emod_eq_zero ha
  obtain ⟨j, hj⟩ := Int.dvd_of_emod_eq_zero hb
  have e : a - b = s * (i - j) := by rw [Int.mul_sub]; omega
  have l : s * (i - j) < s * 1 := by rw [← e, Int.mul_one]; omega
  have q := Int.lt_of_mul_lt_mul_left l (Int.le_of_lt h)
  have : s * (i - j) ≤ s * 0 := Int.mul_le_mul_of_nonneg_left (by omega) (Int.le_of_lt h)
  rw [Int.mul_zero] at this
  omega
theorem upc_least {f s x z : Int} (h : 0 < s) (le : x ≤ z) (on : (z - f) % s = 0) : upc f s x ≤ z :=
  near_le h (upc_on f s x) on (by have := upc_lt (f := f) (x := x) h; omega)
theorem on_add {f s z N K : Int} (d : s ∣ N) (on : (z - f) % s = 0) : (z - K * N - f) % s = 0 := by
  obtain ⟨q, rfl⟩ := d
  rw [show z - K * (s * q) - f = (z - f) - s * (K * q) by rw [show K * (s * q) = s * (K * q) by rw [Int.mul_left_comm]]; omega]
  obtain ⟨i, hi⟩ := Int.dvd_of_emod_eq_zero on
  rw [hi, ← Int.mul_sub]
  exact Int.mul_emod_right _ _
theorem nodup_len : ∀ (M : Nat) (l : List Nat), l.Nodup → (∀ x, x ∈ l → x < M) → l.length ≤ M
  | 0, l, _, h => by
    cases l with
    | nil => exact Nat.le_refl _
    | cons x l => exact absurd (h x List.mem_cons_self) (Nat.not_lt_zero _)
  | M + 1, l, nd, h => by
    have q := nodup_len M (l.erase M) (List.Nodup.erase M nd) (fun x m => by
      have z := (List.Nodup.mem_erase_iff nd).mp m
      have := h x z.2
      have := z.1
      omega)
    rw [List.length_erase] at q
    split at q <;> omega
def code (N : Nat) (a : Nat × Int) : Nat := a.1 * N + (a.2 % (N : Int)).toNat
theorem code_inj {N : Nat} (h : 0 < N) {p q : Nat} {x y : Int} (e : code N (p, x) = code N (q, y)) : p = q ∧ x % (N : Int) = y % (N : Int) := by
  unfold code at e
  have b1 := Int.emod_nonneg x (show (N : Int) ≠ 0 by omega)
  have b2 := Int.emod_nonneg y (show (N : Int) ≠ 0 by omega)
  have c1 := Int.emod_lt_of_pos x (show (0 : Int) < N by omega)
  have c2 := Int.emod_lt_of_pos y (show (0 : Int) < N by omega)
  simp only at e
  have r1 : (x % (N : Int)).toNat < N := by omega
  have r2 : (y % (N : Int)).toNat < N := by omega
  have m1 : (p * N + (x % (N : Int)).toNat) % N = (x % (N : Int)).toNat := by rw [Nat.mul_comm, Nat.mul_add_mod, Nat.mod_eq_of_lt r1]
  have m2 : (q * N + (y % (N : Int)).toNat) % N = (y % (N : Int)).toNat := by rw [Nat.mul_comm, Nat.mul_add_mod, Nat.mod_eq_of_lt r2]
  rw [e, m2] at m1
  have pq : p * N = q * N := by omega
  exact ⟨Nat.eq_of_mul_eq_mul_right h pq, by omega⟩
section
variable {n N : Nat} {f s T : Nat → Int}
/-- how a number has come: a row of numbers, each led to by the next one -/
structure Chain (n N : Nat) (T X : Nat → Int) (p k : Nat) : Prop where
  ex : ∃ c : List (Nat × Int), c.length = k + 1 ∧ (∀ a, a ∈ c → a.1 < n ∧ a.2 ≤ X a.1 ∧ ∀ K : Int, a.2 + K * N ≤ T a.1 → X p + K * N ≤ T p) ∧ (c.map (code N)).Nodup
theorem Chain.start {X : Nat → Int} {p : Nat} (h : p < n) : Chain n N T X p 0 :=
  ⟨[(p, X p)], rfl, fun a m => by cases List.mem_singleton.mp m; exact ⟨h, Int.le_refl _, fun K z => z⟩, by simp⟩
theorem Chain.bound {X : Nat → Int} {p k : Nat} (h0 : 0 < N) (h : Chain n N T X p k) : k + 1 ≤ n * N := by
  obtain ⟨c, l, a, nd⟩ := h.ex
  have q := nodup_len (n * N) (c.map (code N)) nd (fun x m => by
    obtain ⟨b, hb, rfl⟩ := List.mem_map.mp m
    have hb1 := (a b hb).1
    unfold code
    have c2 := Int.emod_lt_of_pos b.2 (show (0 : Int) < N by omega)
    have b2 := Int.emod_nonneg b.2 (show (N : Int) ≠ 0 by omega)
    have : (b.1 + 1) * N ≤ n * N := Nat.mul_le_mul_right N hb1
    rw [Nat.add_mul, Nat.one_mul] at this
    omega)
  rw [List.length_map, l] at q
  exact q
theorem Chain.keep {X Y : Nat → Int} {p k : Nat} (h : Chain n N T X p k) (up : ∀ q, X q ≤ Y q) (e : Y p = X p) : Chain n N T Y p k := by
  obtain ⟨c, l, a, nd⟩ := h.ex
  refine ⟨c, l, fun b m => ?_, nd⟩
  obtain ⟨a1, a2, a3⟩ := a b m
  exact ⟨a1, Int.le_trans a2 (up _), fun K z => by rw [e]; exact a3 K z⟩
theorem Chain.raise {X Y : Nat → Int} {p q k : Nat} {l : Int} (h0 : 0 < N) (hp : p < n) (sp : 0 < s p) (sd : s p ∣ (N : Int)) (tp : (T p - f p) % s p = 0) (ok : T q + l ≤ T p) (h : Chain n N T X q k)
    (gt : X p < upc (f p) (s p) (X q + l)) (e : Y p = upc (f p) (s p) (X q + l)) (up : ∀ q, X q ≤ Y q) : Chain n N T Y p (k + 1) := by
  obtain ⟨c, lc, a, nd⟩ := h.ex
  have led : ∀ K : Int, X q + K * N ≤ T q → Y p + K * N ≤ T p := fun K z => by
    rw [e]
    have := upc_least (x := X q + l) (z := T p - K * N) sp (by omega) (on_add sd tp)
    omega
  refine ⟨(p, Y p) :: c, by rw [List.length_cons, lc], fun b m => ?_, ?_⟩
  · rcases List.mem_cons.mp m with rfl | m
    · exact ⟨hp, Int.le_refl _, fun K z => z⟩
    · obtain ⟨a1, a2, a3⟩ := a b m
      exact ⟨a1, Int.le_trans a2 (up _), fun K z => led K (a3 K z)⟩
  · rw [List.map_cons, List.nodup_cons]
    refine ⟨fun m => ?_, nd⟩
    obtain ⟨b, hb, eb⟩ := List.mem_map.mp m
    obtain ⟨a1, a2, a3⟩ := a b hb
    obtain ⟨b1, b2⟩ := b
    obtain ⟨rfl, em⟩ := code_inj h0 eb
    simp only at a2 a3
    have lt : b2 < Y b1 := by rw [e]; omega
    have d : (N : Int) ∣ Y b1 - b2 := Int.dvd_of_emod_eq_zero (Int.emod_eq_emod_iff_emod_sub_eq_zero.mp em.symm)
    have le : (N : Int) ≤ Y b1 - b2 := Int.le_of_dvd (by omega) d
    have z1 := Int.emod_add_mul_ediv (T b1 - b2) (N : Int)
    have z2 := Int.emod_nonneg (T b1 - b2) (show (N : Int) ≠ 0 by omega)
    have z3 := Int.emod_lt_of_pos (T b1 - b2) (show (0 : Int) < N by omega)
    rw [Int.mul_comm] at z1
    have w := led _ (a3 ((T b1 - b2) / (N : Int)) (by omega))
    omega
/-- what stands in a lap: each rule is kept, or a number ahead of it has come far -/
structure Lap (n N : Nat) (T : Nat → Int) (RA : Nat → Nat → Nat → Int → Prop) (X : Nat → Int) (m t : Nat) : Prop where
  ex : ∃ L : Nat → Nat, (∀ p, p < n → Chain n N T X p (L p)) ∧ ∀ k i j l, RA k i j l → X i + l ≤ X j ∨ (if k < t then m + 1 else m) ≤ L i
variable {RA : Nat → Nat → Nat → Int → Prop}
theorem Lap.start {X : Nat → Int} : Lap n N T RA X 0 0 := ⟨fun _ => 0, fun p h => Chain.start h, fun k i j l _ => .inr (by simp)⟩
theorem Lap.next {X : Nat → Int} {m t : Nat} (h : Lap n N T RA X m t) (all : ∀ k i j l, RA k i j l → k < t) : Lap n N T RA X (m + 1) 0 := by
  obtain ⟨L, h1, h2⟩ := h.ex
  refine ⟨L, h1, fun k i j l r => ?_⟩
  have := h2 k i j l r
  rw [if_pos (all k i j l r)] at this
  simpa using this
theorem Lap.still {X : Nat → Int} {m t i j : Nat} {l : Int} (h : Lap n N T RA X m t) (uniq : ∀ i' j' l', RA t i' j' l' → i' = i ∧ j' = j ∧ l' = l) (le : X i + l ≤ X j) : Lap n N T RA X m (t + 1) := by
  obtain ⟨L, h1, h2⟩ := h.ex
  refine ⟨L, h1, fun k i' j' l' r => ?_⟩
  by_cases e : k = t
  · subst e
    obtain ⟨rfl, rfl, rfl⟩ := uniq _ _ _ r
    exact .inl le
  · rcases h2 k i' j' l' r with z | z
    · exact .inl z
    · refine .inr ?_
      by_cases lt : k < t
      · rw [if_pos lt] at z
        rw [if_pos (by omega)]
        exact z
      · rw [if_neg lt] at z
        rw [if_neg (by omega)]
        exact z
theorem Lap.raise {X Y : Nat → Int} {m t i j : Nat} {l : Int} (h0 : 0 < N) (h : Lap n N T RA X m t) (r : RA t i j l) (uniq : ∀ i' j' l', RA t i' j' l' → i' = i ∧ j' = j ∧ l' = l) (hi : i < n) (hj : j < n)
    (sp : 0 < s j) (sd : s j ∣ (N : Int)) (tp : (T j - f j) % s j = 0) (ok : T i + l ≤ T j) (on : (X j - f j) % s j = 0)
    (gt : X j < upc (f j) (s j) (X i + l)) (e : Y j = upc (f j) (s j) (X i + l)) (same : ∀ q, q ≠ j → Y q = X q) : Lap n N T RA Y m (t + 1) ∧ m + 2 ≤ n * N := by
  obtain ⟨L, h1, h2⟩ := h.ex
  have up : ∀ q, X q ≤ Y q := fun q => by
    by_cases z : q = j
    · subst z
      rw [e]
      omega
    · rw [same q z]
      exact Int.le_refl _
  have far : m ≤ L i := by
    rcases h2 t i j l r with z | z
    · exact absurd (upc_least sp z on) (by omega)
    · rw [if_neg (by omega)] at z
      exact z
  have ch := (h1 i hi).raise h0 hj sp sd tp ok gt e up
  refine ⟨⟨fun q => if q = j then L i + 1 else L q, fun p hp => ?_, fun k i' j' l' r' => ?_⟩, ?_⟩
  · by_cases z : p = j
    · subst z
      simp only [if_true]
      exact ch
    · simp only [if_neg z]
      exact (h1 p hp).keep up (same p z)
  · by_cases z : i' = j
    · right
      simp only [if_pos z]
      split <;> omega
    · simp only [if_neg z]
      rw [same i' z]
      by_cases et : k = t
      · subst et
        obtain ⟨rfl, rfl, rfl⟩ := uniq _ _ _ r'
        left
        rw [e]
        exact upc_ge sp
      · rcases h2 k i' j' l' r' with y | y
        · exact .inl (Int.le_trans y (up _))
        · right
          by_cases lt : k < t
          · rw [if_pos lt] at y
            rw [if_pos (by omega)]
            exact y
          · rw [if_neg lt] at y
            rw [if_neg (by omega)]
            exact y
  · have := ch.bound h0
    omega
end
end Rise
/-! own mathematics: leads as functions -/
namespace Ld
/-- the numbers of a clock from 0 to n - 1 -/
def nums (f s n : Int) : List Int := (List.range (n / s).toNat).map fun i => f % s + (i : Nat) * s
def valL (s n : Int) (row : List Int) (v : Int) : Int := row.getD (v % n / s).toNat 0 + (v - v % n)
theorem nums_len (f s n : Int) : (nums f s n).length = (n / s).toNat := by unfold nums; rw [List.length_map, List.length_range]
theorem nums_at {f s n : Int} {i : Nat} (h : i < (n / s).toNat) : (nums f s n)[i]? = some (f % s + (i : Nat) * s) := by
  unfold nums
  rw [List.getElem?_map, List.getElem?_range h]
  rfl
theorem mem_nums {f s n v : Int} (s0 : 0 < s) (d : s ∣ n) : v ∈ nums f s n ↔ 0 ≤ v ∧ v < n ∧ (v - f) % s = 0 := by
  obtain ⟨q, rfl⟩ := d
  have e1 : s * q / s = q := Int.mul_ediv_cancel_left q (by omega)
  unfold nums
  rw [List.mem_map]
  have r0 := Int.emod_nonneg f (show s ≠ 0 by omega)
  have r1 := Int.emod_lt_of_pos f s0
  have ef := Int.emod_add_mul_ediv f s
  constructor
  · rintro ⟨i, hi, rfl⟩
    rw [List.mem_range, e1] at hi
    have hq : (i : Int) + 1 ≤ q := by omega
    have m : s * ((i : Int) + 1) ≤ s * q := Int.mul_le_mul_of_nonneg_left hq (by omega)
    have i0 : 0 ≤ (i : Int) * s := Int.mul_nonneg (by omega) (by omega)
    rw [Int.mul_add, Int.mul_one, Int.mul_comm s] at m
    refine ⟨by omega, by omega, ?_⟩
    rw [show f % s + (i : Int) * s - f = s * ((i : Int) - f / s) by rw [Int.mul_sub, Int.mul_comm s (i : Int)]; omega]
    exact Int.mul_emod_right _ _
  · rintro ⟨h0, h1, h2⟩
    obtain ⟨k, hk⟩ := Int.dvd_of_emod_eq_zero h2
    have ek : v = f % s + s * (k + f / s) := by rw [Int.mul_add]; omega
    have k0 : 0 ≤ k + f / s := by
      rcases Int.lt_or_le (k + f / s) 0 with h | h
      · have : s * (k + f / s) ≤ s * (-1) := Int.mul_le_mul_of_nonneg_left (by omega) (by omega)
        omega
      · exact h
    have k1 : k + f / s < q := by
      rcases Int.lt_or_le (k + f / s) q with h | h
      · exact h
      · have : s * q ≤ s * (k + f / s) := Int.mul_le_mul_of_nonneg_left h (by omega)
        omega
    refine ⟨(k + f / s).toNat, by rw [List.mem_range, e1]; omega, ?_⟩
    rw [Int.toNat_of_nonneg k0, Int.mul_comm (k + f / s)]
    exact ek.symm
theorem nums_sorted (f : Int) {s : Int} (n : Int) (s0 : 0 < s) : (nums f s n).Pairwise (· < ·) := by
  unfold nums
  rw [List.pairwise_map]
  refine List.Pairwise.imp ?_ List.pairwise_lt_range
  intro a b lt
  have : (a : Int) * s < (b : Int) * s := Int.mul_lt_mul_of_pos_right (by omega) s0
  omega
/-- two ascending lists with the same members -/
theorem sorted_ext : ∀ (l m : List Int), l.Pairwise (· < ·) → m.Pairwise (· < ·) → (∀ x, x ∈ l ↔ x ∈ m) → l = m
  | [], [], _, _, _ => rfl
  | [], b :: m, _, _, h => absurd ((h b).mpr List.mem_cons_self) (by simp)
  | a :: l, [], _, _, h => absurd ((h a).mp List.mem_cons_self) (by simp)
  | a :: l, b :: m, hl, hm, h => by
    have l1 := List.pairwise_cons.mp hl
    have m1 := List.pairwise_cons.mp hm
    have ab : a = b := by
      rcases List.mem_cons.mp ((h a).mp List.mem_cons_self) with e | e
      · exact e
      · rcases List.mem_cons.mp ((h b).mpr List.mem_cons_self) with e2 | e2
        · exact e2.symm
        · have := m1.1 a e
          have := l1.1 b e2
          omega
    subst ab
    rw [sorted_ext l m l1.2 m1.2 fun x => ?_]
    constructor
    · intro hx
      rcases List.mem_cons.mp ((h x).mp (List.mem_cons_of_mem _ hx)) with e | e
      · have := l1.1 x hx
        omega
      · exact e
    · intro hx
      rcases List.mem_cons.mp ((h x).mpr (List.mem_cons_of_mem _ hx)) with e | e
      · have := m1.1 x hx
        omega
      · exact e
theorem range_cast_sorted (n : Nat) : ((List.range n).map fun i => ((i : Nat) : Int)).Pairwise (· < ·) := by
  rw [List.pairwise_map]
  exact List.Pairwise.imp (fun h => by omega) List.pairwise_lt_range
/-- the law's own way to the numbers -/
theorem nums_filter {f s : Int} {n : Nat} (s0 : 0 < s) (d : s ∣ (n : Int)) : ((List.range n).map fun i => ((i : Nat) : Int)).filter (fun v => decide ((v - f) % s = 0)) = nums f s n := by
  refine sorted_ext _ _ (List.Pairwise.filter _ (range_cast_sorted n)) (nums_sorted f n s0) fun x => ?_
  rw [List.mem_filter, mem_nums s0 d, List.mem_map, decide_eq_true_eq]
  constructor
  · rintro ⟨⟨i, hi, rfl⟩, h⟩
    rw [List.mem_range] at hi
    exact ⟨by omega, by omega, h⟩
  · rintro ⟨h0, h1, h2⟩
    exact ⟨⟨x.toNat, by rw [List.mem_range]; omega, by omega⟩, h2⟩
/-- what a lead is -/
structure Sem (f s g r n : Int) (F : Int → Int) : Prop where
  s0 : 0 < s
  r0 : 0 < r
  n0 : 0 < n
  sd : s ∣ n
  rd : r ∣ n
  on : ∀ v, (v - f) % s = 0 → (F v - g) % r = 0
  mono : ∀ v u, (v - f) % s = 0 → (u - f) % s = 0 → v ≤ u → F v ≤ F u
  per : ∀ v, (v - f) % s = 0 → F (v + n) = F v + n
theorem on_add {f s v n : Int} (d : s ∣ n) (h : (v - f) % s = 0) : (v + n - f) % s = 0 := by
  obtain ⟨q, rfl⟩ := d
  rw [show v + s * q - f = v - f + s * q by omega, Int.add_mul_emod_self_left]
  exact h
theorem on_mul {f s v n k : Int} (d : s ∣ n) (h : (v - f) % s = 0) : (v + k * n - f) % s = 0 := on_add (Int.dvd_trans d (Int.dvd_mul_left _ _)) h
theorem on_rest {f s v n : Int} (d : s ∣ n) (h : (v - f) % s = 0) : (v % n - f) % s = 0 := by
  have e := Int.emod_add_mul_ediv v n
  rw [show v % n = v + (-(v / n)) * n by rw [Int.neg_mul, Int.mul_comm (v / n)]; omega]
  exact on_mul d h
section
variable {f s g r n : Int} {F : Int → Int}
theorem Sem.pers (h : Sem f s g r n F) {v : Int} (hv : (v - f) % s = 0) : ∀ k : Nat, F (v + k * n) = F v + k * n
  | 0 => by simp
  | k + 1 => by
    have e : v + ((k + 1 : Nat) : Int) * n = v + (k : Int) * n + n := by rw [Int.natCast_add, Int.add_mul]; omega
    rw [e, h.per _ (on_mul h.sd hv), h.pers hv k, Int.natCast_add, Int.add_mul]
    omega
theorem Sem.perz (h : Sem f s g r n F) {v : Int} (hv : (v - f) % s = 0) (k : Int) : F (v + k * n) = F v + k * n := by
  rcases Int.le_total 0 k with z | z
  · obtain ⟨m, rfl⟩ := Int.eq_ofNat_of_zero_le z
    exact h.pers hv m
  · obtain ⟨m, hm⟩ := Int.eq_ofNat_of_zero_le (show 0 ≤ -k by omega)
    have q := h.pers (v := v + k * n) (on_mul h.sd hv) m
    rw [show v + k * n + (m : Int) * n = v by rw [← hm, Int.neg_mul]; omega] at q
    rw [← hm, Int.neg_mul] at q
    omega
theorem Sem.val (h : Sem f s g r n F) {v : Int} (hv : (v - f) % s = 0) : valL s n ((nums f s n).map F) v = F v := by
  have e := Int.emod_add_mul_ediv v n
  have b0 := Int.emod_nonneg v (show n ≠ 0 from by have := h.n0; omega)
  have b1 := Int.emod_lt_of_pos v h.n0
  have o := on_rest h.sd hv
  have m := (mem_nums h.s0 h.sd).mpr ⟨b0, b1, o⟩
  obtain ⟨i, hi, ei⟩ := List.getElem_of_mem m
  have hi' : i < (n / s).toNat := by rw [nums_len] at hi; exact hi
  have at_ := nums_at (f := f) hi'
  rw [List.getElem?_eq_getElem hi, ei] at at_
  have ev : v % n = f % s + (i : Int) * s := Option.some.inj at_
  have r0 := Int.emod_nonneg f (show s ≠ 0 from by have := h.s0; omega)
  have r1 := Int.emod_lt_of_pos f h.s0
  have di : v % n / s = (i : Int) := by
    rw [ev, Int.add_mul_ediv_right _ _ (by have := h.s0; omega), Int.ediv_eq_zero_of_lt r0 r1]
    omega
  unfold valL
  rw [di, Int.toNat_natCast, List.getD_eq_getElem?_getD, List.getElem?_map, List.getElem?_eq_getElem hi, ei]
  show F (v % n) + (v - v % n) = F v
  have q := h.perz o (v / n)
  rw [show v % n + v / n * n = v by rw [Int.mul_comm (v / n)]; omega] at q
  rw [q, Int.mul_comm (v / n)]
  omega
theorem Sem.times (h : Sem f s g r n F) {t : Nat} (t0 : 0 < t) : Sem f s g r (t * n) F := by
  refine ⟨h.s0, h.r0, Int.mul_pos (by omega) h.n0, Int.dvd_trans h.sd (Int.dvd_mul_left _ _), Int.dvd_trans h.rd (Int.dvd_mul_left _ _), h.on, h.mono, fun v hv => h.pers hv t⟩
theorem Sem.comp {g' s' r' e : Int} {G : Int → Int} (h : Sem f s g r n F) (k : Sem g' r e r' n G) (al : (g - g') % r = 0) : Sem f s e r' n (fun v => G (F v)) := by
  have tr : ∀ v, (v - f) % s = 0 → (F v - g') % r = 0 := fun v hv => by
    obtain ⟨a, ha⟩ := Int.dvd_of_emod_eq_zero (h.on v hv)
    obtain ⟨b, hb⟩ := Int.dvd_of_emod_eq_zero al
    rw [show F v - g' = r * (a + b) by rw [Int.mul_add]; omega]
    exact Int.mul_emod_right _ _
  exact ⟨h.s0, k.r0, h.n0, h.sd, k.rd, fun v hv => k.on _ (tr v hv), fun v u hv hu le => k.mono _ _ (tr v hv) (tr u hu) (h.mono v u hv hu le), fun v hv => by
    show G (F (v + n)) = G (F v) + n
    rw [h.per v hv, k.per _ (tr v hv)]⟩
theorem Sem.max {G : Int → Int} (h : Sem f s g r n F) (k : Sem f s g r n G) : Sem f s g r n (fun v => if G v > F v then G v else F v) := by
  refine ⟨h.s0, h.r0, h.n0, h.sd, h.rd, fun v hv => ?_, fun v u hv hu le => ?_, fun v hv => ?_⟩
  · show ((if G v > F v then G v else F v) - g) % r = 0
    split
    · exact k.on v hv
    · exact h.on v hv
  · show (if G v > F v then G v else F v) ≤ (if G u > F u then G u else F u)
    have a := h.mono v u hv hu le
    have b := k.mono v u hv hu le
    split <;> split <;> omega
  · show (if G (v + n) > F (v + n) then G (v + n) else F (v + n)) = (if G v > F v then G v else F v) + n
    rw [h.per v hv, k.per v hv]
    split <;> split <;> omega
/-- alike clocks at the start -/
theorem Sem.alike {f' : Int} (h : Sem f s g r n F) (al : (f' - f) % s = 0) : Sem f' s g r n F := by
  have tr : ∀ v, (v - f') % s = 0 → (v - f) % s = 0 := fun v hv => by
    obtain ⟨a, ha⟩ := Int.dvd_of_emod_eq_zero hv
    obtain ⟨b, hb⟩ := Int.dvd_of_emod_eq_zero al
    rw [show v - f = s * (a + b) by rw [Int.mul_add]; omega]
    exact Int.mul_emod_right _ _
  exact ⟨h.s0, h.r0, h.n0, h.sd, h.rd, fun v hv => h.on v (tr v hv), fun v u hv hu => h.mono v u (tr v hv) (tr u hu), fun v hv => h.per v (tr v hv)⟩
theorem emod_alike {f' : Int} (s0 : 0 < s) (al : (f' - f) % s = 0) : f' % s = f % s := Int.emod_eq_emod_iff_emod_sub_eq_zero.mpr al
theorem nums_alike {f' : Int} (s0 : 0 < s) (al : (f' - f) % s = 0) : nums f' s n = nums f s n := by
  unfold nums
  rw [emod_alike s0 al]
theorem nums_on {f s n v : Int} (s0 : 0 < s) (d : s ∣ n) (h : v ∈ nums f s n) : (v - f) % s = 0 := ((mem_nums s0 d).mp h).2.2
/-- the numbers over more periods -/
theorem nums_times (s0 : 0 < s) (n0 : 0 < n) (d : s ∣ n) (t : Nat) : nums f s (t * n) = (List.range t).flatMap fun k => (nums f s n).map (· + (k : Nat) * n) := by
  obtain ⟨q, rfl⟩ := d
  have e1 : ∀ k : Int, k * (s * q) / s = k * q := fun k => by
    rw [show k * (s * q) = s * (k * q) by rw [Int.mul_left_comm]]
    exact Int.mul_ediv_cancel_left _ (by omega)
  have e2 : s * q / s = q := Int.mul_ediv_cancel_left q (by omega)
  have q0 : 0 < q := Int.pos_of_mul_pos_right n0 s0
  induction t with
  | zero =>
    unfold nums
    simp
  | succ t ih =>
    rw [List.range_succ, List.flatMap_append, ← ih]
    unfold nums
    rw [e1, e1, e2]
    have e3 : (((t + 1 : Nat) : Int) * q).toNat = ((t : Int) * q).toNat + q.toNat := by
      rw [Int.natCast_add, Int.add_mul]
      have : 0 ≤ (t : Int) * q := Int.mul_nonneg (by omega) (by omega)
      omega
    have tn : 0 ≤ (t : Int) * q := Int.mul_nonneg (by omega) (by omega)
    rw [e3, List.range_add, List.map_append]
    congr 1
    rw [List.flatMap_cons, List.flatMap_nil, List.append_nil, List.map_map, List.map_map]
    refine List.map_congr_left fun i _ => ?_
    show f % s + ((((t : Int) * q).toNat + i : Nat) : Int) * s = f % s + (i : Int) * s + (t : Int) * (s * q)
    rw [Int.natCast_add, Int.toNat_of_nonneg tn, Int.add_mul, show (t : Int) * q * s = (t : Int) * (s * q) by rw [Int.mul_assoc, Int.mul_comm q]]
    omega
theorem Sem.row_times (h : Sem f s g r n F) (t : Nat) : ((List.range t).flatMap fun k => ((nums f s n).map F).map (· + (k : Nat) * n)) = (nums f s (t * n)).map F := by
  rw [nums_times h.s0 h.n0 h.sd, List.map_flatMap]
  congr 1
  funext k
  rw [List.map_map, List.map_map]
  refine List.map_congr_left fun v hv => ?_
  exact (h.pers (nums_on h.s0 h.sd hv) k).symm
/-! ### jumps -/
def jmp (s : Int) (F : Int → Int) (v : Int) : Bool := decide (F (v - s) < F v)
def jumpsOf (f s n : Int) (F : Int → Int) : List Int := (nums f s n).filter (jmp s F)
theorem on_sub {v : Int} (h : (v - f) % s = 0) : (v - s - f) % s = 0 := by
  rw [show v - s - f = v - f + s * (-1) by omega, Int.add_mul_emod_self_left]
  exact h
theorem Sem.jmp_shift (h : Sem f s g r n F) {v : Int} (hv : (v - f) % s = 0) (k : Nat) : jmp s F (v + k * n) = jmp s F v := by
  unfold jmp
  rw [show v + (k : Int) * n - s = v - s + (k : Int) * n by omega, h.pers hv k, h.pers (on_sub hv) k]
  by_cases e : F (v - s) < F v
  · rw [decide_eq_true e, decide_eq_true (by omega)]
  · rw [decide_eq_false e, decide_eq_false (by omega)]
theorem Sem.jumps_times (h : Sem f s g r n F) (t : Nat) : jumpsOf f s (t * n) F = (List.range t).flatMap fun k => (jumpsOf f s n F).map (· + (k : Nat) * n) := by
  unfold jumpsOf
  rw [nums_times h.s0 h.n0 h.sd, List.filter_flatMap]
  congr 1
  funext k
  rw [List.filter_map]
  congr 1
  refine List.filter_congr fun v hv => ?_
  exact h.jmp_shift (nums_on h.s0 h.sd hv) k
/-- no jump in so many steps -/
theorem Sem.flat (h : Sem f s g r n F) {v : Int} (hv : (v - f) % s = 0) : ∀ k : Nat, (∀ i : Nat, i < k → jmp s F (v - (i : Int) * s) = false) → F (v - (k : Int) * s) = F v
  | 0, _ => by simp
  | k + 1, no => by
    have q := h.flat hv k fun i hi => no i (by omega)
    have z := no k (by omega)
    have on' : (v - (k : Int) * s - f) % s = 0 := by
      rw [show v - (k : Int) * s - f = v - f + s * (-(k : Int)) by rw [Int.mul_neg, Int.mul_comm s]; omega, Int.add_mul_emod_self_left]
      exact hv
    unfold jmp at z
    have le := h.mono (v - (k : Int) * s - s) (v - (k : Int) * s) (on_sub on') on' (by have := h.s0; omega)
    have nl := of_decide_eq_false z
    rw [show v - ((k + 1 : Nat) : Int) * s = v - (k : Int) * s - s by rw [Int.natCast_add, Int.add_mul]; omega]
    omega
theorem steps_between {u v : Int} (s0 : 0 < s) (hu : (u - f) % s = 0) (hv : (v - f) % s = 0) (le : u ≤ v) : ∃ k : Nat, u = v - (k : Int) * s := by
  obtain ⟨a, ha⟩ := Int.dvd_of_emod_eq_zero hu
  obtain ⟨b, hb⟩ := Int.dvd_of_emod_eq_zero hv
  have e : v - u = s * (b - a) := by rw [Int.mul_sub]; omega
  have nn : 0 ≤ b - a := by
    rcases Int.lt_or_le (b - a) 0 with z | z
    · have : s * (b - a) ≤ s * (-1) := Int.mul_le_mul_of_nonneg_left (by omega) (by omega)
      omega
    · exact z
  refine ⟨(b - a).toNat, ?_⟩
  rw [Int.toNat_of_nonneg nn, Int.mul_comm (b - a)]
  omega
/-- no jump behind u up to v -/
theorem Sem.calm (h : Sem f s g r n F) {u v : Int} (hu : (u - f) % s = 0) (hv : (v - f) % s = 0) (le : u ≤ v) (no : ∀ w, (w - f) % s = 0 → u < w → w ≤ v → jmp s F w = false) : F u = F v := by
  obtain ⟨k, rfl⟩ := steps_between h.s0 hu hv le
  refine h.flat hv k fun i hi => ?_
  have lt : (i : Int) * s < (k : Int) * s := Int.mul_lt_mul_of_pos_right (by omega) h.s0
  have i0 : 0 ≤ (i : Int) * s := Int.mul_nonneg (by omega) (by have := h.s0; omega)
  refine no _ ?_ (by omega) (by omega)
  rw [show v - (i : Int) * s - f = v - f + s * (-(i : Int)) by rw [Int.mul_neg, Int.mul_comm s]; omega, Int.add_mul_emod_self_left]
  exact hv
theorem Sem.some_jump (h : Sem f s g r n F) : jumpsOf f s n F ≠ [] := by
  intro z
  have hf : (f % s - f) % s = 0 := by
    rw [show f % s - f = s * (-(f / s)) by rw [Int.mul_neg]; have := Int.emod_add_mul_ediv f s; omega]
    exact Int.mul_emod_right _ _
  have r0 := Int.emod_nonneg f (show s ≠ 0 from by have := h.s0; omega)
  have r1 := Int.emod_lt_of_pos f h.s0
  have e := h.calm (u := f % s - s) (v := f % s - s + n) (on_sub hf) (on_add h.sd (on_sub hf)) (by have := h.n0; omega) fun w hw a b => by
    have m : w ∈ nums f s n := (mem_nums h.s0 h.sd).mpr ⟨by
      -- w > f % s - s and on the clock, so w ≥ f % s ≥ 0
      obtain ⟨k, hk⟩ := Int.dvd_of_emod_eq_zero hw
      obtain ⟨j, hj⟩ := Int.dvd_of_emod_eq_zero hf
      have e1 : w - f % s = s * (k - j) := by rw [Int.mul_sub]; omega
      rcases Int.lt_or_le (k - j) 0 with y | y
      · have : s * (k - j) ≤ s * (-1) := Int.mul_le_mul_of_nonneg_left (by omega) (by have := h.s0; omega)
        omega
      · have : 0 ≤ s * (k - j) := Int.mul_nonneg (by have := h.s0; omega) y
        omega, by omega, hw⟩
    cases q : jmp s F w with
    | false => rfl
    | true =>
      have : w ∈ jumpsOf f s n F := List.mem_filter.mpr ⟨m, q⟩
      rw [z] at this
      cases this
  have p := h.per _ (on_sub hf)
  have := h.n0
  omega
/-- the value told by the jumps -/
def byJ (n : Int) (F : Int → Int) (some : List Int) (v : Int) : Int := if (some.filter fun k => decide (k ≤ v)) ≠ [] then F ((some.filter fun k => decide (k ≤ v)).getLastD 0) else F (some.getLastD 0) - n
theorem last_max : ∀ (l : List Int), l ≠ [] → l.Pairwise (· < ·) → l.getLastD 0 ∈ l ∧ ∀ x, x ∈ l → x ≤ l.getLastD 0
  | [], h, _ => absurd rfl h
  | [a], _, _ => ⟨List.mem_singleton.mpr rfl, fun x m => by cases List.mem_singleton.mp m; exact Int.le_refl _⟩
  | a :: b :: l, _, pw => by
    have p := List.pairwise_cons.mp pw
    have q := last_max (b :: l) (by simp) p.2
    have e : (a :: b :: l).getLastD 0 = (b :: l).getLastD 0 := by simp [List.getLastD]
    rw [e]
    refine ⟨List.mem_cons_of_mem _ q.1, fun x m => ?_⟩
    rcases List.mem_cons.mp m with rfl | m
    · exact Int.le_of_lt (p.1 _ q.1)
    · exact q.2 x m
theorem Sem.by_jumps (h : Sem f s g r n F) {v : Int} (hv : v ∈ nums f s n) : byJ n F (jumpsOf f s n F) v = F v := by
  obtain ⟨v0, v1, vo⟩ := (mem_nums h.s0 h.sd).mp hv
  have pw : (jumpsOf f s n F).Pairwise (· < ·) := List.Pairwise.filter _ (nums_sorted f n h.s0)
  unfold byJ
  by_cases e : ((jumpsOf f s n F).filter fun k => decide (k ≤ v)) ≠ []
  · rw [if_pos e]
    obtain ⟨m, mx⟩ := last_max _ e (List.Pairwise.filter _ pw)
    revert m mx
    generalize ((jumpsOf f s n F).filter fun k => decide (k ≤ v)).getLastD 0 = j
    intro m mx
    obtain ⟨m1, m2⟩ := List.mem_filter.mp m
    have m3 := List.mem_filter.mp m1
    obtain ⟨j0, j1, jo⟩ := (mem_nums h.s0 h.sd).mp m3.1
    refine h.calm jo vo (of_decide_eq_true m2) fun w wo a b => ?_
    cases q : jmp s F w with
    | false => rfl
    | true =>
      have : w ∈ (jumpsOf f s n F).filter fun k => decide (k ≤ v) := List.mem_filter.mpr ⟨List.mem_filter.mpr ⟨(mem_nums h.s0 h.sd).mpr ⟨by omega, by omega, wo⟩, q⟩, decide_eq_true b⟩
      have := mx w this
      omega
  · rw [if_neg e]
    have e' : ((jumpsOf f s n F).filter fun k => decide (k ≤ v)) = [] := Classical.byContradiction e
    obtain ⟨m, mx⟩ := last_max _ h.some_jump pw
    revert m mx
    generalize (jumpsOf f s n F).getLastD 0 = j
    intro m mx
    have m3 := List.mem_filter.mp m
    obtain ⟨j0, j1, jo⟩ := (mem_nums h.s0 h.sd).mp m3.1
    have jo' : (j - n - f) % s = 0 := by
      have := on_mul (k := -1) h.sd jo
      rw [show j + -1 * n - f = j - n - f by omega] at this
      exact this
    have q := h.calm (u := j - n) (v := v) jo' vo (by omega) fun w wo a b => by
      cases q : jmp s F w with
      | false => rfl
      | true =>
        rcases Int.lt_or_le w 0 with z | z
        · have s1 := h.jmp_shift wo 1
          rw [q, show w + ((1 : Nat) : Int) * n = w + n by omega] at s1
          have := mx (w + n) (List.mem_filter.mpr ⟨(mem_nums h.s0 h.sd).mpr ⟨by omega, by omega, on_add h.sd wo⟩, s1⟩)
          omega
        · have : w ∈ (jumpsOf f s n F).filter fun k => decide (k ≤ v) := List.mem_filter.mpr ⟨List.mem_filter.mpr ⟨(mem_nums h.s0 h.sd).mpr ⟨z, by omega, wo⟩, q⟩, decide_eq_true b⟩
          rw [e'] at this
          cases this
    have p := h.per _ jo'
    rw [show j - n + n = j by omega] at p
    omega
end
end Ld
namespace L18
open PySem PySem.Spec L2 Rt Rs Ld
open PyProof.Rows hiding St

def top (i : Nat) : Stmt := PySem.Challenge.pw_roundticks_k18_whole_back_and_forth.main.body.getD i (.Pass ⟨0, 0, 0, 0⟩)
abbrev sSource : Stmt := top 27
abbrev sPick : Stmt := top 28
abbrev sOf : Stmt := top 29
abbrev sIsInt : Stmt := top 6
abbrev sOn : Stmt := top 9
abbrev sAlike : Stmt := top 10
abbrev sLUp : Stmt := top 32
abbrev sValue : Stmt := top 35
abbrev sNumbers : Stmt := top 36
abbrev sClock : Stmt := top 31
abbrev sLAlike : Stmt := top 37
structure Wds (mg : Str → Option Value) : Prop where
  zabs : mg "abs" = none
  zint : mg "int" = none
  zmax : mg "max" = none
  zlen : mg "len" = none
  zisinstance : mg "isinstance" = none
  zbool : mg "bool" = none
  zrange : mg "range" = none
  zlist : mg "list" = none
  ztuple : mg "tuple" = none
  zsorted : mg "sorted" = none
  zrepr : mg "repr" = none
  zzip : mg "zip" = none
  zall : mg "all" = none
  zmin : mg "min" = none
  zenumerate : mg "enumerate" = none
  gs : ∃ t, mg "GREATEST_STEP" = some (.int 60 t)
theorem big5000 {n : Nat} (h : n ≤ 5000) : n < sizeLine := by
  rw [sizeLine_eq]
  omega
theorem at0 {x y : V} : atI [x, y] 0 = some x := rfl
theorem at1 {x y : V} : atI [x, y] 1 = some y := rfl
def spAlike : Sp := fun vs H Q _ => ∃ (a b : Addr) (f s g r : Int), vs = [.ref a, .ref b] ∧ H a = some (.tup [.int f, .int s]) ∧ H b = some (.tup [.int g, .int r]) ∧ (s = r → 0 < s) ∧
  Q (.bl (decide (s = r) && decide ((g - f) % s = 0))) H
/-- a law's own lead: a dict -/
structure DL (H : Hp) (a : Addr) (f s g r n : Int) (row : List Int) : Prop where
  ex : ∃ (kvs : List (Key × V)) (sa ea ra : Addr), H a = some (.dK kvs) ∧ valV kvs (Sum.inr "start") = some (.ref sa) ∧ valV kvs (Sum.inr "end") = some (.ref ea) ∧ valV kvs (Sum.inr "period") = some (.int n) ∧ valV kvs (Sum.inr "row") = some (.ref ra) ∧
    H sa = some (.tup [.int f, .int s]) ∧ H ea = some (.tup [.int g, .int r]) ∧ H ra = some (.lst (row.map V.int))
theorem DL.same {H H' : Hp} {a : Addr} {f s g r n : Int} {row : List Int} (h : DL H a f s g r n row) (k : Same H H') : DL H' a f s g r n row := by
  obtain ⟨kvs, sa, ea, ra, h0, h1, h2, h3, h4, h5, h6, h7⟩ := h.ex
  exact ⟨kvs, sa, ea, ra, k _ _ h0, h1, h2, h3, h4, k _ _ h5, k _ _ h6, k _ _ h7⟩
theorem dgetK {H : Hp} {a : Addr} {kvs : List (Key × V)} {x : Str} {v : V} (h : H a = some (.dK kvs)) (e : valV kvs (Sum.inr x) = some v) : DGet H a (.str x) (some v) := by
  have z := DGet.k (k := (Sum.inr x : Key)) h
  rw [e] at z
  exact z
def spValue : Sp := fun vs H Q _ => ∃ (a : Addr) (f s g r n v : Int) (row : List Int), vs = [.ref a, .int v] ∧ DL H a f s g r n row ∧ 0 < s ∧ s ≤ 60 ∧ 0 < n ∧ n ≤ 3600 ∧ v % n / s < row.length ∧ Q (.int (valL s n row v)) H
def spNumbers : Sp := fun vs H Q _ => ∃ (t : Addr) (f s : Int) (n : Nat), vs = [.ref t, .int n] ∧ H t = some (.tup [.int f, .int s]) ∧ 0 < s ∧ s ≤ 60 ∧ s ∣ (n : Int) ∧ n ≤ 3600 ∧ ∀ (p : Addr) (H' : Hp), H p = none → Same H H' → H' p = some (.lst ((nums f s n).map V.int)) → Q (.ref p) H'
def spClock : Sp := fun vs H Q _ => ∃ (d c p : Addr) (ss : List Int), vs = [.ref d, .ref p] ∧ Src H d c ∧ H p = some (.lst (ss.map V.int)) ∧ p ≠ c ∧ 0 < ss.length ∧ ss.length < 100 ∧
  ∀ (t : Addr) (f s : Int) (H' : Hp), H' t = some (.tup [.int f, .int s]) → s ∈ ss → f.natAbs < 10 ^ 31 → Src H' d c → Keep d c H H' → Q (.ref t) H'
def spLAlike : Sp := fun vs H Q _ => ∃ (d c t : Addr) (f s : Int), vs = [.ref d, .ref t] ∧ Src H d c ∧ H t = some (.tup [.int f, .int s]) ∧ 0 < s ∧ s ≤ 60 ∧
  ∀ (u : Addr) (g : Int) (H' : Hp), H' u = some (.tup [.int g, .int s]) → (g - f) % s = 0 → g.natAbs ≤ f.natAbs + 420 → Src H' d c → Keep d c H H' → Q (.ref u) H'
theorem far_small {z : Int} (h : z ∈ ([0, 0, 0, 10 ^ 30 - 1000, 1000 - 10 ^ 30] : List Int)) : z.natAbs ≤ 10 ^ 30 := by
  simp only [List.mem_cons, List.not_mem_nil, or_false] at h
  rcases h with e | e | e | e | e <;> subst e <;> decide +kernel
theorem few_small {z : Int} (h : z ∈ ([0, 0, 1, -3, 7] : List Int)) : -3 ≤ z ∧ z ≤ 7 := by
  simp only [List.mem_cons, List.not_mem_nil, or_false] at h
  rcases h with e | e | e | e | e <;> subst e <;> decide
section
variable {P : Program} {w : World} {K : PySem.W.Frag} {mg : Str → Option Value} {base : Heap} {f C : Addr} {fd : FuncData}

theorem scPick : FnScope ["source", "many", "left", "mixed"] ["source", "many"] (defScope sPick) := ⟨rfl, rfl, rfl, by decide +kernel, rfl, by decide +kernel, by decide +kernel⟩
theorem ok_pick {f : Addr} {fd : FuncData} (F : Fun K "_law_pick" "_law_pick" sPick f fd) (mL : mg "len" = none) (mM : mg "max" = none) (mI : mg "int" = none) : FnG P w K mg base 1 f fd ["source", "many"] spPick := by
  refine okG F scPick (fun vs H Q E h => ?_) (fun cdv A outer s H vs Q E hg hr h => ?_)
  · obtain ⟨d, c, n, rfl, _⟩ := h
    rfl
  · obtain ⟨d, c, n, rfl, S, hn, k⟩ := h
    have hu := hu_of hr
    refine ⟨_, pss_cons (ps_while PassesOwn.never
        (PW.pt (pw_and (pt_cmpR op_gt (pv 1) pe_int (nomark _)) (pw_and (pt_cmpR op_lt (pe_dget hu (pv 0) pe_str (fun _ _ => rfl)) pe_int (nomark _))
          (pw_and1 (pt_cmpR op_gt (pe_callB call_len_seq (by rfl) mL PySem.boot_len (pa_cons (pe_dget hu (pv 0) pe_str (fun _ _ => rfl)) pa_nil)) pe_int (nomark _))))))
        (pss_one (ps_dput hu (pv 0) pe_str (pe_bm0 PySem.F.plainAttrs_list PySem.F.slot_list_pop PySem.F.type_list_pop mt_pop (pe_dget hu (pv 0) pe_str (fun _ _ => rfl))) rfl)))
      (pss_cons (ps_set (i := 2) scPick.nd rfl (.inl rfl) (pe_dget hu (pv 0) pe_str (fun _ _ => rfl)))
      (pss_cons (ps_if (PW.pt (pw_or (pt_cmpR op_lt (pv 1) pe_int (nomark _)) (pw_or1 (pt_cmpR op_gt (pv 2) pe_int (nomark _)))))
        (pss_cons (ps_dput hu (pv 0) pe_str (pe_op op_fdivW (pv 2) (pe_callB (call_max2 rfl) (by rfl) mM (by decide +kernel) (pa_cons pe_int (pa_cons (pv 1) pa_nil)))) rfl)
          (pss_one (ps_ret (pe_op op_mod (pe_callTy call_int1 (by rfl) mI (by decide +kernel) (pa_cons (pv 2) pa_nil)) (pe_callB (call_max2 rfl) (by rfl) mM (by decide +kernel) (pa_cons pe_int (pa_cons (pv 1) pa_nil)))))))
        pss_nil)
      (pss_cons (ps_dput hu (pv 0) pe_str (pe_op op_add (pe_dget hu (pv 0) pe_str (fun _ _ => rfl)) pe_int) rfl)
      (pss_cons (ps_set (i := 3) scPick.nd rfl (.inl rfl) (pe_op op_mod (pe_callTy call_int1 (by rfl) mI (by decide +kernel) (pa_cons (pe_op op_add (pe_dget hu (pv 0) pe_str (fun _ _ => rfl)) (pe_op op_mul (pe_dget hu (pv 0) pe_str (fun _ _ => rfl)) pe_int)) pa_nil)) pe_int))
      (pss_cons (ps_set (i := 3) scPick.nd rfl (.inl rfl) (pe_op op_mod (pe_callTy call_int1 (by rfl) mI (by decide +kernel) (pa_cons (pe_op op_add (pe_op op_mul (pv 3) (pv 3)) (pe_op op_mul (pe_dget hu (pv 0) pe_str (fun _ _ => rfl)) pe_int)) pa_nil)) pe_int))
      (pss_cons (ps_dput hu (pv 0) pe_str (pv 3) rfl)
      (pss_one (ps_ret (pe_op op_mod (pe_callTy call_int1 (by rfl) mI (by decide +kernel) (pa_cons (pe_op op_fdiv (pv 3) pe_int) pa_nil)) (pv 1)))))))))), ?_⟩
    obtain ⟨ks0, l0, m0, t0, e1, e2⟩ := S.ex
    have dc : d ≠ c := ne_of e1 e2 (by intro z; cases z)
    -- while many > 1 and source['left'] < 2 and len(source['cells']) > 0
    refine ⟨fun m σ H1 => ∃ (ks : List Int) (l mx t : Int), m = ks.length ∧ σ = [some (.ref d), some (.int n), none, none] ∧ Keep d c H H1 ∧ H1 d = some (.dK (srcK c l mx t)) ∧ H1 c = some (.lst (ks.map V.int)),
      ⟨_, ks0, l0, m0, t0, rfl, rfl, Keep.refl, e1, e2⟩, ?_⟩
    rintro m σ H1 ⟨ks, l, mx, t, rfl, rfl, kp, hd, hc⟩
    refine ⟨_, rfl, _, _, rfl, rfl, _, rfl, ?_⟩
    by_cases g : 1 < n ∧ l < 2 ∧ 0 < ks.length
    · obtain ⟨g1, g2, g3⟩ := g
      rw [decide_eq_true g1]
      refine iteT ?_
      refine ⟨_, rfl, d, _, rfl, get_left hd, _, _, rfl, rfl, _, rfl, ?_⟩
      rw [decide_eq_true g2]
      refine iteT ?_
      refine ⟨_, rfl, d, _, rfl, get_cells hd, c, _, rfl, .inl (.inl (.inl hc)), _, _, rfl, rfl, _, rfl, ?_⟩
      rw [decide_eq_true (show (0 : Int) < ((ks.map V.int).length : Int) by rw [List.length_map]; omega)]
      refine iteT ?_
      obtain ⟨z, hz⟩ : ∃ z, ks[ks.length - 1]? = some z := ⟨ks[ks.length - 1], List.getElem?_eq_getElem (by omega)⟩
      refine ⟨fun σ2 H2 => σ2 = [some (.ref d), some (.int n), none, none] ∧ Keep d c H H2 ∧ H2 d = some (.dK (srcK c z mx t)) ∧ H2 c = some (.lst (ks.dropLast.map V.int)), ?_, ?_⟩
      · rintro σ2 H2 ⟨rfl, k2, d2, c2⟩
        refine ⟨ks.dropLast.length, ?_, ks.dropLast, z, mx, t, rfl, rfl, k2, d2, c2⟩
        rw [List.length_dropLast]
        omega
      · -- source['left'] = source['cells'].pop()
        have cd : d ≠ c := dc
        have hd2 : (upd H1 c (.lst (ks.map V.int).dropLast)) d = some (.dK (srcK c l mx t)) := by rw [upd_ne cd]; exact hd
        refine ⟨_, rfl, d, _, rfl, get_cells hd, .inl ⟨rfl, _, .inl (.inl hc)⟩, c, _, .int z, rfl, rfl, hc, ?_, _, rfl, d, _, rfl, st_left hd2 z, ?_⟩
        · rw [List.length_map, List.getElem?_map, hz]
          rfl
        · refine ⟨rfl, (kp.c).d, upd_same, ?_⟩
          rw [upd_ne cd.symm, upd_same, List.map_dropLast]
    · have nolen : 1 < n → l < 2 → ¬ (0 : Int) < ((ks.map V.int).length : Int) := fun g1 g2 g3 => g ⟨g1, g2, by rw [List.length_map] at g3; omega⟩
      refine (fun (fin : (?T : Prop)) => ?main) ?after
      case main =>
        by_cases g1 : 1 < n
        · rw [decide_eq_true g1]
          refine iteT ?_
          refine ⟨_, rfl, d, _, rfl, get_left hd, _, _, rfl, rfl, _, rfl, ?_⟩
          by_cases g2 : l < 2
          · rw [decide_eq_true g2]
            refine iteT ?_
            refine ⟨_, rfl, d, _, rfl, get_cells hd, c, _, rfl, .inl (.inl (.inl hc)), _, _, rfl, rfl, _, rfl, ?_⟩
            rw [decide_eq_false (nolen g1 g2)]
            refine iteF ?_
            exact fin
          · rw [decide_eq_false g2]
            exact iteF (iteF fin)
        · rw [decide_eq_false g1]
          exact iteF (iteF fin)
      case after =>
        -- left = source['left']
        refine ⟨_, rfl, d, _, rfl, get_left hd, ?_⟩
        have mx1 : ∀ n : Int, 0 < (if n > 1 then n else (1 : Int)) := fun n => by split <;> omega
        have mx2 : n < 1000000000 → (if n > 1 then n else (1 : Int)).natAbs < 2 ^ 60 := fun z => by split <;> omega
        -- if many < 2 or left > 1
        refine ⟨_, rfl, _, _, rfl, rfl, _, rfl, ?_⟩
        by_cases g : n < 2 ∨ 1 < l
        · by_cases g1 : n < 2
          all_goals first
            | (rw [decide_eq_true (show n < 2 by assumption)]
               refine iteT (iteT ?_))
            | (rw [decide_eq_false (show ¬ n < 2 by assumption)]
               refine iteF ?_
               refine ⟨_, rfl, _, _, rfl, rfl, _, rfl, ?_⟩
               rw [decide_eq_true (g.resolve_left g1)]
               refine iteT ?_)
          all_goals
            -- source['left'] = left // max(1, many); return int(left) % max(1, many)
            refine ⟨_, rfl, _, rfl, _, _, rfl, _, _, rfl, rfl, wide_div (mx1 n) (mx2 hn) (by decide) (by decide), _, rfl, d, _, rfl, st_left hd _, ?_⟩
            refine ⟨_, rfl, .inl ⟨_, rfl, _, rfl, _, _, rfl, _, _, rfl, rfl, mx1 n, ?_⟩⟩
            refine k _ _ (Int.emod_nonneg _ (Int.ne_of_gt (mx1 n))) ?_ ⟨ks, _, mx, t, upd_same, ?_⟩ kp.d
            · have z := Int.emod_lt_of_pos l (mx1 n)
              have z0 := Int.emod_nonneg l (Int.ne_of_gt (mx1 n))
              by_cases y : n > 1
              · rw [if_pos y] at z z0 ⊢
                exact .inl z
              · rw [if_neg y] at z z0 ⊢
                right
                omega
            · rw [upd_ne dc.symm]
              exact hc
        · rw [decide_eq_false (fun z => g (.inl z))]
          refine iteF ?_
          refine ⟨_, rfl, _, _, rfl, rfl, _, rfl, ?_⟩
          rw [decide_eq_false (fun z => g (.inr z))]
          refine iteF ?_
          have g1 : ¬ n < 2 := fun z => g (.inl z)
          -- source['turn'] = source['turn'] + 1
          refine ⟨_, rfl, d, _, rfl, get_turn hd, _, _, rfl, rfl, _, rfl, d, _, rfl, st_turn hd (t + 1), ?_⟩
          have hd2 : (upd H1 d (.dK (srcK c l mx (t + 1)))) d = some (.dK (srcK c l mx (t + 1))) := upd_same
          -- mixed = int(source['mixed'] + source['turn'] * 104729) % 998244353
          refine ⟨_, rfl, d, _, rfl, get_mixed hd2, _, rfl, d, _, rfl, get_turn hd2, _, _, rfl, rfl, .inr ⟨by decide, by decide⟩, _, _, rfl, rfl, .inl ⟨_, rfl, _, _, rfl, rfl, (by show (0 : Int) < 998244353; decide), ?_⟩⟩
          have b1 : 0 ≤ (mx + (t + 1) * 104729) % 998244353 := Int.emod_nonneg _ (by decide)
          have b2 : (mx + (t + 1) * 104729) % 998244353 < 998244353 := Int.emod_lt_of_pos _ (by decide)
          generalize (mx + (t + 1) * 104729) % 998244353 = y at b1 b2 ⊢
          -- mixed = int(mixed * mixed + source['turn'] * 17) % 2147483647
          refine ⟨_, rfl, _, rfl, _, _, rfl, rfl, .inl ⟨by omega, by omega⟩, _, rfl, d, _, rfl, get_turn hd2, _, _, rfl, rfl, .inr ⟨by decide, by decide⟩, _, _, rfl, rfl, .inl ⟨_, rfl, _, _, rfl, rfl, (by show (0 : Int) < 2147483647; decide), ?_⟩⟩
          -- source['mixed'] = mixed; return int(mixed // 16) % many
          refine ⟨_, rfl, _, rfl, d, _, rfl, st_mixed hd2 _, ?_⟩
          refine ⟨_, rfl, _, _, rfl, rfl, ⟨by decide, by decide⟩, .inl ⟨_, rfl, _, rfl, _, _, rfl, rfl, (by show (0 : Int) < n; omega), ?_⟩⟩
          refine k _ _ (Int.emod_nonneg _ (by omega)) (.inl (Int.emod_lt_of_pos _ (by omega))) ⟨ks, l, _, t + 1, upd_same, ?_⟩ (kp.d).d
          rw [upd_ne dc.symm, upd_ne dc.symm]
          exact hc
theorem scOf : FnScope ["source", "some"] ["source", "some"] (defScope sOf) := ⟨rfl, rfl, rfl, by decide +kernel, rfl, by decide +kernel, by decide +kernel⟩
theorem ok_of {f : Addr} {fd : FuncData} (F : Fun K "_law_of" "_law_of" sOf f fd) (mL : mg "len" = none) (CP : Cb P w K mg base 1 "_law_pick" spPick) : FnG P w K mg base 2 f fd ["source", "some"] spOf := by
  refine okG F scOf (fun vs H Q E h => ?_) (fun cdv A outer s H vs Q E hg hr h => ?_)
  · obtain ⟨d, c, p, xs, rfl, _⟩ := h
    rfl
  · obtain ⟨d, c, p, xs, rfl, S, hp, pc, h0, hl, k⟩ := h
    refine ⟨_, pss_one (ps_ret (pe_ix ix_list (pv 1) (pe_k CP hg hr (by decide) (by rfl) (pa_cons (pv 0) (pa_cons (pe_callB call_len_seq (by rfl) mL PySem.boot_len (pa_cons (pv 1) pa_nil)) pa_nil))) (fun _ _ => rfl))), ?_⟩
    refine ⟨_, rfl, _, rfl, _, rfl, p, _, rfl, .inl (.inl (.inl hp)), d, c, _, rfl, S, (by omega), ?_⟩
    intro r H1 r0 r1 S1 kp
    have rn : r < xs.length := by omega
    obtain ⟨j, ej⟩ : ∃ j : Nat, r = (j : Int) := ⟨r.toNat, by omega⟩
    have hj : j < xs.length := by omega
    have pd : p ≠ d := by
      obtain ⟨ks, l, m, t, q1, q2⟩ := S.ex
      exact ne_of hp q1 (by intro z; cases z)
    refine ⟨p, xs, r, xs[j], rfl, rfl, .inl (.inl (kp p _ hp pd pc)), at_of (j := j) ej (List.getElem?_eq_getElem hj), ?_⟩
    exact k j xs[j] H1 (List.getElem?_eq_getElem hj) S1 kp
theorem scSource : FnScope ["script", "mixed", "cell"] ["script"] (defScope sSource) := ⟨rfl, rfl, rfl, by decide +kernel, rfl, by decide +kernel, by decide +kernel⟩
theorem ok_source {f : Addr} {fd : FuncData} (F : Fun K "_law_source" "_law_source" sSource f fd) (mA : mg "abs" = none) (mI : mg "int" = none) : FnG P w K mg base 1 f fd ["script"] (spSource K) := by
  refine okG F scSource (fun vs H Q E h => ?_) (fun cdv A outer s H vs Q E hg hr h => ?_)
  · obtain ⟨a, ns, rfl, _⟩ := h
    rfl
  · obtain ⟨a, ns, rfl, hS, hl, k⟩ := h
    refine ⟨_, pss_cons (ps_set (i := 1) scSource.nd rfl (.inl rfl) pe_int)
      (pss_cons (ps_for PassesOwn.never rfl (pi_list (pv 0)) (pg_name (i := 2) scSource.nd rfl (.inl rfl))
        (pss_one (ps_set (i := 1) scSource.nd rfl (.inl rfl) (pe_op op_mod (pe_callTy call_int1 (by rfl) mI (by decide +kernel)
          (pa_cons (pe_op op_add (pe_op op_add (pe_op op_mul (pv 1) pe_int) (pe_op op_mul (pv 2) pe_int)) pe_int) pa_nil)) pe_int))))
      (pss_one (ps_ret (pe_disp (pps_cons pe_str (pe_revL (pe_lc (own := [("cell", 2)]) (g := gName 2) (tt := tYes) rfl scSource.nd (pi_list (pv 0))
          (blkOk_by (N := ["script", "mixed", "cell"]) (sc := defScope sSource) (by decide +kernel)) (fun _ _ _ _ _ => pg_name (i := 2) scSource.nd rfl (Or.inl rfl)) (fun _ _ _ _ _ => pts_nil)
          (fun _ _ _ _ _ => pe_callB call_abs (by rfl) mA (by decide +kernel) (pa_cons (pv 2) pa_nil))))
        (pps_cons pe_str pe_int (pps_cons pe_str (pv 1) (pps_cons pe_str pe_int pps_nil)))) (by rfl) (by rfl) (fun z => by cases z) (by decide))))), ?_⟩
    refine ⟨_, rfl, a, rfl, ⟨_, hS⟩, for_list (K := K) (a := a) (xs := ns.map V.int) (fun i σ H2 => ∃ (m : Int) (v : Option V), σ = [some (.ref a), some (.int m), v] ∧ H2 = H)
      ⟨11, none, rfl, rfl⟩ (fun i σ H2 _ ⟨_, _, _, e⟩ => by rw [e]; exact hS) ?_ ?_⟩
    · rintro i y σ H2 hi ⟨m, v, rfl, rfl⟩
      obtain ⟨z, hz, rfl⟩ := int_at hi
      refine ⟨_, rfl, _, _, rfl, rfl, .inr ⟨by decide, by decide⟩, _, rfl, _, _, rfl, rfl, .inr ⟨by decide, by decide⟩, _, _, rfl, rfl, _, _, rfl, rfl, .inl ⟨_, rfl, _, _, rfl, rfl, (by show (0 : Int) < 2147483629; decide), ?_⟩⟩
      exact ⟨_, _, rfl, rfl⟩
    · rintro σ H2 ⟨m, v, rfl, rfl⟩
      intro p np
      have s1 := same_new (o := .dK []) np
      refine ⟨_, rfl, a, rfl, ⟨_, s1.seq hS⟩, fun D nD => ?_⟩
      have s2 := s1.trans (same_new (o := .lst []) nD)
      have npD : p ≠ D := ne_of_none upd_same nD
      refine lc_list (K := K) (a := a) (xs := ns.map V.int) (fun i H3 => Same H2 H3 ∧ H3 p = some (.dK []) ∧ ∃ ks : List Int, ks.length = i ∧ H3 D = some (.lst (ks.map V.int)))
        ⟨s2, by rw [upd_ne npD]; exact upd_same, [], rfl, upd_same⟩ (fun i H3 _ ⟨s3, _⟩ => s3.seq hS) ?_ ?_
      · rintro i y H3 hi ⟨s3, hp, ks, rfl, hD⟩
        obtain ⟨z, hz, rfl⟩ := int_at hi
        have il : ks.length < ns.length := (List.getElem?_eq_some_iff.mp hz).1
        refine ⟨rfl, _, rfl, _, rfl, _, hD, ?_, ?_⟩
        · rw [List.length_map]
          exact small1000 (by omega)
        · have nD2 : H2 D = none := s1.free nD
          refine ⟨fun b o e => by rw [upd_ne (ne_of_none e nD2)]; exact s3 b o e, by rw [upd_ne npD]; exact hp, ks ++ [if z < 0 then -z else z], by simp, ?_⟩
          rw [upd_same, List.map_append]
          rfl
      · rintro H3 ⟨s3, hp, ks, ek, hD⟩
        refine ⟨D, _, rfl, .inl (.inl hD), fun c nc => ?_⟩
        refine ⟨_, rfl, ?_, srcK c 1 m 0, rfl, (by show 4 ≤ 15; decide), ?_⟩
        · rw [upd_ne (ne_of_none hp nc)]
          exact hp
        · rw [merge_src]
          have pc : p ≠ c := ne_of_none hp nc
          refine k p c _ np (s3.free nc) ⟨ks.reverse, 1, m, 0, upd_same, ?_⟩ fun b o e => ?_
          · rw [upd_ne pc.symm, upd_same, List.map_reverse]
          · have z := s3 b o e
            rw [upd_ne (ne_of_none e np), upd_ne (ne_of_none z nc)]
            exact z
theorem scIsInt : FnScope ["value"] ["value"] (defScope sIsInt) := ⟨rfl, rfl, rfl, by decide +kernel, rfl, by decide +kernel, by decide +kernel⟩
theorem ok_isInt2 {f : Addr} {fd : FuncData} (F : Fun K "is_integer" "is_integer" sIsInt f fd) (T : Wds mg) : FnOk P w K mg base CX0 1 f fd ["value"] spIsInt := by
  refine F.ok scIsInt (fun vs H Q E h => ?_) (fun cdv A outer s H vs Q E hr h => ?_)
  · obtain ⟨v, rfl, _⟩ := h
    rfl
  · obtain ⟨v, rfl, ho, k⟩ := h
    obtain ⟨T1, b1, b2, ty, k1, k2, e⟩ := od_type (K := K) ho
    refine ⟨_, (pss_one (ps_ret (pe_and (pe_callB call_isi (by rfl) T.zisinstance (by decide +kernel) (pa_cons (pv 0) (pa_cons (pe_bltn (v := .ty "int") (by rfl) T.zint (by decide +kernel) rfl) pa_nil))) (pe_one (pe_not (pe_callB call_isi (by rfl) T.zisinstance (by decide +kernel) (pa_cons (pv 0) (pa_cons (pe_bltn (v := .ty "bool") (by rfl) T.zbool (by decide +kernel) rfl) pa_nil)))))))), ?_⟩
    refine ⟨_, rfl, v, .ty "int", _, .type "int", b1, rfl, .ty _, ty, kit_ty k1, b1, rfl, ?_⟩
    cases b1 with
    | true =>
      refine iteT ?_
      refine ⟨_, rfl, v, .ty "bool", _, .type "bool", b2, rfl, .ty _, ty, kit_ty k2, b2, rfl, ?_⟩
      rw [show (!b2) = isI v from by simpa using e]
      exact k
    | false =>
      refine iteF ?_
      rw [show false = isI v from by simpa using e]
      exact k
theorem scOn : FnScope ["clock", "value", "first", "step"] ["clock", "value"] (defScope sOn) := ⟨rfl, rfl, rfl, by decide +kernel, rfl, by decide +kernel, by decide +kernel⟩
theorem ok_on {f : Addr} {fd : FuncData} (F : Fun K "is_on" "is_on" sOn f fd) (isInt : Cf P w K mg base 1 "is_integer" spIsInt) : FnOk P w K mg base CX0 2 f fd ["clock", "value"] spOn := by
  refine F.ok scOn (fun vs H Q E h => ?_) (fun cdv A outer s H vs Q E hr h => ?_)
  · obtain ⟨t, f, s, v, rfl, _⟩ := h
    rfl
  · obtain ⟨t, f, s, v, rfl, ht, hs, ho, k⟩ := h
    refine ⟨_, (pss_cons (ps_asg (pv 0) (pg_tup (by rfl) (pgs_cons (pg_name (i := 2) scOn.nd rfl (.inl rfl)) (pgs_cons (pg_name (i := 3) scOn.nd rfl (.inl rfl)) pgs_nil))))
      (pss_one (ps_ret (pe_and (pe_f isInt hr (by decide) (by rfl) (pa_cons (pv 1) pa_nil)) (pe_one (pe_cmpR op_eq (pe_op op_mod (pe_op op_sub (pv 1) (pv 2)) (pv 3)) pe_int (nomark _))))))), ?_⟩
    refine ⟨_, rfl, t, _, rfl, SqT.of ht, rfl, _, _, rfl, _, _, rfl, rfl, ?_⟩
    refine ⟨_, rfl, v, rfl, ho, _, rfl, ?_⟩
    cases v with
    | int i =>
      refine iteT ?_
      refine ⟨_, rfl, _, rfl, _, _, rfl, rfl, _, rfl, _, _, rfl, rfl, hs, rfl, ?_⟩
      rw [dec_V]
      exact k
    | _ => exact iteF k
theorem scLUp : FnScope ["clock", "x", "laps"] ["clock", "x"] (defScope sLUp) := ⟨rfl, rfl, rfl, by decide +kernel, rfl, by decide +kernel, by decide +kernel⟩
theorem ok_lup (F : Fun K "_law_up" "_law_up" sLUp f fd) (T : Wds mg) : FnG P w K mg base 1 f fd ["clock", "x"] spLUp := by
  refine okG F scLUp (fun vs H Q E h => ?_) (fun cdv A outer s H vs Q E hg hr h => ?_)
  · obtain ⟨t, f, s, x, rfl, _⟩ := h
    rfl
  · obtain ⟨t, f, s, x, rfl, ht, hs, hs2, k⟩ := h
    refine ⟨_, (pss_cons (ps_set (i := 2) scLUp.nd rfl (.inl rfl) (pe_op op_fdiv (pe_callTy call_int1 (by rfl) T.zint (by decide +kernel) (pa_cons (pe_op op_sub (pe_op op_add (pe_op op_sub (pv 1) (pe_ix ix_tup (pv 0) pe_int (fun _ _ => rfl))) (pe_ix ix_tup (pv 0) pe_int (fun _ _ => rfl))) pe_int) pa_nil)) (pe_ix ix_tup (pv 0) pe_int (fun _ _ => rfl))))
      (pss_one (ps_ret (pe_op op_add (pe_ix ix_tup (pv 0) pe_int (fun _ _ => rfl)) (pe_op op_mul (pv 2) (pe_ix ix_tup (pv 0) pe_int (fun _ _ => rfl))))))), ?_⟩
    have a0 : atI [V.int f, V.int s] 0 = some (V.int f) := rfl
    have a1 : atI [V.int f, V.int s] 1 = some (V.int s) := rfl
    refine ⟨_, rfl, _, rfl, t, _, _, _, rfl, rfl, SqT.of ht, a0, _, _, rfl, rfl, _, rfl, t, _, _, _, rfl, rfl, SqT.of ht, a1, _, _, rfl, rfl, _, _, rfl, rfl, .inl ⟨_, rfl, _, rfl, t, _, _, _, rfl, rfl, SqT.of ht, a1, _, _, rfl, rfl, (by first | omega | exact ⟨by omega, by omega⟩), ?_⟩⟩
    exact ⟨_, rfl, t, _, _, _, rfl, rfl, SqT.of ht, a0, _, rfl, _, rfl, t, _, _, _, rfl, rfl, SqT.of ht, a1, _, _, rfl, rfl, .inr ⟨by omega, by omega⟩, _, _, rfl, rfl, k⟩
theorem scAlike : FnScope ["one", "other"] ["one", "other"] (defScope sAlike) := ⟨rfl, rfl, rfl, by decide +kernel, rfl, by decide +kernel, by decide +kernel⟩
theorem ok_alike (F : Fun K "are_alike_clocks" "are_alike_clocks" sAlike f fd) (isOn : Cf P w K mg base 2 "is_on" spOn) : FnOk P w K mg base CX0 3 f fd ["one", "other"] spAlike := by
  refine F.ok scAlike (fun vs H Q E h => ?_) (fun cdv A outer s H vs Q E hr h => ?_)
  · obtain ⟨a, b, f, s, g, r, rfl, _⟩ := h
    rfl
  · obtain ⟨a, b, f, s, g, r, rfl, ha, hb, hs, k⟩ := h
    refine ⟨_, (pss_one (ps_ret (pe_and (pe_cmpR op_eq (pe_ix ix_tup (pv 0) pe_int (fun _ _ => rfl)) (pe_ix ix_tup (pv 1) pe_int (fun _ _ => rfl)) (nomark _)) (pe_one (pe_f isOn hr (by decide) (by rfl) (pa_cons (pv 0) (pa_cons (pe_ix ix_tup (pv 1) pe_int (fun _ _ => rfl)) pa_nil))))))), ?_⟩
    refine ⟨_, rfl, a, _, _, _, rfl, rfl, SqT.of ha, at1, _, rfl, b, _, _, _, rfl, rfl, SqT.of hb, at1, rfl, _, rfl, ?_⟩
    rw [dec_V]
    by_cases e : s = r
    · rw [decide_eq_true e] at k ⊢
      refine iteT ?_
      exact ⟨_, rfl, _, rfl, b, _, _, _, rfl, rfl, SqT.of hb, at0, a, f, s, _, rfl, ha, hs e, True.intro, k⟩
    · rw [decide_eq_false e] at k ⊢
      exact iteF k
theorem scValue : FnScope ["lead", "v", "laps", "at"] ["lead", "v"] (defScope sValue) := ⟨rfl, rfl, rfl, by decide +kernel, rfl, by decide +kernel, by decide +kernel⟩
theorem ok_value (F : Fun K "_law_value" "_law_value" sValue f fd) (T : Wds mg) : FnG P w K mg base 1 f fd ["lead", "v"] spValue := by
  refine okG F scValue (fun vs H Q E h => ?_) (fun cdv A outer s H vs Q E hg hr h => ?_)
  · obtain ⟨a, f, s, g, r, n, v, row, rfl, _⟩ := h
    rfl
  · obtain ⟨a, f, s, g, r, n, v, row, rfl, dl, s0, s1, n0, n1, hi, k⟩ := h
    have hu := hu_of hr
    have hu64 := hr.units
    refine ⟨_, (pss_cons (ps_set (i := 2) scValue.nd rfl (.inl rfl) (pe_op op_fdiv (pe_callTy call_int1 (by rfl) T.zint (by decide +kernel) (pa_cons (pv 1) pa_nil)) (pe_dget hu (pv 0) pe_str (fun _ _ => rfl))))
      (pss_cons (ps_set (i := 3) scValue.nd rfl (.inl rfl) (pe_op op_fdiv (pe_callTy call_int1 (by rfl) T.zint (by decide +kernel) (pa_cons (pe_op op_sub (pv 1) (pe_op op_mul (pv 2) (pe_dget hu (pv 0) pe_str (fun _ _ => rfl)))) pa_nil)) (pe_ix ix_tup (pe_dget hu (pv 0) pe_str (fun _ _ => rfl)) pe_int (fun _ _ => rfl))))
      (pss_one (ps_ret (pe_op op_add (pe_ix ix_list (pe_dget hu (pv 0) pe_str (fun _ _ => rfl)) (pv 3) (fun _ _ => rfl)) (pe_op op_mul (pv 2) (pe_dget hu (pv 0) pe_str (fun _ _ => rfl)))))))), ?_⟩
    obtain ⟨kvs, sa, ea, ra, h0, h1, h2, h3, h4, h5, h6, h7⟩ := dl.ex
    have em := Int.emod_add_mul_ediv v n
    have m0 := Int.emod_nonneg v (show n ≠ 0 by omega)
    have e1 : v - v / n * n = v % n := by rw [Int.mul_comm]; omega
    have d0 : 0 ≤ v % n / s := Int.ediv_nonneg m0 (by omega)
    refine ⟨_, rfl, .inl ⟨_, rfl, _, rfl, a, _, rfl, dgetK h0 h3, _, _, rfl, rfl, ⟨n0, by omega⟩, ?_⟩⟩
    refine ⟨_, rfl, _, rfl, _, rfl, a, _, rfl, dgetK h0 h3, _, _, rfl, rfl, .inr ⟨by omega, by omega⟩, _, _, rfl, rfl, .inl ⟨_, rfl, _, rfl, a, _, rfl, dgetK h0 h1, sa, _, _, _, rfl, rfl, SqT.of h5, at1, _, _, rfl, rfl, ⟨s0, by omega⟩, ?_⟩⟩
    rw [e1]
    obtain ⟨i, ei⟩ := Int.eq_ofNat_of_zero_le d0
    have hil : i < row.length := by omega
    refine ⟨_, rfl, a, _, rfl, dgetK h0 h4, _, rfl, ra, _, _, _, rfl, rfl, SqL.of h7, at_of (j := i) ei (by rw [List.getElem?_map, List.getElem?_eq_getElem hil]; rfl), ?_⟩
    refine ⟨_, rfl, _, rfl, a, _, rfl, dgetK h0 h3, _, _, rfl, rfl, .inr ⟨by omega, by omega⟩, _, _, rfl, rfl, ?_⟩
    have ev : valL s n row v = row[i] + v / n * n := by
      unfold valL
      rw [ei, Int.toNat_natCast, List.getD_eq_getElem?_getD, List.getElem?_eq_getElem hil]
      show row[i] + (v - v % n) = _
      omega
    rw [ev] at k
    exact k
theorem scNumbers : FnScope ["clock", "period", "v"] ["clock", "period"] (defScope sNumbers) := ⟨rfl, rfl, rfl, by decide +kernel, rfl, by decide +kernel, by decide +kernel⟩
theorem ok_numbers (F : Fun K "_law_numbers" "_law_numbers" sNumbers f fd) (T : Wds mg) : FnG P w K mg base 1 f fd ["clock", "period"] spNumbers := by
  refine okG F scNumbers (fun vs H Q E h => ?_) (fun cdv A outer s H vs Q E hg hr h => ?_)
  · obtain ⟨t, f, s, n, rfl, _⟩ := h
    rfl
  · obtain ⟨t, f, s, n, rfl, ht, s0, s1, sd, n1, k⟩ := h
    have hu := hu_of hr
    have hu64 := hr.units
    refine ⟨_, (pss_one (ps_ret (pe_lc (own := [("v", 2)]) (by rfl) scNumbers.nd (pi_range1 (by rfl) T.zrange (pa_cons (pv 1) pa_nil)) (blkOk_by (N := ["clock", "period", "v"]) (sc := defScope sNumbers) (by decide +kernel)) (fun _ _ _ _ _ => (pg_name (i := 2) scNumbers.nd rfl (.inl rfl))) (fun _ _ _ _ _ => (pts_one (pt_cmpR op_eq (pe_op op_mod (pe_callTy call_int1 (by rfl) T.zint (by decide +kernel) (pa_cons (pe_op op_sub (pv 2) (pe_ix (ix_tup : IxR _ (rIxT K)) (pv 0) pe_int (fun _ _ => rfl))) pa_nil)) (pe_ix (ix_tup : IxR _ (rIxT K)) (pv 0) pe_int (fun _ _ => rfl))) pe_int (nomark _)))) (fun _ _ _ _ _ => (pv 2))))), ?_⟩
    refine ⟨_, rfl, (n : Int), rfl, by omega, by omega, fun D nD => ?_⟩
    rw [Int.toNat_natCast]
    refine lc_range (lo := 0) (fun i H1 => Same H H1 ∧ H1 D = some (.lst ((((List.range i).map fun i => ((i : Nat) : Int)).filter fun v => decide ((v - f) % s = 0)).map V.int))) ⟨same_new nD, upd_same⟩ ?_ ?_
    · rintro i H1 hi ⟨s1, hD⟩
      have ht1 := s1 _ _ ht
      have e0 : (0 : Int) + (i : Nat) = (i : Nat) := by omega
      rw [e0]
      refine ⟨rfl, _, rfl, _, rfl, t, _, _, _, rfl, rfl, SqT.of ht1, at0, _, _, rfl, rfl, .inl ⟨_, rfl, _, rfl, t, _, _, _, rfl, rfl, SqT.of ht1, at1, _, _, rfl, rfl, s0, ?_⟩⟩
      refine ⟨rfl, _, rfl, ?_⟩
      rw [dec_V]
      have step : ((List.range (i + 1)).map fun i => ((i : Nat) : Int)) = ((List.range i).map fun i => ((i : Nat) : Int)) ++ [(i : Int)] := by
        rw [List.range_succ, List.map_append]
        rfl
      by_cases e : ((i : Int) - f) % s = 0
      · rw [decide_eq_true e]
        refine iteT ?_
        refine ⟨_, rfl, _, hD, big5000 ?_, fun b o z => by rw [upd_ne (ne_of_none z nD)]; exact s1 b o z, ?_⟩
        · rw [List.length_map]
          refine Nat.le_trans (List.length_filter_le _ _) ?_
          rw [List.length_map, List.length_range]
          omega
        · rw [upd_same, step, List.filter_append, List.map_append]
          simp only [List.filter_cons, decide_eq_true e, if_true, List.filter_nil]
          rfl
      · rw [decide_eq_false e]
        refine iteF ?_
        refine ⟨s1, ?_⟩
        rw [step, List.filter_append]
        simp only [List.filter_cons, decide_eq_false e, List.filter_nil, List.append_nil, Bool.false_eq_true, if_false]
        exact hD
    · rintro H1 ⟨s1, hD⟩
      rw [nums_filter s0 sd] at hD
      exact k D H1 nD s1 hD
theorem scClock : FnScope ["source", "steps", "first"] ["source", "steps"] (defScope sClock) := ⟨rfl, rfl, rfl, by decide +kernel, rfl, by decide +kernel, by decide +kernel⟩
theorem ok_clock {f : Addr} {fd : FuncData} (F : Fun K "_law_clock" "_law_clock" sClock f fd) (CP : Cb P w K mg base 1 "_law_pick" spPick) (CO : Cb P w K mg base 2 "_law_of" spOf) : FnG P w K mg base 3 f fd ["source", "steps"] spClock := by
  refine okG F scClock (fun vs H Q E h => ?_) (fun cdv A outer s H vs Q E hg hr h => ?_)
  · obtain ⟨d, c, p, ss, rfl, _⟩ := h
    rfl
  · obtain ⟨d, c, p, ss, rfl, S, hp, pc, s0, s1, k⟩ := h
    refine ⟨_, pss_cons (ps_set (i := 2) scClock.nd rfl (.inl rfl) (pe_op op_sub (pe_k CP hg hr (by decide) (by rfl) (pa_cons (pv 0) (pa_cons pe_int pa_nil))) pe_int))
      (pss_one (ps_ret (pe_tup (pa_cons (pe_op op_add (pv 2) (pe_k CO hg hr (by decide) (by rfl) (pa_cons (pv 0) (pa_cons (pe_lst (pa_cons pe_int (pa_cons pe_int (pa_cons pe_int
          (pa_cons (pe_op op_sub (pe_op op_pow pe_int pe_int) pe_int) (pa_cons (pe_op op_sub pe_int (pe_op op_pow pe_int pe_int)) pa_nil)))))) pa_nil))))
        (pa_cons (pe_k CO hg hr (by decide) (by rfl) (pa_cons (pv 0) (pa_cons (pv 1) pa_nil))) pa_nil))))), ?_⟩
    have pd : p ≠ d := by
      obtain ⟨ks, l, m, t, q1, q2⟩ := S.ex
      exact ne_of hp q1 (by intro z; cases z)
    refine ⟨_, rfl, d, c, 41, rfl, S, (by decide), fun r H1 r0 r1 S1 k1 => ?_⟩
    refine ⟨r, 20, rfl, rfl, ?_⟩
    refine ⟨_, rfl, _, rfl, _, _, rfl, rfl, ⟨by decide, by decide, by decide⟩, _, _, rfl, rfl, _, _, rfl, rfl, ⟨by decide, by decide, by decide⟩, _, _, rfl, rfl, (by show 5 ≤ sizeLine; decide), fun q nq => ?_⟩
    have k2 := k1.new (o := .lst (([0, 0, 0, 10 ^ 30 - 1000, 1000 - 10 ^ 30] : List Int).map V.int)) nq
    refine ⟨d, c, q, ([0, 0, 0, 10 ^ 30 - 1000, 1000 - 10 ^ 30] : List Int).map V.int, rfl, S1.new nq, upd_same, (S1.away nq).2, (by show 0 < 5; decide), (by show 5 < 1000000000; decide), ?_⟩
    intro i v H2 hi S2 k3
    obtain ⟨z, hz, rfl⟩ := int_at hi
    have bz := far_small (List.mem_of_getElem? hz)
    have k4 := k2.trans k3
    refine ⟨_, _, rfl, rfl, _, rfl, _, rfl, d, c, p, ss.map V.int, rfl, S2, k4 p _ hp pd pc, pc, by rw [List.length_map]; exact s0, by rw [List.length_map]; omega, ?_⟩
    intro j u H3 hj S3 k5
    obtain ⟨y, hy, rfl⟩ := int_at hj
    refine ⟨(by show 2 ≤ sizeLine; decide), fun t nt => ?_⟩
    refine k t _ y _ upd_same (List.mem_of_getElem? hy) ?_ (S3.new nt) ((k4.trans k5).new nt)
    omega
theorem scLAlike : FnScope ["source", "clock"] ["source", "clock"] (defScope sLAlike) := ⟨rfl, rfl, rfl, by decide +kernel, rfl, by decide +kernel, by decide +kernel⟩
theorem ok_lAlike (F : Fun K "_law_alike" "_law_alike" sLAlike f fd) (CO : Cb P w K mg base 2 "_law_of" spOf) : FnG P w K mg base 3 f fd ["source", "clock"] spLAlike := by
  refine okG F scLAlike (fun vs H Q E h => ?_) (fun cdv A outer s H vs Q E hg hr h => ?_)
  · obtain ⟨d, c, t, f, s, rfl, _⟩ := h
    rfl
  · obtain ⟨d, c, t, f, s, rfl, S, ht, s0, s1, k⟩ := h
    refine ⟨_, (pss_one (ps_ret (pe_tup (pa_cons (pe_op op_add (pe_ix ix_tup (pv 1) pe_int (fun _ _ => rfl)) (pe_op op_mul (pe_ix ix_tup (pv 1) pe_int (fun _ _ => rfl)) (pe_k CO hg hr (by decide) (by rfl) (pa_cons (pv 0) (pa_cons (pe_lst (pa_cons pe_int (pa_cons pe_int (pa_cons pe_int (pa_cons (pe_un un_neg pe_int) (pa_cons pe_int pa_nil)))))) pa_nil))))) (pa_cons (pe_ix ix_tup (pv 1) pe_int (fun _ _ => rfl)) pa_nil))))), ?_⟩
    refine ⟨_, rfl, t, _, _, _, rfl, rfl, SqT.of ht, at0, _, rfl, t, _, _, _, rfl, rfl, SqT.of ht, at1, _, rfl, _, rfl, (by show 5 ≤ sizeLine; decide), fun q nq => ?_⟩
    refine ⟨d, c, q, ([0, 0, 1, -3, 7] : List Int).map V.int, rfl, S.new nq, upd_same, (S.away nq).2, (by show 0 < 5; decide), (by show 5 < 1000000000; decide), ?_⟩
    intro i v H2 hi S2 k3
    obtain ⟨z, hz, rfl⟩ := int_at hi
    have bz := few_small (List.mem_of_getElem? hz)
    have k4 := (Keep.refl.new (d := d) (c := c) (o := .lst (([0, 0, 1, -3, 7] : List Int).map V.int)) nq).trans k3
    have ht2 := k4.tup S ht
    refine ⟨s, z, rfl, rfl, .inl ⟨by omega, by omega⟩, _, _, rfl, rfl, _, rfl, t, _, _, _, rfl, rfl, SqT.of ht2, at1, (by show 2 ≤ sizeLine; decide), fun u nu => ?_⟩
    have al : (f + s * z - f) % s = 0 := by
      rw [show f + s * z - f = s * z by omega]
      exact Int.mul_emod_right _ _
    have sz : (f + s * z).natAbs ≤ f.natAbs + 420 := by
      have m : (s * z).natAbs ≤ 60 * 7 := by
        rw [Int.natAbs_mul]
        exact Nat.mul_le_mul (by omega) (by omega)
      omega
    exact k u _ _ upd_same al sz (S2.new nu) (k4.new nu)
end
end L18
namespace L18
open PySem PySem.Spec L2 Rt Rs Ld
open PyProof.Rows hiding St

abbrev sRests : Stmt := top 11
abbrev sIsPer : Stmt := top 12
abbrev sIsClk : Stmt := top 15
abbrev sWRow : Stmt := top 16
abbrev sWLead : Stmt := top 17
abbrev sInit : Stmt := inClass (top 18) 0
abbrev sMStart : Stmt := inClass (top 18) 1
abbrev sMEnd : Stmt := inClass (top 18) 2
abbrev sMPeriod : Stmt := inClass (top 18) 3
abbrev sMRow : Stmt := inClass (top 18) 4
abbrev sMAt : Stmt := inClass (top 18) 5
/-! ### what a lead is -/
structure LP where
  f : Int
  s : Int
  g : Int
  r : Int
  n : Int
structure LOk (L : LP) (F : Int → Int) : Prop where
  sem : Sem L.f L.s L.g L.r L.n F
  s1 : L.s ≤ 60
  r1 : L.r ≤ 60
  n1 : L.n ≤ 3600
abbrev rowOf (L : LP) (F : Int → Int) : List Int := (nums L.f L.s L.n).map F
structure LdAt (H : Hp) (C a : Addr) (L : LP) (F : Int → Int) : Prop where
  ex : ∃ dx sa ea ra, H a = some (.ins C dx [("_start", .ref sa), ("_end", .ref ea), ("_period", .int L.n), ("_row", .ref ra)]) ∧ H sa = some (.tup [.int L.f, .int L.s]) ∧ H ea = some (.tup [.int L.g, .int L.r]) ∧ H ra = some (.tup ((rowOf L F).map V.int))
theorem LdAt.same {H H' : Hp} {C a : Addr} {L : LP} {F : Int → Int} (h : LdAt H C a L F) (s : Same H H') : LdAt H' C a L F := by
  obtain ⟨dx, sa, ea, ra, h1, h2, h3, h4⟩ := h.ex
  exact ⟨dx, sa, ea, ra, s _ _ h1, s _ _ h2, s _ _ h3, s _ _ h4⟩
theorem LdAt.mask {H : Hp} {C a d c : Addr} {L : LP} {F : Int → Int} (h : LdAt H C a L F) (S : Src H d c) : LdAt (Rs.mask d c H) C a L F := by
  obtain ⟨dx, sa, ea, ra, h1, h2, h3, h4⟩ := h.ex
  obtain ⟨ks, l, m, t, q1, q2⟩ := S.ex
  have tup : ∀ {b : Addr} {xs : List V}, H b = some (.tup xs) → Rs.mask d c H b = some (.tup xs) := fun e => mask_at (S.nd e) e
  exact ⟨dx, sa, ea, ra, mask_at ⟨ne_of h1 q1 (by intro z; cases z), ne_of h1 q2 (by intro z; cases z)⟩ h1, tup h2, tup h3, tup h4⟩
theorem row_len (L : LP) (F : Int → Int) : (rowOf L F).length = (L.n / L.s).toNat := by rw [List.length_map, nums_len]
theorem LOk.pos {L : LP} {F : Int → Int} (h : LOk L F) : 0 < (L.n / L.s).toNat := by
  obtain ⟨q, e⟩ := h.sem.sd
  have s0 := h.sem.s0
  have n0 := h.sem.n0
  have n0' := n0
  rw [e] at n0'
  have q0 : 0 < q := Int.pos_of_mul_pos_right n0' s0
  rw [e, Int.mul_ediv_cancel_left q (by omega)]
  omega
theorem LOk.few {L : LP} {F : Int → Int} (h : LOk L F) : (L.n / L.s).toNat ≤ 3600 := by
  have s0 := h.sem.s0
  have n0 := h.sem.n0
  have n1 := h.n1
  have := Int.ediv_le_self L.s (show 0 ≤ L.n by omega)
  omega
theorem row_at {L : LP} {F : Int → Int} {i : Nat} (h : i < (L.n / L.s).toNat) : (rowOf L F)[i]? = some (F (L.f % L.s + (i : Nat) * L.s)) := by
  rw [List.getElem?_map, nums_at h]
  rfl
theorem LOk.on_at {L : LP} {F : Int → Int} (h : LOk L F) {i : Nat} (hi : i < (L.n / L.s).toNat) : (L.f % L.s + (i : Nat) * L.s - L.f) % L.s = 0 :=
  nums_on h.sem.s0 h.sem.sd (List.mem_of_getElem? (nums_at hi))
theorem dvd_mod {s n : Int} (d : s ∣ n) : n % s = 0 := Int.emod_eq_zero_of_dvd d
def spRests : Sp := fun vs H Q _ => ∃ (t : Addr) (f s n : Int), vs = [.ref t, .int n] ∧ H t = some (.tup [.int f, .int s]) ∧ 0 < s ∧ s ≤ 60 ∧ s ∣ n ∧ 0 < n ∧ n ≤ 3600 ∧ ∀ p, H p = none → Q (.ref p) (upd H p (.lst ((nums f s n).map V.int)))
def spIsPer : Sp := fun vs H Q _ => ∃ (l : Addr) (n : Int) (ss : List Int), vs = [.int n, .ref l] ∧ H l = some (.lst (ss.map V.int)) ∧ 1 ≤ n ∧ (∀ s, s ∈ ss → 0 < s ∧ s ∣ n) ∧ ss.length ≤ 100 ∧ ∀ H', Same H H' → Q (.bl true) H'
def spIsClk : Sp := fun vs H Q _ => ∃ (t : Addr) (f s : Int), vs = [.ref t] ∧ H t = some (.tup [.int f, .int s]) ∧ 0 < s ∧ s ≤ 60 ∧ Q (.bl true) H
def spWRow : Sp := fun vs H Q _ => ∃ (p e : Addr) (L : LP) (F : Int → Int), vs = [.ref p, .ref e, .int L.n] ∧ H p = some (.lst ((rowOf L F).map V.int)) ∧ H e = some (.tup [.int L.g, .int L.r]) ∧ LOk L F ∧ ∀ H', Same H H' → Q .non H'
def spWLead : Sp := fun vs H Q _ => ∃ (p b e : Addr) (L : LP) (F : Int → Int), vs = [.ref b, .ref e, .int L.n, .ref p] ∧ H p = some (.lst ((rowOf L F).map V.int)) ∧ H b = some (.tup [.int L.f, .int L.s]) ∧ H e = some (.tup [.int L.g, .int L.r]) ∧ LOk L F ∧ ∀ H', Same H H' → Q .non H'
def spInit (C : Addr) : Sp := fun vs H Q _ => ∃ (a dx p b e : Addr) (L : LP) (F : Int → Int), vs = [.ref a, .ref b, .ref e, .int L.n, .ref p] ∧ H a = some (.ins C dx []) ∧ H p = some (.lst ((rowOf L F).map V.int)) ∧ H b = some (.tup [.int L.f, .int L.s]) ∧ H e = some (.tup [.int L.g, .int L.r]) ∧ LOk L F ∧
  ∀ H', Sbut a H H' → LdAt H' C a L F → Q .non H'
def spMStart (C : Addr) : Sp := fun vs H Q _ => ∃ (a : Addr) (L : LP) (F : Int → Int), vs = [.ref a] ∧ LdAt H C a L F ∧ ∀ t, H t = some (.tup [.int L.f, .int L.s]) → Q (.ref t) H
def spMEnd (C : Addr) : Sp := fun vs H Q _ => ∃ (a : Addr) (L : LP) (F : Int → Int), vs = [.ref a] ∧ LdAt H C a L F ∧ ∀ t, H t = some (.tup [.int L.g, .int L.r]) → Q (.ref t) H
def spMPeriod (C : Addr) : Sp := fun vs H Q _ => ∃ (a : Addr) (L : LP) (F : Int → Int), vs = [.ref a] ∧ LdAt H C a L F ∧ Q (.int L.n) H
def spMRow (C : Addr) : Sp := fun vs H Q _ => ∃ (a : Addr) (L : LP) (F : Int → Int), vs = [.ref a] ∧ LdAt H C a L F ∧ ∀ p, H p = none → Q (.ref p) (upd H p (.lst ((rowOf L F).map V.int)))
def spMAt (C : Addr) : Sp := fun vs H Q _ => ∃ (a : Addr) (L : LP) (F : Int → Int) (v : Int), vs = [.ref a, .int v] ∧ LdAt H C a L F ∧ LOk L F ∧ (v - L.f) % L.s = 0 ∧ Q (.int (F v)) H
structure ClsL (K : PySem.W.Frag) (C : Addr) : Prop where
  cls : Cls K C
  n1 : NoAttr K C "_start"
  n2 : NoAttr K C "_end"
  n3 : NoAttr K C "_period"
  n4 : NoAttr K C "_row"
section
variable {a b c d : V}
theorem look_s : List.lookup ("_start" : Str) [(("_start" : Str), a), (("_end" : Str), b), (("_period" : Str), c), (("_row" : Str), d)] = some a := rfl
theorem look_e : List.lookup ("_end" : Str) [(("_start" : Str), a), (("_end" : Str), b), (("_period" : Str), c), (("_row" : Str), d)] = some b := by
  have h : (("_end" : Str) == ("_start" : Str)) = false := by decide +kernel
  simp [List.lookup, h]
theorem look_n : List.lookup ("_period" : Str) [(("_start" : Str), a), (("_end" : Str), b), (("_period" : Str), c), (("_row" : Str), d)] = some c := by
  have h : (("_period" : Str) == ("_start" : Str)) = false := by decide +kernel
  have g : (("_period" : Str) == ("_end" : Str)) = false := by decide +kernel
  simp [List.lookup, h, g]
theorem look_w : List.lookup ("_row" : Str) [(("_start" : Str), a), (("_end" : Str), b), (("_period" : Str), c), (("_row" : Str), d)] = some d := by
  have h : (("_row" : Str) == ("_start" : Str)) = false := by decide +kernel
  have g : (("_row" : Str) == ("_end" : Str)) = false := by decide +kernel
  have k : (("_row" : Str) == ("_period" : Str)) = false := by decide +kernel
  simp [List.lookup, h, g, k]
theorem look_no {m : Str} (h1 : (m == ("_start" : Str)) = false) (h2 : (m == ("_end" : Str)) = false) (h3 : (m == ("_period" : Str)) = false) (h4 : (m == ("_row" : Str)) = false) : List.lookup m [(("_start" : Str), a), (("_end" : Str), b), (("_period" : Str), c), (("_row" : Str), d)] = none := by
  simp [List.lookup, h1, h2, h3, h4]
theorem putL_2 : putF "_end" b [(("_start" : Str), a)] = [(("_start" : Str), a), (("_end" : Str), b)] := by
  simp only [putF]
  rw [if_neg (by decide +kernel)]
theorem putL_3 : putF "_period" c [(("_start" : Str), a), (("_end" : Str), b)] = [(("_start" : Str), a), (("_end" : Str), b), (("_period" : Str), c)] := by
  simp only [putF]
  rw [if_neg (by decide +kernel), if_neg (by decide +kernel)]
theorem putL_4 : putF "_row" d [(("_start" : Str), a), (("_end" : Str), b), (("_period" : Str), c)] = [(("_start" : Str), a), (("_end" : Str), b), (("_period" : Str), c), (("_row" : Str), d)] := by
  simp only [putF]
  rw [if_neg (by decide +kernel), if_neg (by decide +kernel), if_neg (by decide +kernel)]
end
/-- the numbers of a clock as range goes -/
theorem rg_nums {f s n : Int} (s0 : 0 < s) (s1 : s ≤ 60) (d : s ∣ n) (n0 : 0 < n) (n1 : n ≤ 3600) : RgC (f % s) n s (n / s).toNat ∧ rgC (f % s) s (n / s).toNat = (nums f s n).map V.int := by
  have r0 := Int.emod_nonneg f (show s ≠ 0 by omega)
  have r1 := Int.emod_lt_of_pos f s0
  obtain ⟨q, rfl⟩ := d
  have q0 : 0 < q := Int.pos_of_mul_pos_right n0 s0
  have eq : s * q / s = q := Int.mul_ediv_cancel_left q (by omega)
  have le : s * 1 ≤ s * q := Int.mul_le_mul_of_nonneg_left (by omega) (by omega)
  have sz : Builtin.Range.rangeSize (f % s) (s * q) s = q := by
    unfold Builtin.Range.rangeSize
    rw [if_pos (show s > 0 from s0), if_pos (by omega)]
    have e : (s * q - f % s - 1) / s = q - 1 := by
      rw [show s * q - f % s - 1 = (s - 1 - f % s) + s * (q - 1) by rw [Int.mul_sub]; omega, Int.add_mul_ediv_left _ _ (by omega), Int.ediv_eq_zero_of_lt (by omega) (by omega)]
      omega
    rw [e]
    omega
  refine ⟨⟨by omega, by omega, ?_, by rw [sz, eq]; omega⟩, ?_⟩
  · unfold Builtin.Range.small
    rw [sz]
    have qq : q ≤ s * q := by
      have : 1 * q ≤ s * q := Int.mul_le_mul_of_nonneg_right (by omega) (by omega)
      omega
    simp only [Builtin.Range.rangeFitsLong, Bool.and_eq_true, Bool.or_eq_true, decide_eq_true_eq, beq_iff_eq, s0, if_true]
    omega
  · unfold rgC nums
    rw [List.map_map]
    rfl
section
variable {P : Program} {w : World} {K : PySem.W.Frag} {mg : Str → Option Value} {base : Heap} {f C : Addr} {fd : FuncData}

theorem scRests : FnScope ["clock", "period", "first", "step"] ["clock", "period"] (defScope sRests) := ⟨rfl, rfl, rfl, by decide +kernel, rfl, by decide +kernel, by decide +kernel⟩
theorem ok_rests (F : Fun K "rests" "rests" sRests f fd) (T : Wds mg) : FnOk P w K mg base CX0 1 f fd ["clock", "period"] spRests := by
  refine F.ok scRests (fun vs H Q E h => ?_) (fun cdv A outer s H vs Q E hr h => ?_)
  · obtain ⟨t, f, s, n, rfl, _⟩ := h
    rfl
  · obtain ⟨t, f, s, n, rfl, ht, s0, s1, sd, n0, n1, k⟩ := h
    refine ⟨_, (pss_cons (ps_asg (pv 0) (pg_tup (by rfl) (pgs_cons (pg_name (i := 2) scRests.nd rfl (.inl rfl)) (pgs_cons (pg_name (i := 3) scRests.nd rfl (.inl rfl)) pgs_nil))))
      (pss_one (ps_ret (pe_listRg3 (by rfl) (by rfl) T.zlist (by rfl) T.zrange (pa_cons (pe_op op_mod (pv 2) (pv 3)) (pa_cons (pv 1) (pa_cons (pv 3) pa_nil))))))), ?_⟩
    obtain ⟨rg, en⟩ := rg_nums (f := f) s0 s1 sd n0 n1
    refine ⟨_, rfl, t, _, rfl, SqT.of ht, rfl, _, _, rfl, _, _, rfl, rfl, ?_⟩
    refine ⟨_, rfl, _, rfl, _, _, rfl, rfl, s0, _, rfl, _, rfl, _, _, _, (n / s).toNat, rfl, rg, ?_, fun p np => ?_⟩
    · have := Int.ediv_le_self s (show 0 ≤ n by omega)
      omega
    · rw [en]
      exact k p np
theorem scIsPer : FnScope ["value", "steps", "step"] ["value", "steps"] (defScope sIsPer) := ⟨rfl, rfl, rfl, by decide +kernel, rfl, by decide +kernel, by decide +kernel⟩
theorem ok_isPer (F : Fun K "is_period" "is_period" sIsPer f fd) (T : Wds mg) (isInt : Cf P w K mg base 1 "is_integer" spIsInt) : FnOk P w K mg base CX0 2 f fd ["value", "steps"] spIsPer := by
  refine F.ok scIsPer (fun vs H Q E h => ?_) (fun cdv A outer s H vs Q E hr h => ?_)
  · obtain ⟨l, n, ss, rfl, _⟩ := h
    rfl
  · obtain ⟨l, n, ss, rfl, hl, n1, dv, few, k⟩ := h
    refine ⟨_, (pss_one (ps_ret (pe_and (pe_f isInt hr (by decide) (by rfl) (pa_cons (pv 0) pa_nil)) (pe_and (pe_cmpR op_ge (pv 0) pe_int (nomark _)) (pe_one (pe_callB (cr_all (by rfl)) (by rfl) T.zall (by decide +kernel) (pa_cons (pe_lc (own := [("step", 2)]) (by rfl) scIsPer.nd (pi_list (pv 1)) (blkOk_by (N := ["value", "steps", "step"]) (sc := defScope sIsPer) (by decide +kernel)) (fun _ _ _ _ _ => (pg_name (i := 2) scIsPer.nd rfl (.inl rfl))) (fun _ _ _ _ _ => pts_nil) (fun _ _ _ _ _ => (pe_cmpR op_eq (pe_op op_mod (pv 0) (pv 2)) pe_int (nomark _)))) pa_nil))))))), ?_⟩
    refine ⟨_, rfl, .int n, rfl, True.intro, true, rfl, iteT ?_⟩
    refine ⟨_, rfl, _, _, rfl, rfl, _, rfl, ?_⟩
    rw [decide_eq_true (show (1 : Int) ≤ n from n1)]
    refine iteT ?_
    refine ⟨_, rfl, l, rfl, ⟨_, SqL.of hl⟩, fun D nD => ?_⟩
    refine lc_it walk_list (fun i H1 => Same H H1 ∧ H1 D = some (.lst ((List.replicate i true).map V.bl))) ⟨same_new nD, upd_same⟩ (fun i H1 _ z => SqL.of (z.1 _ _ hl)) ?_ ?_
    · rintro i y H1 H2 hi ⟨s1, hD⟩ ⟨rfl, hy⟩
      obtain ⟨z, hz, rfl⟩ := int_at hy
      obtain ⟨z0, zd⟩ := dv z (List.mem_of_getElem? hz)
      refine ⟨rfl, _, rfl, _, rfl, _, _, rfl, rfl, z0, rfl, ?_⟩
      rw [dec_V, decide_eq_true (dvd_mod zd)]
      refine ⟨_, hD, small1000 (by rw [List.length_map, List.length_replicate]; rw [List.length_map] at hi; omega), fun b o q => by rw [upd_ne (ne_of_none q nD)]; exact s1 b o q, ?_⟩
      rw [upd_same, List.replicate_succ', List.map_append]
      rfl
    · rintro H1 ⟨s1, hD⟩
      refine ⟨D, _, rfl, SqL.of hD, ?_⟩
      rw [show (List.replicate (ss.map V.int).length true).all id = true by simp]
      exact k H1 s1
theorem scIsClk : FnScope ["value", "first", "step"] ["value"] (defScope sIsClk) := ⟨rfl, rfl, rfl, by decide +kernel, rfl, by decide +kernel, by decide +kernel⟩
theorem ok_isClk (F : Fun K "is_clock" "is_clock" sIsClk f fd) (T : Wds mg) (isInt : Cf P w K mg base 1 "is_integer" spIsInt) : FnOk P w K mg base CX0 2 f fd ["value"] spIsClk := by
  refine F.ok scIsClk (fun vs H Q E h => ?_) (fun cdv A outer s H vs Q E hr h => ?_)
  · obtain ⟨t, f, s, rfl, _⟩ := h
    rfl
  · obtain ⟨t, f, s, rfl, ht, s0, s1, k⟩ := h
    obtain ⟨tk, hGS⟩ := T.gs
    refine ⟨_, (pss_cons (ps_if (PW.pt (pw_or (pt_not (pt_val (pe_callB call_isi (by rfl) T.zisinstance (by decide +kernel) (pa_cons (pv 0) (pa_cons (pe_bltn (v := .ty "tuple") (by rfl) T.ztuple (by decide +kernel) rfl) pa_nil))))) (pw_or1 (pt_cmpR op_ne (pe_callB call_len_seq (by rfl) T.zlen (by decide +kernel) (pa_cons (pv 0) pa_nil)) pe_int (nomark _))))) (pss_one (ps_ret pe_bl)) pss_nil)
      (pss_cons (ps_asg (pv 0) (pg_tup (by rfl) (pgs_cons (pg_name (i := 1) scIsClk.nd rfl (.inl rfl)) (pgs_cons (pg_name (i := 2) scIsClk.nd rfl (.inl rfl)) pgs_nil))))
      (pss_one (ps_ret (pe_and (pe_f isInt hr (by decide) (by rfl) (pa_cons (pv 1) pa_nil)) (pe_and (pe_f isInt hr (by decide) (by rfl) (pa_cons (pv 2) pa_nil)) (pe_one (pe_chain op_le op_le pe_int (pv 2) (pe_glob (v := .int 60) (by rfl) hGS ⟨_, rfl⟩))))))))), ?_⟩
    refine ⟨_, rfl, .ref t, .ty "tuple", _, .type "tuple", true, rfl, .ty _, .base (.tup ht), kit_ty (by decide +kernel), true, rfl, iteF ?_⟩
    refine ⟨_, rfl, t, _, rfl, .inr (SqT.of ht), rfl, _, rfl, iteF ?_⟩
    refine ⟨_, rfl, t, _, rfl, SqT.of ht, rfl, _, _, rfl, _, _, rfl, rfl, ?_⟩
    refine ⟨_, rfl, .int f, rfl, True.intro, true, rfl, iteT ?_⟩
    refine ⟨_, rfl, .int s, rfl, True.intro, true, rfl, iteT ?_⟩
    refine ⟨_, rfl, _, _, rfl, rfl, _, rfl, ?_⟩
    rw [decide_eq_true (show (1 : Int) ≤ s by omega)]
    refine iteT ⟨_, _, rfl, rfl, ?_⟩
    show Q (.bl (decide (s ≤ 60))) H
    rw [decide_eq_true (show s ≤ (60 : Int) from s1)]
    exact k
end
end L18
namespace L18
open PySem PySem.Spec L2 Rt Rs Ld
open PyProof.Rows hiding St

section
variable {P : Program} {w : World} {K : PySem.W.Frag} {mg : Str → Option Value} {base : Heap} {f C : Addr} {fd : FuncData}

theorem scWRow : FnScope ["row", "end", "period", "k", "value"] ["row", "end", "period"] (defScope sWRow) := ⟨rfl, rfl, rfl, by decide +kernel, rfl, by decide +kernel, by decide +kernel⟩
theorem ok_wRow (F : Fun K "wrong_in_row" "wrong_in_row" sWRow f fd) (T : Wds mg) (isOn : Cf P w K mg base 2 "is_on" spOn) : FnOk P w K mg base CX0 3 f fd ["row", "end", "period"] spWRow := by
  refine F.ok scWRow (fun vs H Q E h => ?_) (fun cdv A outer s H vs Q E hr h => ?_)
  · obtain ⟨p, e, L, F, rfl, _⟩ := h
    rfl
  · obtain ⟨p, e, L, F, rfl, hp, he, ok, k⟩ := h
    have pos := ok.pos
    have few := ok.few
    have r0 := ok.sem.r0
    refine ⟨_, (pss_cons (ps_for PassesOwn.never rfl (pi_enum (by rfl) T.zenumerate (pa_cons (pv 0) pa_nil)) (pg_tup (by rfl) (pgs_cons (pg_name (i := 3) scWRow.nd rfl (.inl rfl)) (pgs_cons (pg_name (i := 4) scWRow.nd rfl (.inl rfl)) pgs_nil)))
        (pss_one (ps_if (pt_not (pt_val (pe_f isOn hr (by decide) (by rfl) (pa_cons (pv 1) (pa_cons (pv 4) pa_nil))))) (pss_one (ps_ret (pe_tup (pa_cons pe_int (pa_cons (pv 3) pa_nil))))) pss_nil)))
      (pss_cons (ps_for PassesOwn.never rfl (pi_range2 (by rfl) T.zrange (pa_cons pe_int (pa_cons (pe_callB call_len_seq (by rfl) T.zlen (by decide +kernel) (pa_cons (pv 0) pa_nil)) pa_nil))) (pg_name (i := 3) scWRow.nd rfl (.inl rfl))
        (pss_one (ps_if (pt_cmpR op_lt (pe_ix ix_list (pv 0) (pv 3) (fun _ _ => rfl)) (pe_ix ix_list (pv 0) (pe_op op_sub (pv 3) pe_int) (fun _ _ => rfl)) (nomark _)) (pss_one (ps_ret (pe_tup (pa_cons pe_int (pa_cons (pv 3) pa_nil))))) pss_nil)))
      (pss_cons (ps_if (pt_cmpR op_gt (pe_ix ix_list (pv 0) (pe_un un_neg pe_int) (fun _ _ => rfl)) (pe_op op_add (pe_ix ix_list (pv 0) pe_int (fun _ _ => rfl)) (pv 2)) (nomark _)) (pss_one (ps_ret (pe_tup (pa_cons pe_int (pa_cons pe_int pa_nil))))) pss_nil)
      (pss_one (ps_ret pe_non))))), ?_⟩
    have len : ((rowOf L F).map V.int).length = (L.n / L.s).toNat := by rw [List.length_map, row_len]
    have at_ : ∀ i : Nat, i < (L.n / L.s).toNat → ((rowOf L F).map V.int)[i]? = some (.int (F (L.f % L.s + (i : Nat) * L.s))) := fun i hi => by rw [List.getElem?_map, row_at hi]; rfl
    -- each is one of the end's clock
    refine ⟨_, rfl, p, _, rfl, SqL.of hp, ?_⟩
    refine for_it walk_enum (fun i σ H2 => ∃ (v3 v4 : Option V), σ = [some (.ref p), some (.ref e), some (.int L.n), v3, v4] ∧ Same H H2) ⟨_, _, rfl, Same.refl _⟩ (fun i σ H2 _ ⟨_, _, _, s⟩ => SqL.of (s _ _ hp)) ?_ ?_
    · rintro i y σ H2 H3 hi ⟨v3, v4, rfl, s2⟩ ⟨t, x1, x2, rfl, ht, rfl, h1, h2⟩
      obtain rfl : V.int (i : Nat) = x1 := Option.some.inj h1
      rw [len] at hi
      obtain rfl : V.int (F (L.f % L.s + (i : Nat) * L.s)) = x2 := Option.some.inj ((at_ i hi).symm.trans h2)
      have s3 := s2.trans (same_new (o := .tup [.int (i : Nat), .int (F (L.f % L.s + (i : Nat) * L.s))]) ht)
      refine ⟨t, _, rfl, SqT.of upd_same, rfl, _, _, rfl, _, _, rfl, rfl, ?_⟩
      refine ⟨_, rfl, _, rfl, e, L.g, L.r, _, rfl, s3 _ _ he, r0, True.intro, true, ?_, iteF ⟨_, _, rfl, s3⟩⟩
      show V.bl (onB L.g L.r (.int (F (L.f % L.s + (i : Nat) * L.s)))) = .bl true
      rw [show onB L.g L.r (.int (F (L.f % L.s + (i : Nat) * L.s))) = true from decide_eq_true (ok.sem.on _ (ok.on_at hi))]
    · rintro σ H2 ⟨v3, v4, rfl, s2⟩
      -- none is less than the one ahead of it
      have hp2 := s2 _ _ hp
      refine ⟨_, rfl, p, _, rfl, .inl (SqL.of hp2), 1, (((rowOf L F).map V.int).length : Int), rfl, ⟨by omega, by omega, by omega, by omega⟩, ?_⟩
      rw [len]
      refine for_range (lo := 1) (fun i σ H3 => ∃ (v3 v4 : Option V), σ = [some (.ref p), some (.ref e), some (.int L.n), v3, v4] ∧ H3 = H2) ⟨_, _, rfl, rfl⟩ ?_ ?_
      · rintro i σ H3 hi ⟨v3, v4, rfl, rfl⟩
        have hi1 : i + 1 < (L.n / L.s).toNat := by omega
        have hi0 : i < (L.n / L.s).toNat := by omega
        refine ⟨_, rfl, _, rfl, p, _, _, _, rfl, rfl, SqL.of hp2, at_of (j := i + 1) (by omega) (at_ _ hi1), ?_⟩
        refine ⟨_, rfl, _, rfl, _, _, rfl, rfl, p, _, _, _, rfl, rfl, SqL.of hp2, at_of (j := i) (by omega) (at_ _ hi0), _, _, rfl, rfl, _, rfl, ?_⟩
        have le := ok.sem.mono _ _ (ok.on_at hi0) (ok.on_at hi1) (by
          have s0 := ok.sem.s0
          rw [Int.natCast_add, Int.add_mul]
          omega)
        rw [decide_eq_false (show ¬ F (L.f % L.s + ((i + 1 : Nat) : Int) * L.s) < F (L.f % L.s + (i : Nat) * L.s) by omega)]
        exact iteF ⟨_, _, rfl, rfl⟩
      · rintro σ H3 ⟨v3, v4, rfl, rfl⟩
        -- the last is no more than the first and the period
        have hl : (L.n / L.s).toNat - 1 < (L.n / L.s).toNat := by omega
        have last : atI ((rowOf L F).map V.int) (-1) = some (.int (F (L.f % L.s + (((L.n / L.s).toNat - 1 : Nat) : Int) * L.s))) := by
          unfold atI ixN
          rw [if_neg (by omega), len, if_pos (by omega)]
          show ((rowOf L F).map V.int)[((-1 : Int) + ((L.n / L.s).toNat : Int)).toNat]? = _
          rw [show ((-1 : Int) + ((L.n / L.s).toNat : Int)).toNat = (L.n / L.s).toNat - 1 by omega]
          exact at_ _ hl
        refine ⟨_, rfl, 1, rfl, p, _, _, _, rfl, rfl, SqL.of hp2, last, ?_⟩
        refine ⟨_, rfl, p, _, _, _, rfl, rfl, SqL.of hp2, at_of (j := 0) rfl (at_ 0 pos), _, rfl, _, _, rfl, rfl, _, _, rfl, rfl, _, rfl, ?_⟩
        have le := ok.sem.mono _ (L.f % L.s + ((0 : Nat) : Int) * L.s + L.n) (ok.on_at hl) (on_add ok.sem.sd (ok.on_at pos)) (by
          have s0 := ok.sem.s0
          have m := (mem_nums (f := L.f) s0 ok.sem.sd).mp (List.mem_of_getElem? (nums_at hl))
          have z := (mem_nums (f := L.f) s0 ok.sem.sd).mp (List.mem_of_getElem? (nums_at pos))
          omega)
        rw [ok.sem.per _ (ok.on_at pos)] at le
        rw [decide_eq_false (show ¬ F (L.f % L.s + (((L.n / L.s).toNat - 1 : Nat) : Int) * L.s) > F (L.f % L.s + ((0 : Nat) : Int) * L.s) + L.n by omega)]
        exact iteF (k H3 s2)
theorem scWLead : FnScope ["start", "end", "period", "row"] ["start", "end", "period", "row"] (defScope sWLead) := ⟨rfl, rfl, rfl, by decide +kernel, rfl, by decide +kernel, by decide +kernel⟩
theorem ok_wLead (F : Fun K "wrong_in_lead" "wrong_in_lead" sWLead f fd) (T : Wds mg) (isClk : Cf P w K mg base 2 "is_clock" spIsClk) (isPer : Cf P w K mg base 2 "is_period" spIsPer) (wRow : Cf P w K mg base 3 "wrong_in_row" spWRow) : FnOk P w K mg base CX0 4 f fd ["start", "end", "period", "row"] spWLead := by
  refine F.ok scWLead (fun vs H Q E h => ?_) (fun cdv A outer s H vs Q E hr h => ?_)
  · obtain ⟨p, b, e, L, F, rfl, _⟩ := h
    rfl
  · obtain ⟨p, b, e, L, F, rfl, hp, hb, he, ok, k⟩ := h
    have s0 := ok.sem.s0
    have r0 := ok.sem.r0
    have n0 := ok.sem.n0
    have s1 := ok.s1
    have pos := ok.pos
    refine ⟨_, (pss_cons (ps_if (pt_not (pt_val (pe_f isClk hr (by decide) (by rfl) (pa_cons (pv 0) pa_nil)))) (pss_one (ps_ret (pe_tup (pa_cons pe_int pa_nil)))) pss_nil)
      (pss_cons (ps_if (pt_not (pt_val (pe_f isClk hr (by decide) (by rfl) (pa_cons (pv 1) pa_nil)))) (pss_one (ps_ret (pe_tup (pa_cons pe_int pa_nil)))) pss_nil)
      (pss_cons (ps_if (pt_not (pt_val (pe_f isPer hr (by decide) (by rfl) (pa_cons (pv 2) (pa_cons (pe_lst (pa_cons (pe_ix ix_tup (pv 0) pe_int (fun _ _ => rfl)) (pa_cons (pe_ix ix_tup (pv 1) pe_int (fun _ _ => rfl)) pa_nil))) pa_nil))))) (pss_one (ps_ret (pe_tup (pa_cons pe_int pa_nil)))) pss_nil)
      (pss_cons (ps_if (PW.pt (pw_or (pt_not (pt_val (pe_callB call_isiT (by rfl) T.zisinstance (by decide +kernel) (pa_cons (pv 3) (pa_cons (pe_tup (pa_cons (pe_bltn (v := .ty "list") (by rfl) T.zlist (by decide +kernel) rfl) (pa_cons (pe_bltn (v := .ty "tuple") (by rfl) T.ztuple (by decide +kernel) rfl) pa_nil))) pa_nil))))) (pw_or1 (pt_cmpR op_ne (pe_callB call_len_seq (by rfl) T.zlen (by decide +kernel) (pa_cons (pv 3) pa_nil)) (pe_op op_fdiv (pv 2) (pe_ix ix_tup (pv 0) pe_int (fun _ _ => rfl))) (nomark _))))) (pss_one (ps_ret (pe_tup (pa_cons pe_int pa_nil)))) pss_nil)
      (pss_one (ps_ret (pe_f wRow hr (by decide) (by rfl) (pa_cons (pv 3) (pa_cons (pv 1) (pa_cons (pv 2) pa_nil)))))))))), ?_⟩
    refine ⟨_, rfl, b, L.f, L.s, rfl, hb, s0, s1, true, rfl, iteF ?_⟩
    refine ⟨_, rfl, e, L.g, L.r, rfl, he, r0, ok.r1, true, rfl, iteF ?_⟩
    refine ⟨_, rfl, _, rfl, b, _, _, _, rfl, rfl, SqT.of hb, at1, _, rfl, e, _, _, _, rfl, rfl, SqT.of he, at1, (by show 2 ≤ sizeLine; decide), fun l nl => ?_⟩
    have s2 := same_new (o := .lst [.int L.s, .int L.r]) nl
    refine ⟨l, L.n, [L.s, L.r], rfl, upd_same, by omega, fun z hz => ?_, (by show 2 ≤ 100; decide), fun H1 s3 => ?_⟩
    · rcases List.mem_cons.mp hz with rfl | hz
      · exact ⟨s0, ok.sem.sd⟩
      · cases List.mem_singleton.mp hz
        exact ⟨r0, ok.sem.rd⟩
    refine ⟨true, rfl, iteF ?_⟩
    have s3 := s2.trans s3
    refine ⟨_, rfl, (by show 2 ≤ sizeLine; decide), fun tp nt => ?_⟩
    have s4 := s3.trans (same_new (o := .tup [.ty "list", .ty "tuple"]) nt)
    refine ⟨_, tp, _, .type "list", _, true, rfl, upd_same, .cons (.ty _) (.cons (.ty _) .nil), .base (.lst (s4 _ _ hp)), kitLT (.inl rfl), true, rfl, iteF ?_⟩
    refine ⟨_, rfl, p, _, rfl, .inl (SqL.of (s4 _ _ hp)), _, rfl, _, rfl, b, _, _, _, rfl, rfl, SqT.of (s4 _ _ hb), at1, _, _, rfl, rfl, ⟨s0, by omega⟩, rfl, ?_⟩
    rw [dec_V, List.length_map, row_len]
    have d0 : 0 ≤ L.n / L.s := Int.ediv_nonneg (by omega) (by omega)
    rw [decide_eq_true (show (((L.n / L.s).toNat : Nat) : Int) = L.n / L.s from Int.toNat_of_nonneg d0)]
    refine ⟨_, rfl, iteF ?_⟩
    exact ⟨_, rfl, _, rfl, _, rfl, p, e, L, F, rfl, s4 _ _ hp, s4 _ _ he, ok, fun H2 s5 => k H2 (s4.trans s5)⟩
theorem scInit : FnScope ["self", "start", "end", "period", "row", "wrong"] ["self", "start", "end", "period", "row"] (defScope sInit) := ⟨rfl, rfl, rfl, by decide +kernel, rfl, by decide +kernel, by decide +kernel⟩
theorem ok_init (F : Fun K "__init__" "Lead.__init__" sInit f fd) (T : Wds mg) (cn : ClsL K C) (wLead : Cf P w K mg base 4 "wrong_in_lead" spWLead) : FnOk P w K mg base CX0 5 f fd ["self", "start", "end", "period", "row"] (spInit C) := by
  refine F.ok scInit (fun vs H Q E h => ?_) (fun cdv A outer s H vs Q E hr h => ?_)
  · obtain ⟨a, dx, p, b, e, L, F, rfl, _⟩ := h
    rfl
  · obtain ⟨a, dx, p, b, e, L, F, rfl, ha, hp, hb, he, ok, k⟩ := h
    refine ⟨_, (pss_cons (ps_set (i := 5) scInit.nd rfl (.inl rfl) (pe_f wLead hr (by decide) (by rfl) (pa_cons (pv 1) (pa_cons (pv 2) (pa_cons (pv 3) (pa_cons (pv 4) pa_nil))))))
      (pss_cons (ps_if (pt_cmpR op_notN (pv 5) pe_non (nomark _)) (pss_one ps_never) pss_nil)
      (pss_cons (ps_fld (pv 0) (pv 1) (by rfl))
      (pss_cons (ps_fld (pv 0) (pv 2) (by rfl))
      (pss_cons (ps_fld (pv 0) (pv 3) (by rfl))
      (pss_one (ps_fld (pv 0) (pe_callTy call_tuple_of (by rfl) T.ztuple (by decide +kernel) (pa_cons (pv 4) pa_nil)) (by rfl)))))))), ?_⟩
    refine ⟨_, rfl, _, rfl, _, rfl, _, rfl, p, b, e, L, F, rfl, hp, hb, he, ok, fun H1 s1 => ?_⟩
    refine ⟨_, rfl, rfl, false, rfl, iteF ?_⟩
    refine ⟨_, rfl, _, rfl, a, C, dx, [], rfl, s1 _ _ ha, cn.cls, cn.n1, (by decide : 0 < 1000), ?_⟩
    rw [show putF "_start" (V.ref b) [] = [(("_start" : Str), V.ref b)] from rfl]
    refine ⟨_, rfl, _, rfl, a, C, dx, _, rfl, upd_same, cn.cls, cn.n2, (by decide : 1 < 1000), ?_⟩
    rw [upd_upd, putL_2]
    refine ⟨_, rfl, _, rfl, a, C, dx, _, rfl, upd_same, cn.cls, cn.n3, (by decide : 2 < 1000), ?_⟩
    rw [upd_upd, putL_3]
    have b1 : Sbut a H (upd H1 a (.ins C dx [("_start", .ref b), ("_end", .ref e), ("_period", .int L.n)])) := (Sbut.of s1).trans Sbut.put
    have ha1 := upd_same (H := H1) (a := a) (o := .ins C dx [("_start", .ref b), ("_end", .ref e), ("_period", .int L.n)])
    have pa : p ≠ a := ne_of hp ha (by intro z; cases z)
    have ba : b ≠ a := ne_of hb ha (by intro z; cases z)
    have ea : e ≠ a := ne_of he ha (by intro z; cases z)
    revert b1 ha1
    generalize upd H1 a (.ins C dx [("_start", .ref b), ("_end", .ref e), ("_period", .int L.n)]) = H2
    intro b1 ha1
    refine ⟨_, rfl, p, _, rfl, .inl ⟨SqL.of (b1 _ _ hp pa), fun t nt => ?_⟩⟩
    have s3 := same_new (o := .tup ((rowOf L F).map V.int)) nt
    have ht := upd_same (H := H2) (a := t) (o := .tup ((rowOf L F).map V.int))
    have ha3 := s3 _ _ ha1
    have ta : t ≠ a := ne_of ht ha3 (by intro z; cases z)
    refine ⟨_, rfl, a, C, dx, _, rfl, ha3, cn.cls, cn.n4, (by decide : 3 < 1000), ?_⟩
    rw [putL_4]
    have b4 : Sbut a H (upd (upd H2 t (.tup ((rowOf L F).map V.int))) a (.ins C dx [("_start", .ref b), ("_end", .ref e), ("_period", .int L.n), ("_row", .ref t)])) := (b1.trans (Sbut.of s3)).trans Sbut.put
    refine k _ b4 ⟨dx, b, e, t, upd_same, b4 _ _ hb ba, b4 _ _ he ea, ?_⟩
    rw [upd_ne ta]
    exact ht
theorem scMStart : FnScope ["self"] ["self"] (defScope sMStart) := ⟨rfl, rfl, rfl, by decide +kernel, rfl, by decide +kernel, by decide +kernel⟩
theorem ok_mstart (F : Fun K "start" "Lead.start" sMStart f fd) (T : Wds mg) (cn : ClsL K C) : FnOk P w K mg base CX0 1 f fd ["self"] (spMStart C) := by
  refine F.ok scMStart (fun vs H Q E h => ?_) (fun cdv A outer s H vs Q E hr h => ?_)
  · obtain ⟨a, L, F, rfl, _⟩ := h
    rfl
  · obtain ⟨a, L, F, rfl, ld, k⟩ := h
    refine ⟨_, (pss_one (ps_ret (pe_fld (pv 0) (by rfl)))), ?_⟩
    obtain ⟨dx, sa, ea, ra, h1, h2, h3, h4⟩ := ld.ex
    refine ⟨_, rfl, a, C, dx, _, _, rfl, h1, cn.cls, cn.n1, look_s, ?_⟩
    exact k sa h2
theorem scMEnd : FnScope ["self"] ["self"] (defScope sMEnd) := ⟨rfl, rfl, rfl, by decide +kernel, rfl, by decide +kernel, by decide +kernel⟩
theorem ok_mend (F : Fun K "end" "Lead.end" sMEnd f fd) (T : Wds mg) (cn : ClsL K C) : FnOk P w K mg base CX0 1 f fd ["self"] (spMEnd C) := by
  refine F.ok scMEnd (fun vs H Q E h => ?_) (fun cdv A outer s H vs Q E hr h => ?_)
  · obtain ⟨a, L, F, rfl, _⟩ := h
    rfl
  · obtain ⟨a, L, F, rfl, ld, k⟩ := h
    refine ⟨_, (pss_one (ps_ret (pe_fld (pv 0) (by rfl)))), ?_⟩
    obtain ⟨dx, sa, ea, ra, h1, h2, h3, h4⟩ := ld.ex
    refine ⟨_, rfl, a, C, dx, _, _, rfl, h1, cn.cls, cn.n2, look_e, ?_⟩
    exact k ea h3
theorem scMPeriod : FnScope ["self"] ["self"] (defScope sMPeriod) := ⟨rfl, rfl, rfl, by decide +kernel, rfl, by decide +kernel, by decide +kernel⟩
theorem ok_mperiod (F : Fun K "period" "Lead.period" sMPeriod f fd) (T : Wds mg) (cn : ClsL K C) : FnOk P w K mg base CX0 1 f fd ["self"] (spMPeriod C) := by
  refine F.ok scMPeriod (fun vs H Q E h => ?_) (fun cdv A outer s H vs Q E hr h => ?_)
  · obtain ⟨a, L, F, rfl, _⟩ := h
    rfl
  · obtain ⟨a, L, F, rfl, ld, k⟩ := h
    refine ⟨_, (pss_one (ps_ret (pe_fld (pv 0) (by rfl)))), ?_⟩
    obtain ⟨dx, sa, ea, ra, h1, h2, h3, h4⟩ := ld.ex
    refine ⟨_, rfl, a, C, dx, _, _, rfl, h1, cn.cls, cn.n3, look_n, ?_⟩
    exact k
theorem scMRow : FnScope ["self"] ["self"] (defScope sMRow) := ⟨rfl, rfl, rfl, by decide +kernel, rfl, by decide +kernel, by decide +kernel⟩
theorem ok_mrow (F : Fun K "row" "Lead.row" sMRow f fd) (T : Wds mg) (cn : ClsL K C) : FnOk P w K mg base CX0 1 f fd ["self"] (spMRow C) := by
  refine F.ok scMRow (fun vs H Q E h => ?_) (fun cdv A outer s H vs Q E hr h => ?_)
  · obtain ⟨a, L, F, rfl, _⟩ := h
    rfl
  · obtain ⟨a, L, F, rfl, ld, k⟩ := h
    refine ⟨_, (pss_one (ps_ret (pe_callTy call_list_of (by rfl) T.zlist (by decide +kernel) (pa_cons (pe_fld (pv 0) (by rfl)) pa_nil)))), ?_⟩
    obtain ⟨dx, sa, ea, ra, h1, h2, h3, h4⟩ := ld.ex
    refine ⟨_, rfl, a, C, dx, _, _, rfl, h1, cn.cls, cn.n4, look_w, ?_⟩
    exact ⟨ra, _, rfl, .inr (SqT.of h4), fun p np => k p np⟩
theorem scMAt : FnScope ["self", "v", "rest"] ["self", "v"] (defScope sMAt) := ⟨rfl, rfl, rfl, by decide +kernel, rfl, by decide +kernel, by decide +kernel⟩
theorem ok_mat (F : Fun K "at" "Lead.at" sMAt f fd) (T : Wds mg) (cn : ClsL K C) (isOn : Cf P w K mg base 2 "is_on" spOn) : FnOk P w K mg base CX0 3 f fd ["self", "v"] (spMAt C) := by
  refine F.ok scMAt (fun vs H Q E h => ?_) (fun cdv A outer s H vs Q E hr h => ?_)
  · obtain ⟨a, L, F, v, rfl, _⟩ := h
    rfl
  · obtain ⟨a, L, F, v, rfl, ld, ok, hv, k⟩ := h
    have s0 := ok.sem.s0
    have n0 := ok.sem.n0
    have s1 := ok.s1
    have n1 := ok.n1
    refine ⟨_, (pss_cons (ps_if (pt_not (pt_val (pe_f isOn hr (by decide) (by rfl) (pa_cons (pe_fld (pv 0) (by rfl)) (pa_cons (pv 1) pa_nil))))) (pss_one ps_never) pss_nil)
      (pss_cons (ps_set (i := 2) scMAt.nd rfl (.inl rfl) (pe_op op_mod (pv 1) (pe_fld (pv 0) (by rfl))))
      (pss_one (ps_ret (pe_op op_sub (pe_op op_add (pe_ix ix_tup (pe_fld (pv 0) (by rfl)) (pe_op op_fdiv (pv 2) (pe_ix ix_tup (pe_fld (pv 0) (by rfl)) pe_int (fun _ _ => rfl))) (fun _ _ => rfl)) (pv 1)) (pv 2)))))), ?_⟩
    obtain ⟨dx, sa, ea, ra, h1, h2, h3, h4⟩ := ld.ex
    refine ⟨_, rfl, a, C, dx, _, _, rfl, h1, cn.cls, cn.n1, look_s, _, rfl, sa, L.f, L.s, .int v, rfl, h2, s0, True.intro, true, ?_, iteF ?_⟩
    · show V.bl (onB L.f L.s (.int v)) = .bl true
      rw [show onB L.f L.s (.int v) = true from decide_eq_true hv]
    refine ⟨_, rfl, _, rfl, a, C, dx, _, _, rfl, h1, cn.cls, cn.n3, look_n, _, _, rfl, rfl, n0, ?_⟩
    have m0 := Int.emod_nonneg v (show L.n ≠ 0 by omega)
    have m1 := Int.emod_lt_of_pos v n0
    have em := Int.emod_add_mul_ediv v L.n
    have ho := on_rest ok.sem.sd hv
    obtain ⟨i, hi, ei⟩ := List.getElem_of_mem ((mem_nums s0 ok.sem.sd).mpr ⟨m0, m1, ho⟩)
    have hi' : i < (L.n / L.s).toNat := by rw [nums_len] at hi; exact hi
    have ev : v % L.n = L.f % L.s + (i : Int) * L.s := by
      have at_ := nums_at (f := L.f) hi'
      rw [List.getElem?_eq_getElem hi, ei] at at_
      exact Option.some.inj at_
    have r0 := Int.emod_nonneg L.f (show L.s ≠ 0 by omega)
    have r1 := Int.emod_lt_of_pos L.f s0
    have di : v % L.n / L.s = (i : Int) := by
      rw [ev, Int.add_mul_ediv_right _ _ (by omega), Int.ediv_eq_zero_of_lt r0 r1]
      omega
    refine ⟨_, rfl, a, C, dx, _, _, rfl, h1, cn.cls, cn.n4, look_w, _, rfl, _, rfl, a, C, dx, _, _, rfl, h1, cn.cls, cn.n1, look_s, sa, _, _, _, rfl, rfl, SqT.of h2, at1, _, _, rfl, rfl, ⟨s0, by omega⟩, ?_⟩
    refine ⟨ra, _, _, _, rfl, rfl, SqT.of h4, at_of (j := i) di (by rw [List.getElem?_map, row_at hi']; rfl), _, rfl, _, _, rfl, rfl, _, rfl, _, _, rfl, rfl, ?_⟩
    have p := ok.sem.perz ho (v / L.n)
    rw [show v % L.n + v / L.n * L.n = v by rw [Int.mul_comm (v / L.n)]; omega, ev] at p
    have e : F (L.f % L.s + (i : Int) * L.s) + v - v % L.n = F v := by
      rw [p, Int.mul_comm (v / L.n)]
      omega
    rw [← e] at k
    exact k
end
end L18
/-! own rules: zip of two lists whose pairs are kept under one name -/
namespace Rt
open PySem PySem.Spec L2 RZ
open PyProof.Rows hiding St
section
variable {prog : Program} {w : World} {A : Around} {E : Value → Shared → Prop} {s : Shared} {z TI TO i1 i2 l1 l2 : Addr} {r : Value} {g : Bool}
/-- what stands behind an item -/
def AfterL (D : Heap) (z TI TO i1 i2 l1 l2 : Addr) (k : Nat) (x y : Value) (h' : Heap) : Prop :=
  (∃ r g, ZAt h' z TI TO r g ∧ Out r) ∧ (∃ a b, IsPair h' TO a b) ∧ h'.IsListIter i1 l1 (k + 1) ∧ h'.IsListIter i2 l2 (k + 1) ∧ IsPair h' D.objs.size x y ∧ h'.objs.size = D.objs.size + 1 ∧
    ∀ c o, c ≠ z → c ≠ TO → c ≠ i1 → c ≠ i2 → D.get? c = some o → h'.get? c = some o
theorem znl_item {k : Nat} {xs ys : Array Value} {x y a b : Value} {Q : Value → Shared → Prop} (D : ZipApart z TI TO i1 i2 l1 l2) (hz : ZAt s.heap z TI TO r g) (hr : Out r) (pI : IsPair s.heap TI (.ref i1) (.ref i2)) (pO : IsPair s.heap TO a b)
    (u1 : s.heap.IsListIter i1 l1 k) (u2 : s.heap.IsListIter i2 l2 k) (t1 : s.heap.IsList l1 xs) (t2 : s.heap.IsList l2 ys) (ex : xs[k]? = some x) (ey : ys[k]? = some y)
    (now : ∀ h', AfterL s.heap z TI TO i1 i2 l1 l2 k x y h' → Q (.ref s.heap.objs.size) { s with heap := h' }) : wpAny (model prog w) A (Builtin.«zip.__next__» ⟨[.ref z], []⟩) (fun fin s' => ∃ v, fin = .done (.ret v) ∧ Q v s') E s := by
  show wpAny _ _ (field (.ref z) 2 >>= _) _ _ _
  refine wpAny_bind (wpAny_field hz rfl (x := .bool false) rfl ?_); show wpAny _ _ (field (.ref z) 3 >>= _) _ _ _
  refine wpAny_bind (wpAny_field hz rfl (x := .ref TI) rfl (wpAny_bind (wpAny_seqItems pI rfl ?_)))
  show wpAny _ _ (Builtin.SmallTypes.ownedTupleIsFree (.ref z) >>= _) _ _ _
  refine wpAny_bind (free_or hz hr ?_ fun ha za sa => ?_)
  · -- the pair is free: it is laid anew out of the kept one
    simp only [if_true]
    refine wpAny_bind (wpAny_rule (wpAny_bind (wpAny_field hz rfl (x := .ref TO) rfl ?_)))
    refine wpAny_bind (wpAny_setField_rec hz (by simp) fun ha za sa => wpAny_bind ?_)
    replace za : ZAt ha z TI TO .ellipsis g := za
    simp only [List.zipIdx_cons, List.zipIdx_nil, List.forIn_cons, List.forIn_nil]
    refine wpAny_bind ?_; refine wpAny_bind (wpAny_onRaise ?_)
    show wpAny _ _ (Builtin.SmallTypes.nextOf (.ref i1) >>= _) _ _ _
    refine wpAny_bind (wpAny_nextOf_list_item (u1.extBut sa.extBut D.i1z) (t1.extBut sa.extBut D.l1z) ex fun hb ub sb => wpAny_pure ?_)
    have pb : IsPair hb TO a b := sb.extBut _ _ D.TOi1 (sa.extBut _ _ D.TOz pO)
    refine wpAny_bind (wpAny_seqItems pb rfl (wpAny_bind (wpAny_updateSeq_pair pb fun hc pc sc => wpAny_bind (wpAny_letGo (wpAny_pure ?_)))))
    replace pc : IsPair hc TO x b := pc
    refine wpAny_bind ?_; refine wpAny_bind (wpAny_onRaise ?_)
    show wpAny _ _ (Builtin.SmallTypes.nextOf (.ref i2) >>= _) _ _ _
    have uc2 := ((u2.extBut sa.extBut D.i2z).extBut sb.extBut D.i12.symm).extBut sc.extBut D.TOi2.symm
    have tc2 := ((t2.extBut sa.extBut D.l2z).extBut sb.extBut D.l2i1).extBut sc.extBut D.l2TO
    refine wpAny_bind (wpAny_nextOf_list_item uc2 tc2 ey fun hd ud sd => wpAny_pure ?_)
    have pd : IsPair hd TO x b := sd.extBut _ _ D.TOi2 pc
    refine wpAny_bind (wpAny_seqItems pd rfl (wpAny_bind (wpAny_updateSeq_pair pd fun he pe se => wpAny_bind (wpAny_letGo (wpAny_pure (wpAny_pure ?_))))))
    replace pe : IsPair he TO x y := pe
    refine wpAny_bind (wpAny_seqItems pe rfl (wpAny_bind (wpAny_newTuple ?_)))
    have size : he.objs.size = s.heap.objs.size := by rw [se.1, sd.1, sc.1, sb.1, sa.1]
    have ze : ZAt he z TI TO .ellipsis g := se.extBut _ _ D.TOz.symm (sd.extBut _ _ D.i2z.symm (sc.extBut _ _ D.TOz.symm (sb.extBut _ _ D.i1z.symm za)))
    have stay : ∀ c o, c ≠ z → c ≠ TO → c ≠ i1 → c ≠ i2 → s.heap.get? c = some o → he.get? c = some o := fun c o n1 n2 n3 n4 e => se.extBut _ _ n2 (sd.extBut _ _ n4 (sc.extBut _ _ n2 (sb.extBut _ _ n3 (sa.extBut _ _ n1 e))))
    have ue1 : he.IsListIter i1 l1 (k + 1) := ((ub.extBut sc.extBut D.TOi1.symm).extBut sd.extBut D.i12).extBut se.extBut D.TOi1.symm
    have ue2 : he.IsListIter i2 l2 (k + 1) := ud.extBut se.extBut D.TOi2.symm
    have zlt : z < he.objs.size := Heap.lt_size ze
    show wpAny _ _ (Builtin.SmallTypes.ownedTupleHandOut (.ref z) (.ref he.objs.size) >>= _) _ _ _
    refine wpAny_bind ?_
    unfold Builtin.SmallTypes.ownedTupleHandOut
    have zf : ZAt (he.push { cls := .type "tuple", data := .seq #[x, y] }) z TI TO .ellipsis g := Heap.get?_push_of_some _ ze
    refine wpAny_bind (wpAny_setField_rec zf (by simp) fun hf zg sf => ?_)
    replace zg : ZAt hf z TI TO (rawInt he.objs.size) g := zg
    refine wpAny_setField_rec zg (by simp) fun hg zh sg => wpAny_pure ⟨_, rfl, ?_⟩
    replace zh : ZAt hg z TI TO (rawInt he.objs.size) false := zh
    have up : ∀ c o, c ≠ z → he.get? c = some o → hg.get? c = some o := fun c o n e => sg.extBut _ _ n (sf.extBut _ _ n (Heap.get?_push_of_some _ e))
    have pn : IsPair hg he.objs.size x y := sg.extBut _ _ (Nat.ne_of_gt zlt) (sf.extBut _ _ (Nat.ne_of_gt zlt) (Heap.get?_push_size _ rfl))
    have sz : hg.objs.size = he.objs.size + 1 := by rw [sg.1, sf.1, Heap.size_push]
    show Q (.ref he.objs.size) _
    rw [size] at pn sz ⊢
    exact now hg ⟨⟨_, _, zh, .inr ⟨_, rfl⟩⟩, ⟨_, _, up _ _ D.TOz pe⟩, ue1.at fun o e => up _ o D.i1z e, ue2.at fun o e => up _ o D.i2z e, pn, sz, fun c o n1 n2 n3 n4 e => up c o n1 (stay c o n1 n2 n3 n4 e)⟩
  · -- the pair is still out: a new one
    simp only [Bool.false_eq_true, if_false]
    refine wpAny_bind ?_
    rw [← Array.forIn_toList]
    simp only [List.forIn_cons, List.forIn_nil]
    refine wpAny_bind ?_; refine wpAny_bind (wpAny_holding ?_)
    show wpAny _ _ (Builtin.SmallTypes.nextOf (.ref i1) >>= _) _ _ _
    refine wpAny_bind (wpAny_nextOf_list_item (s := { s with heap := ha }) (u1.extBut sa.extBut D.i1z) (t1.extBut sa.extBut D.l1z) ex fun hb ub sb => wpAny_pure (wpAny_pure ?_))
    refine wpAny_bind ?_; refine wpAny_bind (wpAny_holding ?_)
    show wpAny _ _ (Builtin.SmallTypes.nextOf (.ref i2) >>= _) _ _ _
    have ub2 := (u2.extBut sa.extBut D.i2z).extBut sb.extBut D.i12.symm
    have tb2 := (t2.extBut sa.extBut D.l2z).extBut sb.extBut D.l2i1
    refine wpAny_bind (wpAny_nextOf_list_item (s := { s with heap := hb }) ub2 tb2 ey fun hc uc sc => wpAny_pure (wpAny_pure (wpAny_pure ?_)))
    show wpAny _ _ (newTuple [x, y] >>= _) _ _ _
    refine wpAny_bind (wpAny_newTuple (wpAny_pure ⟨_, rfl, ?_⟩))
    have size : hc.objs.size = s.heap.objs.size := by rw [sc.1, sb.1, sa.1]
    have zc : ZAt hc z TI TO r true := sc.extBut _ _ D.i2z.symm (sb.extBut _ _ D.i1z.symm za)
    have stay : ∀ c o, c ≠ z → c ≠ i1 → c ≠ i2 → s.heap.get? c = some o → hc.get? c = some o := fun c o n1 n2 n3 e => sc.extBut _ _ n3 (sb.extBut _ _ n2 (sa.extBut _ _ n1 e))
    have uc1 : hc.IsListIter i1 l1 (k + 1) := ub.extBut sc.extBut D.i12
    have pn : IsPair (hc.push { cls := .type "tuple", data := .seq #[x, y] }) hc.objs.size x y := Heap.get?_push_size _ rfl
    have sz : (hc.push { cls := .type "tuple", data := .seq #[x, y] }).objs.size = hc.objs.size + 1 := Heap.size_push ..
    show Q (.ref hc.objs.size) _
    rw [size] at pn sz ⊢
    exact now _ ⟨⟨_, _, Heap.get?_push_of_some _ zc, hr⟩, ⟨_, _, Heap.get?_push_of_some _ (stay _ _ D.TOz D.TOi1 D.TOi2 pO)⟩, uc1.at fun o e => Heap.get?_push_of_some _ e, uc.at fun o e => Heap.get?_push_of_some _ e, pn, sz,
      fun c o n1 _ n3 n4 e => Heap.get?_push_of_some _ (stay c o n1 n3 n4 e)⟩
end
section
variable {prog : Program} {w : World} {A : Around} {E : Value → Shared → Prop} {s : Shared} {z TI TO i1 i2 l1 l2 : Addr} {r : Value} {g : Bool}
theorem znl_end {k : Nat} {xs ys : Array Value} {a b : Value} {Q : Fin → Shared → Prop} (hh : A.handled = none) (D : ZipApart z TI TO i1 i2 l1 l2) (hz : ZAt s.heap z TI TO r g) (hr : Out r) (pI : IsPair s.heap TI (.ref i1) (.ref i2))
    (u1 : s.heap.IsListIter i1 l1 k) (t1 : s.heap.IsList l1 xs) (ex : xs[k]? = none)
    (out : ∀ h' e, (∀ c o, c ≠ z → c ≠ TO → c ≠ i1 → c ≠ i2 → s.heap.get? c = some o → h'.get? c = some o) → (∃ o, h'.get? e = some o ∧ o.cls = .type "StopIteration") → E (.ref e) { s with heap := h' }) : wpAny (model prog w) A (Builtin.«zip.__next__» ⟨[.ref z], []⟩) Q E s := by
  show wpAny _ _ (field (.ref z) 2 >>= _) _ _ _
  refine wpAny_bind (wpAny_field hz rfl (x := .bool false) rfl ?_); show wpAny _ _ (field (.ref z) 3 >>= _) _ _ _
  refine wpAny_bind (wpAny_field hz rfl (x := .ref TI) rfl (wpAny_bind (wpAny_seqItems pI rfl ?_)))
  show wpAny _ _ (Builtin.SmallTypes.ownedTupleIsFree (.ref z) >>= _) _ _ _
  refine wpAny_bind (free_or hz hr ?_ fun ha za sa => ?_)
  · simp only [if_true]
    refine wpAny_bind (wpAny_rule (wpAny_bind (wpAny_field hz rfl (x := .ref TO) rfl ?_)))
    refine wpAny_bind (wpAny_setField_rec hz (by simp) fun ha za sa => wpAny_bind ?_)
    replace za : ZAt ha z TI TO .ellipsis g := za
    simp only [List.zipIdx_cons, List.zipIdx_nil, List.forIn_cons, List.forIn_nil]
    refine wpAny_bind ?_; refine wpAny_bind (wpAny_onRaise ?_)
    show wpAny _ _ (Builtin.SmallTypes.nextOf (.ref i1) >>= _) _ _ _
    refine wpAny_bind (wpAny_nextOf_list_end hh (u1.extBut sa.extBut D.i1z) (t1.extBut sa.extBut D.l1z) ex fun hb e sb he => ?_)
    obtain ⟨oe, e1, e2⟩ := he
    have zb : ZAt hb z TI TO .ellipsis g := sb _ _ D.i1z.symm za
    have ne : e ≠ z := fun same => by subst same; rw [zb] at e1; cases e1; simp at e2
    refine wpAny_setField_rec zb (by simp) fun hc _ sc => out hc e (fun c o n1 _ n3 _ q => ?_) ⟨oe, sc.extBut _ _ ne e1, e2⟩
    exact sc.extBut _ _ n1 (sb _ _ n3 (sa.extBut _ _ n1 q))
  · simp only [Bool.false_eq_true, if_false]
    refine wpAny_bind ?_
    rw [← Array.forIn_toList]
    simp only [List.forIn_cons, List.forIn_nil]
    refine wpAny_bind ?_; refine wpAny_bind (wpAny_holding ?_)
    show wpAny _ _ (Builtin.SmallTypes.nextOf (.ref i1) >>= _) _ _ _
    refine wpAny_bind (wpAny_nextOf_list_end (s := { s with heap := ha }) hh (u1.extBut sa.extBut D.i1z) (t1.extBut sa.extBut D.l1z) ex fun hb e sb he => out hb e (fun c o n1 _ n3 _ q => ?_) he)
    exact sb _ _ n3 (sa.extBut _ _ n1 q)
theorem next_znl {k : Nat} {xs ys : Array Value} {x y a b : Value} {Q : Option Value → Shared → Prop} (D : ZipApart z TI TO i1 i2 l1 l2) (hz : ZAt s.heap z TI TO r g) (hr : Out r) (pI : IsPair s.heap TI (.ref i1) (.ref i2)) (pO : IsPair s.heap TO a b)
    (u1 : s.heap.IsListIter i1 l1 k) (u2 : s.heap.IsListIter i2 l2 k) (t1 : s.heap.IsList l1 xs) (t2 : s.heap.IsList l2 ys) (ex : xs[k]? = some x) (ey : ys[k]? = some y)
    (now : ∀ h', AfterL s.heap z TI TO i1 i2 l1 l2 k x y h' → Q (some (.ref s.heap.objs.size)) { s with heap := h' }) : wpAny (model prog w) A (pyNext (.ref z)) Q E s := by
  have isZ : s.TypeIs (.ref z) "zip" := ⟨_, hz, rfl⟩
  unfold pyNext
  refine wpAny_bind (wpAny_attempt (wpAny_callSpecial?_slot (name := Str.ofString "__next__") isZ F.slot_zip_next (wpAny_call_entry F.slot_zip_next isZ F.entry_zip_next ?_ (F.args_zip_next_1 _))))
  exact znl_item D hz hr pI pO u1 u2 t1 t2 ex ey fun h' q => wpAny_pure (now h' q)
theorem stop_znl {k : Nat} {xs : Array Value} {Q : Option Value → Shared → Prop} (hh : A.handled = none) (D : ZipApart z TI TO i1 i2 l1 l2) (hz : ZAt s.heap z TI TO r g) (hr : Out r) (pI : IsPair s.heap TI (.ref i1) (.ref i2)) (u1 : s.heap.IsListIter i1 l1 k) (t1 : s.heap.IsList l1 xs) (ex : xs[k]? = none)
    (now : ∀ h', (∀ c o, c ≠ z → c ≠ TO → c ≠ i1 → c ≠ i2 → s.heap.get? c = some o → h'.get? c = some o) → Q none { s with heap := h' }) : wpAny (model prog w) A (pyNext (.ref z)) Q E s := by
  have isZ : s.TypeIs (.ref z) "zip" := ⟨_, hz, rfl⟩
  unfold pyNext
  refine wpAny_bind (wpAny_attempt (wpAny_callSpecial?_slot (name := Str.ofString "__next__") isZ F.slot_zip_next (wpAny_call_entry F.slot_zip_next isZ F.entry_zip_next ?_ (F.args_zip_next_1 _))))
  refine znl_end (xs := xs) (ys := xs) (a := .none) (b := .none) hh D hz hr pI u1 t1 ex fun h' e stay he => ?_
  obtain ⟨o, e1, e2⟩ := he
  refine wpAny_bind (wpAny_isInstance (T := "StopIteration") (b := true) ⟨o, e1, e2⟩ isSubtype_stop (wpAny_pure (now _ stay)))
end
/-- two tuples of one length, their items in new pairs -/
def Itnl (K : PySem.W.Frag) (a b : Addr) : It where
  go i H := ∃ (xs ys : List V) (x y : V), SqL K H a xs ∧ SqL K H b ys ∧ xs[i]? = some x ∧ ys[i]? = some y
  yld i H v H' := ∃ (T : Addr) (x y : V), v = .ref T ∧ H T = none ∧ H' = upd H T (.tup [x, y]) ∧ (∀ xs, SqL K H a xs → xs[i]? = some x) ∧ ∀ ys, SqL K H b ys → ys[i]? = some y
  stop i H := ∃ xs : List V, SqL K H a xs ∧ xs.length ≤ i
def Znl (z TI TO i1 i2 a b : Addr) (i : Nat) (h : Heap) : Prop := (∃ r g, ZAt h z TI TO r g ∧ Out r) ∧ IsPair h TI (.ref i1) (.ref i2) ∧ (∃ x y, IsPair h TO x y) ∧ h.IsListIter i1 a i ∧ h.IsListIter i2 b i
theorem fiveL {z TI TO i1 i2 c : Addr} (h : c ∈ [z, TI, TO, i1, i2]) : c = z ∨ c = TI ∨ c = TO ∨ c = i1 ∨ c = i2 := by simpa using h
theorem turn_znl {P : Program} {w : World} {K : PySem.W.Frag} {nm : Str} {px : Pos} {a b z TI TO i1 i2 : Addr} (D : ZipApart z TI TO i1 i2 a b) : Turn P w K (.Name nm px) (Itnl K a b) [z, TI, TO, i1, i2] z (Znl z TI TO i1 i2 a b) := by
  refine ⟨by simp, ?_, ?_, ?_, ?_, ?_⟩
  · rintro i h ⟨⟨r, g, hz, _⟩, hI, ⟨x, y, hO⟩, ⟨o1, e1, _, d1⟩, ⟨o2, e2, _, d2⟩⟩ c hc
    rcases fiveL hc with rfl | rfl | rfl | rfl | rfl
    · exact ⟨_, hz, fun v q => nomatch q⟩
    · exact ⟨_, hI, fun v q => nomatch q⟩
    · exact ⟨_, hO, fun v q => nomatch q⟩
    · exact ⟨o1, e1, fun v q => by rw [d1] at q; cases q⟩
    · exact ⟨o2, e2, fun v q => by rw [d2] at q; cases q⟩
  · rintro i h h' ⟨⟨r, g, hz, hr⟩, hI, ⟨x, y, hO⟩, u1, u2⟩ k
    exact ⟨⟨r, g, k z (by simp) _ hz, hr⟩, k TI (by simp) _ hI, ⟨x, y, k TO (by simp) _ hO⟩, u1.at fun o q => k i1 (by simp) o q, u2.at fun o q => k i2 (by simp) o q⟩
  · intro X hP hw hK hc i pins s σ H E I free st hg
    subst hP hw hK
    obtain ⟨⟨r, g, hz, hr⟩, hI, ⟨x0, y0, hO⟩, u1, u2⟩ := st
    obtain ⟨xs, ys, x, y, qx, qy, hx, hy⟩ := hg
    obtain ⟨its, rv, p, _⟩ := I.list qx
    obtain ⟨its2, rv2, p2, _⟩ := I.list qy
    obtain ⟨v1, hv1, r1⟩ := rv.get hx
    obtain ⟨v2, hv2, r2⟩ := rv2.get hy
    refine next_znl D hz hr hI hO u1 u2 p.isList p2.isList (x := v1) (y := v2) (by simpa using hv1) (by simpa using hv2) fun h' ⟨zz, oo, n1, n2, pn, sz, stay⟩ => ?_
    refine ⟨_, rfl, wpAny_pure ?_⟩
    have new : ObjOk X.prog X.w (upd H s.heap.objs.size (.tup [x, y])) h' s.heap.objs.size (.tup [x, y]) := ⟨by show 2 ≤ sizeLine; decide, [v1, v2], .cons r1 (.cons r2 .nil), ⟨_, pn, rfl, _, rfl⟩⟩
    have I1 : Inv X pins σ (upd H s.heap.objs.size (.tup [x, y])) { s with heap := h' } :=
      I.turnedNew (t' := s.toks) (ch := [z, TI, TO, i1, i2]) (fun c o out q => stay c o (fun e => out (by simp [e])) (fun e => out (by simp [e])) (fun e => out (by simp [e])) (fun e => out (by simp [e])) q) free (Nat.le_refl _) new
    have hI' : IsPair h' TI (.ref i1) (.ref i2) := stay _ _ D.TIz D.TITO D.TIi1 D.TIi2 hI
    refine ⟨.ref s.heap.objs.size, _, I1, rfl, ⟨_, x, y, rfl, I.hok.fresh (Nat.le_refl _), rfl, fun l hl => by rw [I.list_inj hl qx]; exact hx, fun l hl => by rw [I.list_inj hl qy]; exact hy⟩, ⟨zz, hI', oo, n1, n2⟩, fun c hcm => ?_⟩
    have lt : c < s.heap.objs.size := by
      rcases fiveL hcm with rfl | rfl | rfl | rfl | rfl
      · exact Heap.lt_size hz
      · exact Heap.lt_size hI
      · exact Heap.lt_size hO
      · obtain ⟨_, e, _⟩ := u1
        exact Heap.lt_size e
      · obtain ⟨_, e, _⟩ := u2
        exact Heap.lt_size e
    rw [upd_ne (Nat.ne_of_lt lt)]
    exact (free c hcm).1
  · intro X hP hw hK hc i pins s σ H E I free st hg
    subst hP hw hK
    obtain ⟨⟨r, g, hz, hr⟩, hI, ⟨x0, y0, hO⟩, u1, u2⟩ := st
    obtain ⟨xs, qx, le⟩ := hg
    obtain ⟨its, rv, p, _⟩ := I.list qx
    have same := rv.length
    refine stop_znl (I.ok.hd hc) D hz hr hI u1 p.isList (by simp; omega) fun h' stay => ⟨rfl, I.turnedL (t' := s.toks) (ch := [z, TI, TO, i1, i2]) (fun c o out q => ?_) free⟩
    exact stay c o (fun e => out (by simp [e])) (fun e => out (by simp [e])) (fun e => out (by simp [e])) (fun e => out (by simp [e])) q
  · rintro A i s Q E ⟨⟨r, g, hz, _⟩, _⟩ h
    exact iter_zn hz h
def iZipNL (K : PySem.W.Frag) (ta : TA) : TI := fun σ H R => ta σ H fun vs H1 => ∃ (a b : Addr) (xs ys : List V), vs = [.ref a, .ref b] ∧ SqL K H1 a xs ∧ SqL K H1 b ys ∧ R (Itnl K a b) H1
theorem pi_zipNL {X : Cx} {e e2 : Expr} {ta : TA} {p pos px : Pos} {nm : Str} (hg : Gl X "zip") (hm : X.mg "zip" = none) (ha : PA X [e, e2] ta) (hs : starEach [e, e2] X.env = (false, eval e X.env) :: starEach [e2] X.env := by rfl)
    (hpl : (backTo pos (starEach [e2] X.env)).any (·.1) = false := by rfl) : PI X (.Name nm px) (.Call (.Name "zip" p) [e, e2] [] pos) (iZipNL X.K ta) := by
  constructor
  intro pins s σ H R I want
  refine Call_ (ld_blt I hg hm PyProof.Rows.boot_zip (PyProof.Rows.callWith_type1 (thn (ha.run pos pins s σ H _ I want) ?_) hs hpl))
  rintro us s1 ⟨vs, H1, J, rv, a, b, xs, ys, rfl, qx, qy, now⟩
  obtain ⟨u1, u2, rfl, r1, r2⟩ := vals2 rv
  cases r1
  cases r2
  obtain ⟨its, rx, p1, _⟩ := J.list qx
  obtain ⟨its2, ry, p2, _⟩ := J.list qy
  obtain ⟨o1, ho1, _⟩ := id p1.isList
  obtain ⟨o2, ho2, _⟩ := id p2.isList
  refine call_zip_2 p1.isList p2.isList fun h' hz hI hO v1 v2 size keep => ?_
  have hz' : ZAt h' (s1.heap.objs.size + 4) (s1.heap.objs.size + 2) (s1.heap.objs.size + 3) .none false := hz
  refine iter_zn hz' ?_
  have J2 : Inv X pins σ H1 { s1 with heap := h' } := J.kept (t' := s1.toks) keep
  refine ⟨s1.heap.objs.size + 4, [s1.heap.objs.size + 4, s1.heap.objs.size + 2, s1.heap.objs.size + 3, s1.heap.objs.size, s1.heap.objs.size + 1], _, _, H1, rfl, J2, turn_znl (PySem.W.ktu_apart s1.heap.objs.size a b (Heap.lt_size ho1) (Heap.lt_size ho2)), ⟨⟨_, _, hz', .inl rfl⟩, hI, ⟨_, _, hO⟩, v1, v2⟩, fun c hc => ?_, now⟩
  have le : s1.heap.objs.size ≤ c := by
    rcases fiveL hc with rfl | rfl | rfl | rfl | rfl <;> omega
  exact J.fpOk le (J.hok.fresh le)
theorem walk_znl {K : PySem.W.Frag} {a b : Addr} {xs ys : List V} (same : xs.length = ys.length) : Walk (Itnl K a b) xs.length (fun H => SqL K H a xs ∧ SqL K H b ys) (YPair (fun i => xs[i]?) (fun i => ys[i]?)) := by
  refine ⟨fun i H lt ⟨h1, h2⟩ => ⟨xs, ys, xs[i], ys[i]'(by omega), h1, h2, List.getElem?_eq_getElem lt, List.getElem?_eq_getElem (by omega)⟩, fun H ⟨h1, _⟩ => ⟨xs, h1, Nat.le_refl _⟩, ?_⟩
  rintro i H v H' lt ⟨h1, h2⟩ ⟨T, x, y, rfl, nT, rfl, q1, q2⟩
  exact ⟨T, x, y, rfl, nT, rfl, q1 xs h1, q2 ys h2⟩
end Rt
namespace L18
open PySem PySem.Spec L2 Rt Rs Ld
open PyProof.Rows hiding St

abbrev sEq : Stmt := inClass (top 18) 6
abbrev sNe : Stmt := inClass (top 18) 7
abbrev sLater : Stmt := top 22
abbrev sAnd : Stmt := top 23
abbrev sWith : Stmt := top 25
theorem ld_ins {H : Hp} {C a : Addr} {L : LP} {F : Int → Int} (h : LdAt H C a L F) : ∃ dx fs, H a = some (.ins C dx fs) ∧ fs.lookup ("start" : Str) = none ∧ fs.lookup ("end" : Str) = none ∧ fs.lookup ("period" : Str) = none ∧ fs.lookup ("row" : Str) = none ∧ fs.lookup ("at" : Str) = none := by
  obtain ⟨dx, sa, ea, ra, h1, _⟩ := h.ex
  exact ⟨dx, _, h1, look_no (by decide +kernel) (by decide +kernel) (by decide +kernel) (by decide +kernel), look_no (by decide +kernel) (by decide +kernel) (by decide +kernel) (by decide +kernel), look_no (by decide +kernel) (by decide +kernel) (by decide +kernel) (by decide +kernel), look_no (by decide +kernel) (by decide +kernel) (by decide +kernel) (by decide +kernel), look_no (by decide +kernel) (by decide +kernel) (by decide +kernel) (by decide +kernel)⟩
theorem mk_ok {H1 : Hp} {C x dx p b e : Addr} {L : LP} {F : Int → Int} {Q : VK} (nx : H1 x = none) (ndx : H1 dx = none) (ne : dx ≠ x) (hp : H1 p = some (.lst ((rowOf L F).map V.int))) (hb : H1 b = some (.tup [.int L.f, .int L.s])) (he : H1 e = some (.tup [.int L.g, .int L.r])) (ok : LOk L F)
    (k : ∀ H', Same H1 H' → LdAt H' C x L F → Q (.ref x) H') : spInit C [.ref x, .ref b, .ref e, .int L.n, .ref p] (upd (upd H1 dx (.own x)) x (.ins C dx [])) (fun v H2 => v = .non ∧ Q (.ref x) H2) E0 := by
  have sm : Same H1 (upd (upd H1 dx (.own x)) x (.ins C dx [])) := (same_new ndx).trans (same_new (by rw [upd_ne ne.symm]; exact nx))
  exact ⟨x, dx, p, b, e, L, F, rfl, upd_same, sm _ _ hp, sm _ _ hb, sm _ _ he, ok, fun H' b' ld' => ⟨rfl, k H' (fun y u q => b' y u (sm _ _ q) (ne_of_none q nx)) ld'⟩⟩
def eqL (L M : LP) (F G : Int → Int) : Bool := (decide (L.s = M.s) && decide ((M.f - L.f) % L.s = 0)) && (decide (L.r = M.r) && decide ((M.g - L.g) % L.r = 0)) && (decide (L.n = M.n) && decide (rowOf L F = rowOf M G))
theorem eqv_tup (xs ys : List Int) : PyData.eqv (.tuple (xs.map PyData.int)) (.tuple (ys.map PyData.int)) = decide (xs = ys) := by
  have h := eqvAll_ints xs ys
  simp only [PyData.eqv]
  exact h
theorem shaped_tup (ks : List Int) : SeqAt.shaped (.tuple (ks.map PyData.int)) = true := by
  unfold SeqAt.shaped
  simp [PyData.canLay0, PyData.depth, lay_ints, depth_ints]
theorem eqL_true {L M : LP} {F G : Int → Int} (s0 : 0 < L.s) (h1 : M.s = L.s) (h2 : (M.f - L.f) % L.s = 0) (h3 : M.r = L.r) (h4 : (M.g - L.g) % L.r = 0) (h5 : M.n = L.n) (h6 : ∀ v, v ∈ nums L.f L.s L.n → F v = G v) : eqL L M F G = true := by
  unfold eqL
  rw [h1, h3, h5, decide_eq_true rfl, decide_eq_true h2, decide_eq_true rfl, decide_eq_true h4, decide_eq_true rfl]
  have e : rowOf L F = rowOf M G := by
    unfold rowOf
    rw [h1, h5, nums_alike s0 h2]
    exact List.map_congr_left h6
  rw [decide_eq_true e]
  rfl
theorem eqL_period {L M : LP} {F G : Int → Int} (h : L.n ≠ M.n) : eqL L M F G = false := by
  unfold eqL
  rw [decide_eq_false h]
  simp
def spEqM (C : Addr) : Sp := fun vs H Q _ => ∃ (a b : Addr) (L M : LP) (F G : Int → Int), vs = [.ref a, .ref b] ∧ LdAt H C a L F ∧ LdAt H C b M G ∧ 0 < L.s ∧ 0 < L.r ∧ Q (.bl (eqL L M F G)) H
def spNeM (C : Addr) : Sp := fun vs H Q _ => ∃ (a b : Addr) (L M : LP) (F G : Int → Int), vs = [.ref a, .ref b] ∧ LdAt H C a L F ∧ LdAt H C b M G ∧ 0 < L.s ∧ 0 < L.r ∧ Q (.bl (!eqL L M F G)) H
abbrev maxF (F G : Int → Int) : Int → Int := fun v => if G v > F v then G v else F v
structure Like (L M : LP) : Prop where
  s : M.s = L.s
  r : M.r = L.r
  n : M.n = L.n
  f : (M.f - L.f) % L.s = 0
  g : (M.g - L.g) % L.r = 0
theorem sem_g {L : LP} {g : Int} {F : Int → Int} (h : Sem L.f L.s L.g L.r L.n F) (al : (L.g - g) % L.r = 0) : Sem L.f L.s g L.r L.n F := by
  refine ⟨h.s0, h.r0, h.n0, h.sd, h.rd, fun v hv => ?_, h.mono, h.per⟩
  obtain ⟨a, ha⟩ := Int.dvd_of_emod_eq_zero (h.on v hv)
  obtain ⟨b, hb⟩ := Int.dvd_of_emod_eq_zero al
  rw [show F v - g = L.r * (a + b) by rw [Int.mul_add]; omega]
  exact Int.mul_emod_right _ _
theorem alike_sym {s a b : Int} (h : (a - b) % s = 0) : (b - a) % s = 0 := by
  obtain ⟨q, hq⟩ := Int.dvd_of_emod_eq_zero h
  rw [show b - a = s * (-q) by rw [Int.mul_neg]; omega]
  exact Int.mul_emod_right _ _
theorem Like.sem {L M : LP} {G : Int → Int} (h : Like L M) (k : Sem M.f M.s M.g M.r M.n G) : Sem L.f L.s L.g L.r L.n G := by
  have k1 := sem_g (L := M) (g := L.g) k (by rw [h.r]; exact h.g)
  rw [h.s, h.r, h.n] at k1
  exact k1.alike (alike_sym h.f)
theorem Like.later {L M : LP} {F G : Int → Int} (h : Like L M) (a : LOk L F) (b : LOk M G) : LOk L (maxF F G) := ⟨a.sem.max (h.sem b.sem), a.s1, a.r1, a.n1⟩
abbrev thenL (L M : LP) : LP := ⟨L.f, L.s, M.g, M.r, L.n⟩
theorem LOk.then {L M : LP} {F G : Int → Int} (a : LOk L F) (b : LOk M G) (hn : M.n = L.n) (hs : M.s = L.r) (hf : (M.f - L.g) % L.r = 0) : LOk (thenL L M) (fun v => G (F v)) := by
  have k := b.sem
  rw [hn, hs] at k
  exact ⟨a.sem.comp (s' := 0) k (alike_sym hf), a.s1, b.r1, a.n1⟩
abbrev timesL (L : LP) (t : Nat) : LP := ⟨L.f, L.s, L.g, L.r, t * L.n⟩
theorem LOk.times {L : LP} {F : Int → Int} (a : LOk L F) {t : Nat} (t0 : 0 < t) (le : (t : Int) * L.n ≤ 3600) : LOk (timesL L t) F := ⟨a.sem.times t0, a.s1, a.r1, le⟩
def spLater (C : Addr) : Sp := fun vs H Q _ => ∃ (a b : Addr) (L M : LP) (F G : Int → Int), vs = [.ref a, .ref b] ∧ LdAt H C a L F ∧ LdAt H C b M G ∧ LOk L F ∧ LOk M G ∧ Like L M ∧ ∀ x H', Same H H' → LdAt H' C x L (maxF F G) → Q (.ref x) H'
def spAnd (C : Addr) : Sp := fun vs H Q _ => ∃ (a b : Addr) (L M : LP) (F G : Int → Int), vs = [.ref a, .ref b] ∧ LdAt H C a L F ∧ LdAt H C b M G ∧ LOk L F ∧ LOk M G ∧ M.n = L.n ∧ M.s = L.r ∧ (M.f - L.g) % L.r = 0 ∧ ∀ x H', Same H H' → LdAt H' C x (thenL L M) (fun v => G (F v)) → Q (.ref x) H'
def spWith (C : Addr) : Sp := fun vs H Q _ => ∃ (a : Addr) (t : Nat) (L : LP) (F : Int → Int), vs = [.ref a, .int t] ∧ LdAt H C a L F ∧ LOk L F ∧ 0 < t ∧ (t : Int) * L.n ≤ 3600 ∧ ∀ x H', Same H H' → LdAt H' C x (timesL L t) F → Q (.ref x) H'
def spJumps (C : Addr) : Sp := fun vs H Q _ => ∃ (a : Addr) (L : LP) (F : Int → Int), vs = [.ref a] ∧ LdAt H C a L F ∧ LOk L F ∧ ∀ p H', H p = none → Same H H' → H' p = some (.lst ((jumpsOf L.f L.s L.n F).map V.int)) → Q (.ref p) H'
structure MethL (P : Program) (w : World) (K : PySem.W.Frag) (mg : Str → Option Value) (base : Heap) (C : Addr) : Prop where
  start : Md P w K mg base 1 C "start" (spMStart C)
  end_ : Md P w K mg base 1 C "end" (spMEnd C)
  period : Md P w K mg base 1 C "period" (spMPeriod C)
  row : Md P w K mg base 1 C "row" (spMRow C)
  at_ : Md P w K mg base 3 C "at" (spMAt C)
section
variable {P : Program} {w : World} {K : PySem.W.Frag} {mg : Str → Option Value} {base : Heap} {f C : Addr} {fd : FuncData}

theorem scEq : FnScope ["self", "other"] ["self", "other"] (defScope sEq) := ⟨rfl, rfl, rfl, by decide +kernel, rfl, by decide +kernel, by decide +kernel⟩
theorem ok_eq (F : Fun K "__eq__" "Lead.__eq__" sEq f fd) (T : Wds mg) (cn : ClsL K C) (hC : mg "Lead" = some (.ref C)) (ic : C8.InsC K C) (al : Cf P w K mg base 3 "are_alike_clocks" spAlike) : FnOk P w K mg base CX0 4 f fd ["self", "other"] (spEqM C) := by
  refine F.ok scEq (fun vs H Q E h => ?_) (fun cdv A outer s H vs Q E hr h => ?_)
  · obtain ⟨a, b, L, M, F, G, rfl, _⟩ := h
    rfl
  · obtain ⟨a, b, L, M, F, G, rfl, la, lb, s0, r0, k⟩ := h
    have hu64 := hr.units
    refine ⟨_, (pss_cons (ps_if (pt_not (pt_val (pe_callB call_isi (by rfl) T.zisinstance (by decide +kernel) (pa_cons (pv 1) (pa_cons (pe_glob (v := .ref _) (by rfl) hC rfl) pa_nil))))) (pss_one (ps_ret pe_bl)) pss_nil)
      (pss_cons (ps_if (PW.pt (pw_or (pt_not (pt_val (pe_f al hr (by decide) (by rfl) (pa_cons (pe_fld (pv 0) (by rfl)) (pa_cons (pe_fld (pv 1) (by rfl)) pa_nil))))) (pw_or1 (pt_not (pt_val (pe_f al hr (by decide) (by rfl) (pa_cons (pe_fld (pv 0) (by rfl)) (pa_cons (pe_fld (pv 1) (by rfl)) pa_nil)))))))) (pss_one (ps_ret pe_bl)) pss_nil)
      (pss_one (ps_ret (pe_and (pe_cmpR op_eq (pe_fld (pv 0) (by rfl)) (pe_fld (pv 1) (by rfl)) (nomark _)) (pe_one (pe_cmpR (op_eqD hu64) (pe_fld (pv 0) (by rfl)) (pe_fld (pv 1) (by rfl)) (nomark _)))))))), ?_⟩
    obtain ⟨dx, sa, ea, ra, h1, h2, h3, h4⟩ := la.ex
    obtain ⟨dy, sb, eb, rb, g1, g2, g3, g4⟩ := lb.ex
    refine ⟨_, rfl, .ref b, .ref C, .ref C, .ref C, true, rfl, .own C, .base (.ins g1 ic.cl ic.ha ic.hn ic.htk ic.hm), ic.me, true, rfl, iteF ?_⟩
    unfold eqL at k
    refine ⟨_, rfl, a, C, dx, _, _, rfl, h1, cn.cls, cn.n1, look_s, _, rfl, b, C, dy, _, _, rfl, g1, cn.cls, cn.n1, look_s, sa, sb, _, _, _, _, rfl, h2, g2, fun _ => s0, _, rfl, ?_⟩
    cases e1 : (decide (L.s = M.s) && decide ((M.f - L.f) % L.s = 0)) with
    | false =>
      rw [e1] at k
      exact iteT (iteT k)
    | true =>
      rw [e1] at k
      refine iteF ?_
      refine ⟨_, rfl, a, C, dx, _, _, rfl, h1, cn.cls, cn.n2, look_e, _, rfl, b, C, dy, _, _, rfl, g1, cn.cls, cn.n2, look_e, ea, eb, _, _, _, _, rfl, h3, g3, fun _ => r0, _, rfl, ?_⟩
      cases e2 : (decide (L.r = M.r) && decide ((M.g - L.g) % L.r = 0)) with
      | false =>
        rw [e2] at k
        exact iteT k
      | true =>
        rw [e2] at k
        refine iteF ?_
        refine ⟨_, rfl, a, C, dx, _, _, rfl, h1, cn.cls, cn.n3, look_n, _, rfl, b, C, dy, _, _, rfl, g1, cn.cls, cn.n3, look_n, rfl, ?_⟩
        rw [dec_V]
        cases e3 : decide (L.n = M.n) with
        | false =>
          rw [e3] at k
          exact ⟨_, rfl, iteF k⟩
        | true =>
          rw [e3] at k
          refine ⟨_, rfl, iteT ?_⟩
          refine ⟨_, rfl, a, C, dx, _, _, rfl, h1, cn.cls, cn.n4, look_w, _, rfl, b, C, dy, _, _, rfl, g1, cn.cls, cn.n4, look_w, ?_⟩
          refine ⟨.tuple ((rowOf L F).map PyData.int), .tuple ((rowOf M G).map PyData.int), .tup (SqT.of h4) (dpAll_ints _), .tup (SqT.of g4) (dpAll_ints _), shaped_tup _, shaped_tup _, ?_⟩
          rw [eqv_tup]
          exact k
theorem scNe : FnScope ["self", "other"] ["self", "other"] (defScope sNe) := ⟨rfl, rfl, rfl, by decide +kernel, rfl, by decide +kernel, by decide +kernel⟩
theorem ok_ne (F : Fun K "__ne__" "Lead.__ne__" sNe f fd) (mEq : Md P w K mg base 4 C "__eq__" (spEqM C)) : FnOk P w K mg base CX0 5 f fd ["self", "other"] (spNeM C) := by
  refine F.ok scNe (fun vs H Q E h => ?_) (fun cdv A outer s H vs Q E hr h => ?_)
  · obtain ⟨a, b, L, M, F, G, rfl, _⟩ := h
    rfl
  · obtain ⟨a, b, L, M, F, G, rfl, la, lb, s0, r0, k⟩ := h
    refine ⟨_, (pss_one (ps_ret (pe_not (pe_cmpR (op_ownEq mEq hr (by decide)) (pv 0) (pv 1) (nomark _))))), ?_⟩
    obtain ⟨dx, sa, ea, ra, h1, h2, h3, h4⟩ := la.ex
    obtain ⟨dy, sb, eb, rb, g1, g2, g3, g4⟩ := lb.ex
    exact ⟨_, rfl, _, rfl, a, b, dx, dy, _, _, rfl, rfl, h1, g1, a, b, L, M, F, G, rfl, la, lb, s0, r0, _, rfl, _, rfl, k⟩
theorem scLater : FnScope ["one", "other", "row", "pair"] ["one", "other"] (defScope sLater) := ⟨rfl, rfl, rfl, by decide +kernel, rfl, by decide +kernel, by decide +kernel⟩
theorem ok_later (F : Fun K "later_lead" "later_lead" sLater f fd) (T : Wds mg) (cn : ClsL K C) (M : MethL P w K mg base C) (mk : Mkr P w K mg base 5 C "Lead" (spInit C)) (al : Cf P w K mg base 3 "are_alike_clocks" spAlike) : FnOk P w K mg base CX0 7 f fd ["one", "other"] (spLater C) := by
  refine F.ok scLater (fun vs H Q E h => ?_) (fun cdv A outer s H vs Q E hr h => ?_)
  · obtain ⟨a, b, L, M, F, G, rfl, _⟩ := h
    rfl
  · obtain ⟨a, b, L, N, F, G, rfl, la, lb, oa, ob, like, k⟩ := h
    have hu64 := hr.units
    have few := oa.few
    have hu : _ + 64 < cLine := hu64
    refine ⟨_, (pss_cons (ps_if (pt_cmpR op_ne (pe_m0' cn.cls M.period hr (by decide) (pv 0)) (pe_m0' cn.cls M.period hr (by decide) (pv 1)) (nomark _)) (pss_one ps_never) pss_nil)
      (pss_cons (ps_if (PW.pt (pw_or (pt_not (pt_val (pe_f al hr (by decide) (by rfl) (pa_cons (pe_m0' cn.cls M.start hr (by decide) (pv 0)) (pa_cons (pe_m0' cn.cls M.start hr (by decide) (pv 1)) pa_nil))))) (pw_or1 (pt_not (pt_val (pe_f al hr (by decide) (by rfl) (pa_cons (pe_m0' cn.cls M.end_ hr (by decide) (pv 0)) (pa_cons (pe_m0' cn.cls M.end_ hr (by decide) (pv 1)) pa_nil)))))))) (pss_one ps_never) pss_nil)
      (pss_cons (ps_setLc (i := 2) (own := [("pair", 3)]) rfl scLater.nd rfl rfl (sw_true rfl rfl rfl (by decide +kernel)) (pi_zipNL (by rfl) T.zzip (pa_cons (pe_m0' cn.cls M.row hr (by decide) (pv 0)) (pa_cons (pe_m0' cn.cls M.row hr (by decide) (pv 1)) pa_nil))) (blkOk_by (N := ["one", "other", "row", "pair"]) (sc := defScope sLater) (by decide +kernel)) (fun _ _ _ _ _ => (pg_name (i := 3) scLater.nd rfl (.inl rfl))) (fun _ _ _ _ _ => pts_nil) (fun _ _ _ _ _ => (pe_callB (call_maxK (K := K) rfl (by rfl) hu) (by rfl) T.zmax (by decide +kernel) (pa_cons (pv 3) pa_nil))))
      (pss_one (ps_ret (pe_mkr mk hr (by decide) (by rfl) (pa_cons (pe_m0' cn.cls M.start hr (by decide) (pv 0)) (pa_cons (pe_m0' cn.cls M.end_ hr (by decide) (pv 0)) (pa_cons (pe_m0' cn.cls M.period hr (by decide) (pv 0)) (pa_cons (pv 2) pa_nil)))))))))), ?_⟩
    obtain ⟨dx, fs, ia, a1, a2, a3, a4, a5⟩ := ld_ins la
    obtain ⟨dy, gs, ib, b1, b2, b3, b4, b5⟩ := ld_ins lb
    refine ⟨_, rfl, a, dx, fs, rfl, ia, a3, a, L, F, rfl, la, _, rfl, b, dy, gs, rfl, ib, b3, b, N, G, rfl, lb, rfl, ?_⟩
    rw [dec_V, decide_eq_true like.n.symm]
    refine ⟨_, rfl, iteF ?_⟩
    refine ⟨_, rfl, a, dx, fs, rfl, ia, a1, a, L, F, rfl, la, fun sa hsa => ?_⟩
    refine ⟨_, rfl, b, dy, gs, rfl, ib, b1, b, N, G, rfl, lb, fun sb hsb => ?_⟩
    refine ⟨sa, sb, _, _, _, _, rfl, hsa, hsb, fun _ => oa.sem.s0, ?_⟩
    rw [like.s, decide_eq_true rfl, decide_eq_true like.f]
    refine ⟨true, rfl, iteF ?_⟩
    refine ⟨_, rfl, a, dx, fs, rfl, ia, a2, a, L, F, rfl, la, fun ea hea => ?_⟩
    refine ⟨_, rfl, b, dy, gs, rfl, ib, b2, b, N, G, rfl, lb, fun eb heb => ?_⟩
    refine ⟨ea, eb, _, _, _, _, rfl, hea, heb, fun _ => oa.sem.r0, ?_⟩
    rw [like.r, decide_eq_true rfl, decide_eq_true like.g]
    refine ⟨true, rfl, iteF ?_⟩
    -- the row
    refine ⟨_, rfl, a, dx, fs, rfl, ia, a4, a, L, F, rfl, la, fun p np => ?_⟩
    have s1 := same_new (H := H) (o := .lst ((rowOf L F).map V.int)) np
    have hp := upd_same (H := H) (a := p) (o := .lst ((rowOf L F).map V.int))
    revert s1 hp
    generalize upd H p (.lst ((rowOf L F).map V.int)) = H1
    intro s1 hp
    refine ⟨_, rfl, b, dy, gs, rfl, s1 _ _ ib, b4, b, N, G, rfl, lb.same s1, fun q nq => ?_⟩
    have s2 := s1.trans (same_new (H := H1) (o := .lst ((rowOf N G).map V.int)) nq)
    have hp := (same_new (H := H1) (o := .lst ((rowOf N G).map V.int)) nq) _ _ hp
    have hq := upd_same (H := H1) (a := q) (o := .lst ((rowOf N G).map V.int))
    revert s2 hp hq
    generalize upd H1 q (.lst ((rowOf N G).map V.int)) = H2
    intro s2 hp hq
    have lenp : ((rowOf L F).map V.int).length = (L.n / L.s).toNat := by rw [List.length_map, row_len]
    have lenq : ((rowOf N G).map V.int).length = (L.n / L.s).toNat := by rw [List.length_map, row_len, like.n, like.s]
    refine ⟨p, q, _, _, rfl, SqL.of hp, SqL.of hq, fun D nD => ?_⟩
    refine lc_it (walk_znl (lenp.trans lenq.symm)) (fun i H3 => Same H2 H3 ∧ H3 D = some (.lst (((rowOf L (maxF F G)).take i).map V.int))) ⟨same_new nD, upd_same⟩ (fun i H3 _ z => ⟨SqL.of (z.1 _ _ hp), SqL.of (z.1 _ _ hq)⟩) ?_ ?_
    · rintro i y H3 H4 hi ⟨s3, hD⟩ ⟨t, x1, x2, rfl, nt, rfl, e1, e2⟩
      rw [lenp] at hi
      have er : (rowOf N G)[i]? = some (G (L.f % L.s + (i : Nat) * L.s)) := by
        unfold rowOf
        rw [like.n, like.s, nums_alike oa.sem.s0 like.f, List.getElem?_map, nums_at hi]
        rfl
      obtain rfl : V.int (F (L.f % L.s + (i : Nat) * L.s)) = x1 := by
        have e1 : ((rowOf L F).map V.int)[i]? = some x1 := e1
        rw [List.getElem?_map, row_at hi] at e1
        exact Option.some.inj e1
      obtain rfl : V.int (G (L.f % L.s + (i : Nat) * L.s)) = x2 := by
        have e2 : ((rowOf N G).map V.int)[i]? = some x2 := e2
        rw [List.getElem?_map, er] at e2
        exact Option.some.inj e2
      have hD2 : (upd H3 t (.tup [.int (F (L.f % L.s + (i : Nat) * L.s)), .int (G (L.f % L.s + (i : Nat) * L.s))])) D = some (.lst (((rowOf L (maxF F G)).take i).map V.int)) := by
        rw [upd_ne (ne_of_none hD nt)]
        exact hD
      refine ⟨rfl, _, rfl, t, _, _, rfl, SqT.of upd_same, _, hD2, big5000 (by rw [List.length_map, List.length_take]; omega), fun b o z => by rw [upd_ne (ne_of_none z nD)]; exact (s3.trans (same_new nt)) b o z, ?_⟩
      rw [upd_same, List.take_succ, row_at hi, List.map_append]
      rfl
    · rintro H3 ⟨s3, hD⟩
      rw [List.take_of_length_le (by rw [row_len, lenp]; exact Nat.le_refl _)] at hD
      have s03 := s2.trans s3
      refine ⟨_, rfl, a, dx, fs, rfl, s03 _ _ ia, a1, a, L, F, rfl, la.same s03, fun sa2 hsa2 => ?_⟩
      refine ⟨_, rfl, a, dx, fs, rfl, s03 _ _ ia, a2, a, L, F, rfl, la.same s03, fun ea2 hea2 => ?_⟩
      refine ⟨_, rfl, a, dx, fs, rfl, s03 _ _ ia, a3, a, L, F, rfl, la.same s03, _, rfl, fun x dxx nx ndx ne => ?_⟩
      exact mk_ok nx ndx ne hD hsa2 hea2 (like.later oa ob) fun H5 s5 ld => k x H5 (s03.trans s5) ld
theorem scAnd : FnScope ["one", "other", "x"] ["one", "other"] (defScope sAnd) := ⟨rfl, rfl, rfl, by decide +kernel, rfl, by decide +kernel, by decide +kernel⟩
theorem ok_and (F : Fun K "and_then" "and_then" sAnd f fd) (T : Wds mg) (cn : ClsL K C) (M : MethL P w K mg base C) (mk : Mkr P w K mg base 5 C "Lead" (spInit C)) (al : Cf P w K mg base 3 "are_alike_clocks" spAlike) : FnOk P w K mg base CX0 7 f fd ["one", "other"] (spAnd C) := by
  refine F.ok scAnd (fun vs H Q E h => ?_) (fun cdv A outer s H vs Q E hr h => ?_)
  · obtain ⟨a, b, L, M, F, G, rfl, _⟩ := h
    rfl
  · obtain ⟨a, b, L, N, F, G, rfl, la, lb, oa, ob, hn, hs, hf, k⟩ := h
    have few := oa.few
    refine ⟨_, (pss_cons (ps_if (PW.pt (pw_or (pt_cmpR op_ne (pe_m0' cn.cls M.period hr (by decide) (pv 0)) (pe_m0' cn.cls M.period hr (by decide) (pv 1)) (nomark _)) (pw_or1 (pt_not (pt_val (pe_f al hr (by decide) (by rfl) (pa_cons (pe_m0' cn.cls M.end_ hr (by decide) (pv 0)) (pa_cons (pe_m0' cn.cls M.start hr (by decide) (pv 1)) pa_nil)))))))) (pss_one ps_never) pss_nil)
      (pss_one (ps_ret (pe_mkr mk hr (by decide) (by rfl) (pa_cons (pe_m0' cn.cls M.start hr (by decide) (pv 0)) (pa_cons (pe_m0' cn.cls M.end_ hr (by decide) (pv 1)) (pa_cons (pe_m0' cn.cls M.period hr (by decide) (pv 0)) (pa_cons (pe_lc (own := [("x", 2)]) (by rfl) scAnd.nd (pi_list (pe_m0' cn.cls M.row hr (by decide) (pv 0))) (blkOk_by (N := ["one", "other", "x"]) (sc := defScope sAnd) (by decide +kernel)) (fun _ _ _ _ _ => (pg_name (i := 2) scAnd.nd rfl (.inl rfl))) (fun _ _ _ _ _ => pts_nil) (fun _ _ _ _ _ => (pe_m cn.cls M.at_ hr (by decide) (pv 1) (pa_cons (pv 2) pa_nil)))) pa_nil)))))))), ?_⟩
    obtain ⟨dx, fs, ia, a1, a2, a3, a4, a5⟩ := ld_ins la
    obtain ⟨dy, gs, ib, b1, b2, b3, b4, b5⟩ := ld_ins lb
    refine ⟨_, rfl, a, dx, fs, rfl, ia, a3, a, L, F, rfl, la, _, rfl, b, dy, gs, rfl, ib, b3, b, N, G, rfl, lb, rfl, ?_⟩
    rw [dec_V, decide_eq_true hn.symm]
    refine ⟨_, rfl, iteF ?_⟩
    refine ⟨_, rfl, a, dx, fs, rfl, ia, a2, a, L, F, rfl, la, fun ea hea => ?_⟩
    refine ⟨_, rfl, b, dy, gs, rfl, ib, b1, b, N, G, rfl, lb, fun sb hsb => ?_⟩
    refine ⟨ea, sb, _, _, _, _, rfl, hea, hsb, fun _ => oa.sem.r0, ?_⟩
    rw [hs, decide_eq_true rfl, decide_eq_true hf]
    refine ⟨true, rfl, iteF ?_⟩
    refine ⟨_, rfl, a, dx, fs, rfl, ia, a1, a, L, F, rfl, la, fun sa hsa => ?_⟩
    refine ⟨_, rfl, b, dy, gs, rfl, ib, b2, b, N, G, rfl, lb, fun eb heb => ?_⟩
    refine ⟨_, rfl, a, dx, fs, rfl, ia, a3, a, L, F, rfl, la, ?_⟩
    refine ⟨_, rfl, a, dx, fs, rfl, ia, a4, a, L, F, rfl, la, fun p np => ?_⟩
    have s1 := same_new (H := H) (o := .lst ((rowOf L F).map V.int)) np
    have hp := upd_same (H := H) (a := p) (o := .lst ((rowOf L F).map V.int))
    revert s1 hp
    generalize upd H p (.lst ((rowOf L F).map V.int)) = H1
    intro s1 hp
    have lenp : ((rowOf L F).map V.int).length = (L.n / L.s).toNat := by rw [List.length_map, row_len]
    refine ⟨p, rfl, ⟨_, SqL.of hp⟩, fun D nD => ?_⟩
    refine lc_it walk_list (fun i H3 => Same H1 H3 ∧ H3 D = some (.lst (((rowOf (thenL L N) (fun v => G (F v))).take i).map V.int))) ⟨same_new nD, upd_same⟩ (fun i H3 _ z => SqL.of (z.1 _ _ hp)) ?_ ?_
    · rintro i y H3 H4 hi ⟨s3, hD⟩ ⟨rfl, hy⟩
      rw [lenp] at hi
      obtain rfl : V.int (F (L.f % L.s + (i : Nat) * L.s)) = y := by
        rw [List.getElem?_map, row_at hi] at hy
        exact Option.some.inj hy
      have s13 := s1.trans s3
      have on' : (F (L.f % L.s + (i : Nat) * L.s) - N.f) % N.s = 0 := by
        rw [hs]
        obtain ⟨u, hu⟩ := Int.dvd_of_emod_eq_zero (oa.sem.on _ (oa.on_at hi))
        obtain ⟨v, hv⟩ := Int.dvd_of_emod_eq_zero hf
        rw [show F (L.f % L.s + (i : Nat) * L.s) - N.f = L.r * (u - v) by rw [Int.mul_sub]; omega]
        exact Int.mul_emod_right _ _
      refine ⟨rfl, _, rfl, b, dy, gs, rfl, s13 _ _ ib, b5, _, rfl, b, N, G, _, rfl, lb.same s13, ob, on', _, hD, big5000 (by rw [List.length_map, List.length_take]; omega), fun b o z => by rw [upd_ne (ne_of_none z nD)]; exact s3 b o z, ?_⟩
      rw [upd_same, List.take_succ, row_at (L := thenL L N) hi, List.map_append]
      rfl
    · rintro H3 ⟨s3, hD⟩
      rw [List.take_of_length_le (by rw [row_len, lenp]; exact Nat.le_refl _)] at hD
      have s03 := s1.trans s3
      refine fun x dxx nx ndx ne => ?_
      exact mk_ok (L := thenL L N) nx ndx ne hD (s03 _ _ hsa) (s03 _ _ heb) (oa.then ob hn hs hf) fun H5 s5 ld => k x H5 (s03.trans s5) ld
end
end L18
namespace Rt
open PySem PySem.Spec L2
open PyProof.Rows hiding St
/-! ### a comprehension with two for, over any walks -/
section
variable {J J1 : It} {n n1 : Nat} {G G1 : Hp → Prop} {Y Y1 : Nat → Hp → V → Hp → Prop}
theorem lc2_it (wk : Walk J n G Y) {g g1 : TG} {tt tt1 : TT} {wi1 : TI} {te : TE} {vs vs1 : List Nat} {σ : L2.St} {H1 : Hp} {D : Addr} {Qd : Hp → Prop} (Pv : Nat → Hp → Prop) (start : Pv 0 (upd H1 D (.lst []))) (good : ∀ i H, i ≤ n → Pv i H → G H)
    (turn : ∀ i x H H', i < n → Pv i H → Y i H x H' → g x (wipe σ vs) H' fun σ2 H2 => wipe σ2 vs = wipe σ vs ∧ tt σ2 H2 fun b H3 =>
      if b = true then wi1 σ2 H3 fun J1 H4 => ∃ W1 : Nat → Nat → Hp → Prop, (∃ m, W1 0 m H4) ∧ ∀ j k H, W1 j k H →
        (J1.stop j H ∧ Pv (i + 1) H) ∨ (J1.go j H ∧ ∃ Nx1 : Hp → Prop, (∀ H', Nx1 H' → ∃ k', k' < k ∧ W1 (j + 1) k' H') ∧ ∀ x H', J1.yld j H x H' → g1 x (wipe σ2 vs1) H' fun σ3 H5 => wipe σ3 vs1 = wipe σ2 vs1 ∧ tt1 σ3 H5 fun b H6 =>
          if b = true then te σ3 H6 fun y H7 => ∃ acc, H7 D = some (.lst acc) ∧ acc.length < sizeLine ∧ Nx1 (upd H7 D (.lst (acc ++ [y]))) else Nx1 H6)
      else Pv (i + 1) H3) (fin : ∀ H, Pv n H → Qd H) :
    ∃ W : Nat → Nat → Hp → Prop, (∃ m, W 0 m (upd H1 D (.lst []))) ∧ ∀ i m H, W i m H →
      (J.stop i H ∧ Qd H) ∨ (J.go i H ∧ ∃ Nx : Hp → Prop, (∀ H', Nx H' → ∃ m', m' < m ∧ W (i + 1) m' H') ∧ ∀ x H', J.yld i H x H' → g x (wipe σ vs) H' fun σ2 H2 => wipe σ2 vs = wipe σ vs ∧ tt σ2 H2 fun b H3 =>
        if b = true then wi1 σ2 H3 fun J1 H4 => ∃ W1 : Nat → Nat → Hp → Prop, (∃ m, W1 0 m H4) ∧ ∀ j k H, W1 j k H →
          (J1.stop j H ∧ Nx H) ∨ (J1.go j H ∧ ∃ Nx1 : Hp → Prop, (∀ H', Nx1 H' → ∃ k', k' < k ∧ W1 (j + 1) k' H') ∧ ∀ x H', J1.yld j H x H' → g1 x (wipe σ2 vs1) H' fun σ3 H5 => wipe σ3 vs1 = wipe σ2 vs1 ∧ tt1 σ3 H5 fun b H6 =>
            if b = true then te σ3 H6 fun y H7 => ∃ acc, H7 D = some (.lst acc) ∧ acc.length < sizeLine ∧ Nx1 (upd H7 D (.lst (acc ++ [y]))) else Nx1 H6)
        else Nx H3) := by
  refine ⟨fun i m H => m + i = n ∧ Pv i H, ⟨n, rfl, start⟩, fun i m H ⟨e, p⟩ => ?_⟩
  have q := good i H (by omega) p
  rcases Nat.lt_or_ge i n with lt | ge
  · exact .inr ⟨wk.goes i H lt q, Pv (i + 1), fun H' p' => ⟨m - 1, by omega, by omega, p'⟩, fun x H' y => turn i x H H' lt p (wk.yields i H x H' lt q y)⟩
  · obtain rfl : i = n := by omega
    exact .inl ⟨wk.stops H q, fin H p⟩
theorem in_it (wk : Walk J1 n1 G1 Y1) {g1 : TG} {tt1 : TT} {te : TE} {vs1 : List Nat} {σ2 : L2.St} {H4 : Hp} {D : Addr} {Nx : Hp → Prop} (Pv : Nat → Hp → Prop) (start : Pv 0 H4) (good : ∀ i H, i ≤ n1 → Pv i H → G1 H)
    (turn : ∀ i x H H', i < n1 → Pv i H → Y1 i H x H' → g1 x (wipe σ2 vs1) H' fun σ3 H5 => wipe σ3 vs1 = wipe σ2 vs1 ∧ tt1 σ3 H5 fun b H6 =>
      if b = true then te σ3 H6 fun y H7 => ∃ acc, H7 D = some (.lst acc) ∧ acc.length < sizeLine ∧ Pv (i + 1) (upd H7 D (.lst (acc ++ [y]))) else Pv (i + 1) H6) (fin : ∀ H, Pv n1 H → Nx H) :
    ∃ W1 : Nat → Nat → Hp → Prop, (∃ m, W1 0 m H4) ∧ ∀ j k H, W1 j k H →
      (J1.stop j H ∧ Nx H) ∨ (J1.go j H ∧ ∃ Nx1 : Hp → Prop, (∀ H', Nx1 H' → ∃ k', k' < k ∧ W1 (j + 1) k' H') ∧ ∀ x H', J1.yld j H x H' → g1 x (wipe σ2 vs1) H' fun σ3 H5 => wipe σ3 vs1 = wipe σ2 vs1 ∧ tt1 σ3 H5 fun b H6 =>
        if b = true then te σ3 H6 fun y H7 => ∃ acc, H7 D = some (.lst acc) ∧ acc.length < sizeLine ∧ Nx1 (upd H7 D (.lst (acc ++ [y]))) else Nx1 H6) := by
  refine ⟨fun i m H => m + i = n1 ∧ Pv i H, ⟨n1, rfl, start⟩, fun i m H ⟨e, p⟩ => ?_⟩
  have q := good i H (by omega) p
  rcases Nat.lt_or_ge i n1 with lt | ge
  · exact .inr ⟨wk.goes i H lt q, Pv (i + 1), fun H' p' => ⟨m - 1, by omega, by omega, p'⟩, fun x H' y => turn i x H H' lt p (wk.yields i H x H' lt q y)⟩
  · obtain rfl : i = n1 := by omega
    exact .inl ⟨wk.stops H q, fin H p⟩
end
theorem pi_listK {X : Cx} {K : PySem.W.Frag} {tg l : Expr} {tl : TE} (hK : X.K = K) (hl : PE X l tl) : PI X tg l (iList K tl) := by
  subst hK
  exact pi_list hl
/-! ### dicts that are written with different keys -/
theorem putK_new : ∀ {kvs : List (Key × V)} {k : Key} {v : V}, (∀ x, x ∈ kvs → x.1 ≠ k) → putK kvs k v = kvs ++ [(k, v)] := fun {kvs k v} h => by
  unfold putK
  rw [if_neg]
  intro z
  obtain ⟨x, hx, e⟩ := List.any_eq_true.mp z
  exact h x hx (of_decide_eq_true e)
theorem merge_app : ∀ (more kvs : List (Key × V)), (∀ x, x ∈ more → ∀ y, y ∈ kvs → y.1 ≠ x.1) → (more.map (·.1)).Nodup → mergeK kvs more = kvs ++ more
  | [], kvs, _, _ => by unfold mergeK; simp
  | x :: more, kvs, h, nd => by
    have nd' := List.nodup_cons.mp nd
    have e : mergeK kvs (x :: more) = mergeK (putK kvs x.1 x.2) more := rfl
    rw [e, putK_new (h x List.mem_cons_self), merge_app more _ (fun z hz y hy => ?_) nd'.2, List.append_assoc]
    · rfl
    · rcases List.mem_append.mp hy with q | q
      · exact h z (List.mem_cons_of_mem _ hz) y q
      · cases List.mem_singleton.mp q
        intro e2
        exact nd'.1 (List.mem_map.mpr ⟨z, hz, e2.symm⟩)
theorem merge_keys {kvs : List (Key × V)} (nd : (kvs.map (·.1)).Nodup) : mergeK [] kvs = kvs := by
  rw [merge_app kvs [] (fun _ _ _ h => nomatch h) nd]
  rfl
end Rt
namespace Rt
open PySem PySem.Spec L2
open PyProof.Rows hiding St
/-! ### i if c else j, of two ints -/
def tIfI (t : TT) (i j : Int) : TE := fun σ H Q => t σ H fun c H1 => Q (.int (if c = true then i else j)) H1
theorem pe_ifInt {X : Cx} {c : Expr} {tA : TT} {i j : Int} {k1 k2 : Nat} {q1 q2 pos : Pos} (hc : PT X c tA) : PE X (.IfExp c (.Constant (.int i) k1 q1) (.Constant (.int j) k2 q2) pos) (tIfI tA i j) := by
  have h := pe_ifExp (pos := pos) hc (pe_int (X := X) (i := i) (j := k1) (pos := q1)) (pe_int (X := X) (i := j) (j := k2) (pos := q2))
  have e : tIfI tA i j = tIf tA (tC (V.int i)) (tC (V.int j)) := by
    funext σ H Q
    unfold tIfI tIf tC
    congr 1
    funext c H1
    cases c <;> rfl
  rw [e]
  exact h
end Rt
namespace Rt
open PySem PySem.Spec L2
open PyProof.Rows hiding St
/-! ### slots, written out anew -/
theorem name_step {i : Nat} {v : V} {σ σ' : L2.St} {H : Hp} {Q : L2.St → Hp → Prop} (h : σ.set i (some v) = σ') (k : Q σ' H) : gName i v σ H Q := by
  subst h
  exact k
end Rt
namespace L18
open PySem PySem.Spec L2 Rt Rs Ld
open PyProof.Rows hiding St

theorem big9000 {n : Nat} (h : n ≤ 9000) : n < sizeLine := by
  rw [sizeLine_eq]
  omega
section
variable {P : Program} {w : World} {K : PySem.W.Frag} {mg : Str → Option Value} {base : Heap} {f C : Addr} {fd : FuncData}

theorem scWith : FnScope ["lead", "times", "period", "row", "k", "value"] ["lead", "times"] (defScope sWith) := ⟨rfl, rfl, rfl, by decide +kernel, rfl, by decide +kernel, by decide +kernel⟩
theorem ok_with (F : Fun K "with_period" "with_period" sWith f fd) (T : Wds mg) (cn : ClsL K C) (M : MethL P w K mg base C) (mk : Mkr P w K mg base 5 C "Lead" (spInit C)) : FnOk P w K mg base CX0 7 f fd ["lead", "times"] (spWith C) := by
  refine F.ok scWith (fun vs H Q E h => ?_) (fun cdv A outer s H vs Q E hr h => ?_)
  · obtain ⟨a, t, L, F, rfl, _⟩ := h
    rfl
  · obtain ⟨a, t, L, F, rfl, la, oa, t0, tn, k⟩ := h
    have few := oa.few
    have n0 := oa.sem.n0
    have n1 := oa.n1
    have s0 := oa.sem.s0
    refine ⟨_, (pss_cons (ps_set (i := 2) scWith.nd rfl (.inr rfl) (pe_m0' cn.cls M.period hr (by decide) (pv 0)))
      (pss_cons (ps_setLc2 (i := 3) (own := [("k", 4), ("value", 5)]) (vs1 := [5]) rfl scWith.nd rfl rfl (sw_true rfl rfl rfl (by decide +kernel)) (pi_range1 (by rfl) T.zrange (pa_cons (pv 1) pa_nil)) (blkOk_by (N := ["lead", "times", "period", "row", "k", "value"]) (sc := defScope sWith) (by decide +kernel)) (by decide)
  (fun _ _ _ _ _ => (pg_name (i := 4) scWith.nd rfl (.inl rfl))) (fun _ _ _ _ _ => pts_nil) (fun _ _ _ _ _ => (pi_listK (K := K) rfl (pe_m0' cn.cls M.row hr (by decide) (pv 0)))) (fun _ _ _ _ _ => (pg_name (i := 5) scWith.nd rfl (.inl rfl))) (fun _ _ _ _ _ => pts_nil)
  (fun _ _ _ _ _ => (pe_op op_add (pv 5) (pe_op op_mul (pv 4) (pv 2)))))
      (pss_one (ps_ret (pe_mkr mk hr (by decide) (by rfl) (pa_cons (pe_m0' cn.cls M.start hr (by decide) (pv 0)) (pa_cons (pe_m0' cn.cls M.end_ hr (by decide) (pv 0)) (pa_cons (pe_op op_mul (pv 1) (pv 2)) (pa_cons (pv 3) pa_nil))))))))), ?_⟩
    obtain ⟨dx, fs, ia, a1, a2, a3, a4, a5⟩ := ld_ins la
    have ot := oa.times t0 tn
    have fewt := ot.few
    have t3600 : (t : Int) ≤ 3600 := by
      have : (t : Int) * 1 ≤ (t : Int) * L.n := Int.mul_le_mul_of_nonneg_left (by omega) (by omega)
      omega
    refine ⟨_, rfl, a, dx, fs, rfl, ia, a3, a, L, F, rfl, la, ?_⟩
    refine ⟨_, rfl, (t : Int), rfl, by omega, by omega, fun D nD => ?_⟩
    rw [Int.toNat_natCast]
    have whole : ∀ i : Nat, i ≤ t → ((List.range i).flatMap fun k => (rowOf L F).map (· + (k : Nat) * L.n)).length ≤ 3600 := fun i hi => by
      rw [oa.sem.row_times i, List.length_map, nums_len]
      have h1 : (i : Int) * L.n ≤ 3600 := by
        have : (i : Int) * L.n ≤ (t : Int) * L.n := Int.mul_le_mul_of_nonneg_right (by omega) (by omega)
        omega
      have h2 : 0 ≤ (i : Int) * L.n := Int.mul_nonneg (by omega) (by omega)
      have := Int.ediv_le_self L.s h2
      omega
    refine lc2_it walk_range (fun i H1 => Same H H1 ∧ H1 D = some (.lst (((List.range i).flatMap fun k => (rowOf L F).map (· + (k : Nat) * L.n)).map V.int))) ⟨same_new nD, upd_same⟩ (fun _ _ _ _ => True.intro) ?_ ?_
    · rintro i y H1 H1b hi ⟨s1, hD⟩ ⟨rfl, hy⟩
      have e0 : (0 : Int) + (i : Nat) = (i : Nat) := by omega
      have hy : y = V.int (i : Nat) := hy.trans (congrArg V.int e0)
      subst hy
      refine ⟨rfl, ?_⟩
      refine ⟨_, rfl, a, dx, fs, rfl, s1 _ _ ia, a4, a, L, F, rfl, la.same s1, fun p np => ?_⟩
      have s2 := s1.trans (same_new (H := H1b) (o := .lst ((rowOf L F).map V.int)) np)
      have hp := upd_same (H := H1b) (a := p) (o := .lst ((rowOf L F).map V.int))
      have pD : p ≠ D := ne_of_none hD np |>.symm
      have hD2 := (same_new (H := H1b) (o := .lst ((rowOf L F).map V.int)) np) _ _ hD
      refine ⟨p, rfl, ⟨_, SqL.of hp⟩, ?_⟩
      revert s2 hp hD2
      generalize upd H1b p (.lst ((rowOf L F).map V.int)) = H2
      intro s2 hp hD2
      refine in_it walk_list (fun j H3 => Same H H3 ∧ H3 p = some (.lst ((rowOf L F).map V.int)) ∧ H3 D = some (.lst ((((List.range i).flatMap fun k => (rowOf L F).map (· + (k : Nat) * L.n)) ++ ((rowOf L F).take j).map (· + (i : Nat) * L.n)).map V.int)))
        ⟨s2, hp, by rw [List.take_zero, List.map_nil, List.append_nil]; exact hD2⟩ (fun j H3 _ z => SqL.of z.2.1) ?_ ?_
      · rintro j y H3 H4 hj ⟨s3, hp3, hD3⟩ ⟨rfl, hy⟩
        rw [List.length_map, row_len] at hj
        obtain rfl : V.int (F (L.f % L.s + (j : Nat) * L.s)) = y := by
          rw [List.getElem?_map, row_at hj] at hy
          exact Option.some.inj hy
        have ap : ((((List.range i).flatMap fun k => (rowOf L F).map (· + (k : Nat) * L.n)) ++ ((rowOf L F).take j).map (· + (i : Nat) * L.n)).map V.int).length ≤ 9000 := by
          rw [List.length_map, List.length_append, List.length_map, List.length_take]
          have := whole i (Nat.le_of_lt hi)
          have := row_len L F
          omega
        refine ⟨rfl, _, rfl, _, rfl, _, rfl, _, _, rfl, rfl, .inr ⟨by omega, by omega⟩, _, _, rfl, rfl, _, hD3, big9000 ap, fun b o z => by rw [upd_ne (ne_of_none z nD)]; exact s3 b o z, by rw [upd_ne pD]; exact hp3, ?_⟩
        rw [upd_same, List.take_succ, row_at hj]
        simp only [Option.toList_some, List.map_append, List.map_cons, List.map_nil, List.append_assoc]
      · rintro H3 ⟨s3, hp3, hD3⟩
        refine ⟨s3, ?_⟩
        rw [List.take_of_length_le (by rw [List.length_map (f := V.int)]; exact Nat.le_refl _)] at hD3
        rw [List.range_succ, List.flatMap_append, List.flatMap_cons, List.flatMap_nil, List.append_nil]
        exact hD3
    · rintro H1 ⟨s1, hD⟩
      rw [oa.sem.row_times t] at hD
      refine ⟨_, rfl, a, dx, fs, rfl, s1 _ _ ia, a1, a, L, F, rfl, la.same s1, fun sa2 hsa2 => ?_⟩
      refine ⟨_, rfl, a, dx, fs, rfl, s1 _ _ ia, a2, a, L, F, rfl, la.same s1, fun ea2 hea2 => ?_⟩
      refine ⟨_, rfl, _, rfl, _, _, rfl, rfl, .inl ⟨by omega, by omega⟩, _, rfl, fun x dxx nx ndx ne => ?_⟩
      exact mk_ok (L := timesL L t) nx ndx ne hD hsa2 hea2 ot fun H5 s5 ld => k x H5 (s1.trans s5) ld
end
end L18
namespace Ld
open Rs
theorem upv_least {f s x z : Int} (h : 0 < s) (le : x ≤ z) (on : (z - f) % s = 0) : upv f s x ≤ z := Rise.upc_least h le on
theorem upv_mono {f s x y : Int} (h : 0 < s) (le : x ≤ y) : upv f s x ≤ upv f s y := upv_least h (Int.le_trans le (upv_le h)) (upv_on f s y)
theorem upv_add {f s x n : Int} (h : 0 < s) (d : s ∣ n) : upv f s (x + n) = upv f s x + n := by
  have a : upv f s (x + n) ≤ upv f s x + n := upv_least h (by have := upv_le (f := f) (x := x) h; omega) (on_add d (upv_on f s x))
  have b : upv f s x ≤ upv f s (x + n) + -n := upv_least h (by have := upv_le (f := f) (x := x + n) h; omega) (on_add (Int.dvd_neg.mpr d) (upv_on f s (x + n)))
  omega
/-- rows of the first kind: the lead of a rule -/
theorem sem_up {f s g r n c : Int} (s0 : 0 < s) (r0 : 0 < r) (n0 : 0 < n) (sd : s ∣ n) (rd : r ∣ n) : Sem f s g r n (fun v => upv g r (v + c)) :=
  ⟨s0, r0, n0, sd, rd, fun v _ => upv_on _ _ _, fun v u _ _ le => upv_mono r0 (by omega), fun v _ => by
    show upv g r (v + n + c) = upv g r (v + c) + n
    rw [show v + n + c = v + c + n by omega]
    exact upv_add r0 rd⟩
theorem floor_mono {n v u : Int} (n0 : 0 < n) (le : v ≤ u) : v - v % n ≤ u - u % n := by
  have a := Int.emod_add_mul_ediv v n
  have b := Int.emod_add_mul_ediv u n
  have q : v / n ≤ u / n := Int.ediv_le_ediv n0 le
  have m : n * (v / n) ≤ n * (u / n) := Int.mul_le_mul_of_nonneg_left q (by omega)
  omega
/-- rows of the second kind: one number -/
theorem sem_flat {f s g r n c : Int} (s0 : 0 < s) (r0 : 0 < r) (n0 : 0 < n) (sd : s ∣ n) (rd : r ∣ n) (hc : (c - g) % r = 0) : Sem f s g r n (fun v => c + (v - v % n)) := by
  refine ⟨s0, r0, n0, sd, rd, fun v _ => ?_, fun v u _ _ le => ?_, fun v _ => ?_⟩
  · show (c + (v - v % n) - g) % r = 0
    have a := Int.emod_add_mul_ediv v n
    rw [show v - v % n = v / n * n by rw [Int.mul_comm]; omega]
    exact on_mul rd hc
  · show c + (v - v % n) ≤ c + (u - u % n)
    have := floor_mono n0 le
    omega
  · show c + (v + n - (v + n) % n) = c + (v - v % n) + n
    rw [Int.add_emod_right]
    omega
/-- rows of any kind -/
structure Rok (f s g r n : Int) (row : List Int) : Prop where
  s0 : 0 < s
  r0 : 0 < r
  n0 : 0 < n
  sd : s ∣ n
  rd : r ∣ n
  len : row.length = (n / s).toNat
  on : ∀ x, x ∈ row → (x - g) % r = 0
  mono : row.Pairwise (· ≤ ·)
  top : ∀ x y, x ∈ row → y ∈ row → y ≤ x + n
theorem pairwise_get {l : List Int} (h : l.Pairwise (· ≤ ·)) {i j : Nat} (hj : j < l.length) (le : i ≤ j) : l[i]'(by omega) ≤ l[j] := by
  rcases Nat.lt_or_eq_of_le le with lt | rfl
  · exact List.pairwise_iff_getElem.mp h i j (by omega) hj lt
  · exact Int.le_refl _
theorem place_of {f s n v : Int} (s0 : 0 < s) (n0 : 0 < n) (sd : s ∣ n) (hv : (v - f) % s = 0) : ∃ i : Nat, i < (n / s).toNat ∧ v % n / s = (i : Int) ∧ v % n = f % s + (i : Nat) * s := by
  have m0 := Int.emod_nonneg v (show n ≠ 0 by omega)
  have m1 := Int.emod_lt_of_pos v n0
  obtain ⟨i, hi, ei⟩ := List.getElem_of_mem ((mem_nums s0 sd).mpr ⟨m0, m1, on_rest sd hv⟩)
  have hi' : i < (n / s).toNat := by rw [nums_len] at hi; exact hi
  have at_ := nums_at (f := f) hi'
  rw [List.getElem?_eq_getElem hi, ei] at at_
  have ev : v % n = f % s + (i : Int) * s := Option.some.inj at_
  have r0 := Int.emod_nonneg f (show s ≠ 0 by omega)
  have r1 := Int.emod_lt_of_pos f s0
  refine ⟨i, hi', ?_, ev⟩
  rw [ev, Int.add_mul_ediv_right _ _ (by omega), Int.ediv_eq_zero_of_lt r0 r1]
  omega
theorem Rok.val {f s g r n : Int} {row : List Int} (h : Rok f s g r n row) {v : Int} (hv : (v - f) % s = 0) : ∃ (i : Nat) (hi : i < row.length), v % n = f % s + (i : Nat) * s ∧ valL s n row v = row[i] + (v - v % n) := by
  obtain ⟨i, hi, e1, e2⟩ := place_of h.s0 h.n0 h.sd hv
  have hi' : i < row.length := by rw [h.len]; exact hi
  refine ⟨i, hi', e2, ?_⟩
  unfold valL
  rw [e1, Int.toNat_natCast, List.getD_eq_getElem?_getD, List.getElem?_eq_getElem hi']
  rfl
theorem Rok.sem {f s g r n : Int} {row : List Int} (h : Rok f s g r n row) : Sem f s g r n (valL s n row) ∧ (nums f s n).map (valL s n row) = row := by
  have n0 := h.n0
  have s0 := h.s0
  refine ⟨⟨h.s0, h.r0, h.n0, h.sd, h.rd, fun v hv => ?_, fun v u hv hu le => ?_, fun v hv => ?_⟩, ?_⟩
  · obtain ⟨i, hi, _, e⟩ := h.val hv
    rw [e]
    have a := Int.emod_add_mul_ediv v n
    rw [show v - v % n = v / n * n by rw [Int.mul_comm]; omega]
    exact on_mul h.rd (h.on _ (List.getElem_mem hi))
  · obtain ⟨i, hi, ei, e⟩ := h.val hv
    obtain ⟨j, hj, ej, e'⟩ := h.val hu
    rw [e, e']
    have a := Int.emod_add_mul_ediv v n
    have b := Int.emod_add_mul_ediv u n
    have q : v / n ≤ u / n := Int.ediv_le_ediv n0 le
    rcases Int.lt_or_eq_of_le q with lt | eq
    · have m : n * (v / n + 1) ≤ n * (u / n) := Int.mul_le_mul_of_nonneg_left (by omega) (by omega)
      rw [Int.mul_add, Int.mul_one] at m
      have := h.top _ _ (List.getElem_mem hj) (List.getElem_mem hi)
      omega
    · rw [eq] at a
      have le' : v % n ≤ u % n := by omega
      have ij : i ≤ j := by
        rcases Nat.lt_or_ge j i with z | z
        · have : ((j : Int) + 1) * s ≤ (i : Int) * s := Int.mul_le_mul_of_nonneg_right (by omega) (by omega)
          rw [Int.add_mul, Int.one_mul] at this
          omega
        · exact z
      have := pairwise_get h.mono hj ij
      omega
  · obtain ⟨i, hi, ei, e⟩ := h.val hv
    obtain ⟨j, hj, ej, e'⟩ := h.val (on_add h.sd hv)
    rw [e, e']
    rw [Int.add_emod_right] at ej e' ⊢
    have ij : i = j := by
      have : (i : Int) * s = (j : Int) * s := by omega
      have := Int.eq_of_mul_eq_mul_right (show s ≠ 0 by omega) this
      omega
    subst ij
    omega
  · refine List.ext_getElem (by rw [List.length_map, nums_len, h.len]) fun i h1 h2 => ?_
    rw [List.getElem_map]
    rw [List.length_map, nums_len] at h1
    have at_ := nums_at (f := f) h1
    have hi1 : i < (nums f s n).length := by rw [nums_len]; exact h1
    rw [List.getElem?_eq_getElem hi1] at at_
    have ev := Option.some.inj at_
    have m := (mem_nums s0 h.sd).mp (List.getElem_mem hi1)
    obtain ⟨j, hj, ej, e⟩ := h.val m.2.2
    rw [e]
    have em : (nums f s n)[i] % n = (nums f s n)[i] := Int.emod_eq_of_lt m.1 m.2.1
    rw [em] at ej ⊢
    have ij : i = j := by
      have : (i : Int) * s = (j : Int) * s := by omega
      have := Int.eq_of_mul_eq_mul_right (show s ≠ 0 by omega) this
      omega
    subst ij
    omega
end Ld
namespace L18
open PySem PySem.Spec L2 Rt Rs Ld
open PyProof.Rows hiding St
open SrtO

abbrev sRow : Stmt := top 38
abbrev sLead : Stmt := top 39
abbrev sPas : Stmt := top 40
abbrev sLike : Stmt := top 41
/-- the clocks of a lead, and its period, as a law draws them -/
structure PerOk (L : LP) : Prop where
  s0 : 0 < L.s
  s1 : L.s ≤ 60
  r0 : 0 < L.r
  r1 : L.r ≤ 60
  n0 : 0 < L.n
  n1 : L.n ≤ 60
  sd : L.s ∣ L.n
  rd : L.r ∣ L.n
structure Sml (L : LP) (F : Int → Int) : Prop where
  sm : ∀ v, v ∈ nums L.f L.s L.n → (F v).natAbs ≤ 5000
def ldK (sa ea : Addr) (n : Int) (ra x : Addr) : List (Key × V) := [(Sum.inr "start", .ref sa), (Sum.inr "end", .ref ea), (Sum.inr "period", .int n), (Sum.inr "row", .ref ra), (Sum.inr "made", .ref x)]
theorem kn_se : ¬ (("start" : Str) = "end") := by decide +kernel
theorem kn_sp : ¬ (("start" : Str) = "period") := by decide +kernel
theorem kn_sr : ¬ (("start" : Str) = "row") := by decide +kernel
theorem kn_sm : ¬ (("start" : Str) = "made") := by decide +kernel
theorem kn_ep : ¬ (("end" : Str) = "period") := by decide +kernel
theorem kn_er : ¬ (("end" : Str) = "row") := by decide +kernel
theorem kn_em : ¬ (("end" : Str) = "made") := by decide +kernel
theorem kn_pr : ¬ (("period" : Str) = "row") := by decide +kernel
theorem kn_pm : ¬ (("period" : Str) = "made") := by decide +kernel
theorem kn_rm : ¬ (("row" : Str) = "made") := by decide +kernel
section
variable {sa ea ra x : Addr} {n : Int} {r : List (Key × V)}
theorem w_start : valV (((Sum.inr "start" : Key), V.ref sa) :: r) (Sum.inr ("start" : Str)) = some (V.ref sa) := valV_pos rfl
theorem w_end : valV (((Sum.inr "start" : Key), V.ref sa) :: (Sum.inr "end", .ref ea) :: r) (Sum.inr ("end" : Str)) = some (V.ref ea) := by rw [valV_neg (ne_inr kn_se), valV_pos rfl]
theorem w_period : valV (((Sum.inr "start" : Key), V.ref sa) :: (Sum.inr "end", .ref ea) :: (Sum.inr "period", .int n) :: r) (Sum.inr ("period" : Str)) = some (V.int n) := by rw [valV_neg (ne_inr kn_sp), valV_neg (ne_inr kn_ep), valV_pos rfl]
theorem w_row : valV (((Sum.inr "start" : Key), V.ref sa) :: (Sum.inr "end", .ref ea) :: (Sum.inr "period", .int n) :: (Sum.inr "row", .ref ra) :: r) (Sum.inr ("row" : Str)) = some (V.ref ra) := by
  rw [valV_neg (ne_inr kn_sr), valV_neg (ne_inr kn_er), valV_neg (ne_inr kn_pr), valV_pos rfl]
theorem w_made : valV (ldK sa ea n ra x) (Sum.inr ("made" : Str)) = some (V.ref x) := by
  unfold ldK
  rw [valV_neg (ne_inr kn_sm), valV_neg (ne_inr kn_em), valV_neg (ne_inr kn_pm), valV_neg (ne_inr kn_rm), valV_pos rfl]
end
theorem merge5 {sa ea ra x : Addr} {n : Int} : mergeK [] (ldK sa ea n ra x) = ldK sa ea n ra x := merge_keys (by
  have h1 := ne_inr kn_se; have h2 := ne_inr kn_sp; have h3 := ne_inr kn_sr; have h4 := ne_inr kn_sm; have h5 := ne_inr kn_ep
  have h6 := ne_inr kn_er; have h7 := ne_inr kn_em; have h8 := ne_inr kn_pr; have h9 := ne_inr kn_pm; have h10 := ne_inr kn_rm
  unfold ldK
  simp [h1, h2, h3, h4, h5, h6, h7, h8, h9, h10])
theorem merge4 {sa ea ra : Addr} {n : Int} : mergeK [] [(Sum.inr "start", .ref sa), (Sum.inr "end", .ref ea), (Sum.inr "period", .int n), (Sum.inr "row", .ref ra)] = [((Sum.inr "start" : Key), V.ref sa), (Sum.inr "end", .ref ea), (Sum.inr "period", .int n), (Sum.inr "row", .ref ra)] := merge_keys (by
  have h1 := ne_inr kn_se; have h2 := ne_inr kn_sp; have h3 := ne_inr kn_sr; have h5 := ne_inr kn_ep; have h6 := ne_inr kn_er; have h8 := ne_inr kn_pr
  simp [h1, h2, h3, h5, h6, h8])
/-- a drawn lead: the dict and the object -/
structure DM (H : Hp) (C D : Addr) (L : LP) (F : Int → Int) : Prop where
  ex : ∃ sa ea ra x, H D = some (.dK (ldK sa ea L.n ra x)) ∧ H sa = some (.tup [.int L.f, .int L.s]) ∧ H ea = some (.tup [.int L.g, .int L.r]) ∧ H ra = some (.lst ((rowOf L F).map V.int)) ∧ LdAt H C x L F
theorem DM.same {H H' : Hp} {C D : Addr} {L : LP} {F : Int → Int} (h : DM H C D L F) (s : Same H H') : DM H' C D L F := by
  obtain ⟨sa, ea, ra, x, h0, h1, h2, h3, h4⟩ := h.ex
  exact ⟨sa, ea, ra, x, s _ _ h0, s _ _ h1, s _ _ h2, s _ _ h3, h4.same s⟩
theorem DM.dl {H : Hp} {C D : Addr} {L : LP} {F : Int → Int} (h : DM H C D L F) : DL H D L.f L.s L.g L.r L.n (rowOf L F) := by
  obtain ⟨sa, ea, ra, x, h0, h1, h2, h3, h4⟩ := h.ex
  exact ⟨_, sa, ea, ra, h0, w_start, w_end, w_period, w_row, h1, h2, h3⟩
def spRow : Sp := fun vs H Q _ => ∃ (d c sa ea : Addr) (L : LP), vs = [.ref d, .ref sa, .ref ea, .int L.n] ∧ Src H d c ∧ H sa = some (.tup [.int L.f, .int L.s]) ∧ H ea = some (.tup [.int L.g, .int L.r]) ∧ PerOk L ∧
  ∀ (p : Addr) (F : Int → Int) (H' : Hp), mask d c H' p = some (.lst ((rowOf L F).map V.int)) → LOk L F → Sml L F → Src H' d c → Keep d c H H' → Q (.ref p) H'
def spLead (C : Addr) : Sp := fun vs H Q _ => ∃ (d c sa ea : Addr) (L : LP), vs = [.ref d, .ref sa, .ref ea, .int L.n] ∧ Src H d c ∧ H sa = some (.tup [.int L.f, .int L.s]) ∧ H ea = some (.tup [.int L.g, .int L.r]) ∧ PerOk L ∧
  ∀ (D : Addr) (F : Int → Int) (H' : Hp), DM (mask d c H') C D L F → LOk L F → Sml L F → Src H' d c → Keep d c H H' → Q (.ref D) H'
def spPas : Sp := fun vs H Q _ => ∃ (d c : Addr), vs = [.ref d] ∧ Src H d c ∧ ∀ (t p : Addr) (n : Int) (ss : List Int) (H' : Hp), mask d c H' t = some (.tup [.int n, .ref p]) → mask d c H' p = some (.lst (ss.map V.int)) → 0 < n → n ≤ 60 → 0 < ss.length → ss.length < 100 → (∀ s, s ∈ ss → 0 < s ∧ s ≤ 60 ∧ s ∣ n) →
  Src H' d c → Keep d c H H' → Q (.ref t) H'
structure Big (L : LP) (F : Int → Int) : Prop where
  f : L.f.natAbs < 10 ^ 40
  g : L.g.natAbs < 10 ^ 40
  v : ∀ v, v ∈ nums L.f L.s L.n → (F v).natAbs < 10 ^ 38
def spLike (C : Addr) : Sp := fun vs H Q _ => ∃ (D x : Addr) (L : LP) (F : Int → Int), vs = [.ref D, .ref x] ∧ DL H D L.f L.s L.g L.r L.n (rowOf L F) ∧ LdAt H C x L F ∧ LOk L F ∧ Big L F ∧ ∀ H', Same H H' → Q (.bl true) H'
theorem menu_small {z : Int} (h : z ∈ ([1, 2, 6, 6, 8, 12, 12, 15, 20, 24, 60] : List Int)) : 0 < z ∧ z ≤ 60 := by
  simp only [List.mem_cons, List.not_mem_nil, or_false] at h
  rcases h with e | e | e | e | e | e | e | e | e | e | e <;> subst e <;> decide
theorem rep_one {n : Nat} {v : V} : (List.replicate n [v]).flatten = List.replicate n v := by
  induction n with
  | zero => rfl
  | succ n ih => rw [List.replicate_succ, List.flatten_cons, ih]; rfl
theorem steps_filter (n : Nat) : ∀ s, s ∈ ((List.range n).map fun i => ((1 : Int) + (i : Nat))).filter (fun s => decide ((n : Int) % s = 0)) → 0 < s ∧ s ≤ n ∧ s ∣ (n : Int) := fun s m => by
  obtain ⟨m1, m2⟩ := List.mem_filter.mp m
  obtain ⟨i, hi, rfl⟩ := List.mem_map.mp m1
  rw [List.mem_range] at hi
  exact ⟨by omega, by omega, Int.dvd_of_emod_eq_zero (of_decide_eq_true m2)⟩
section
variable {P : Program} {w : World} {K : PySem.W.Frag} {mg : Str → Option Value} {base : Heap} {f C : Addr} {fd : FuncData}

theorem scPas : FnScope ["source", "period", "step"] ["source"] (defScope sPas) := ⟨rfl, rfl, rfl, by decide +kernel, rfl, by decide +kernel, by decide +kernel⟩
theorem ok_pas (F : Fun K "_law_period_and_steps" "_law_period_and_steps" sPas f fd) (T : Wds mg) (cO : Cb P w K mg base 2 "_law_of" spOf) : FnG P w K mg base 3 f fd ["source"] spPas := by
  refine okG F scPas (fun vs H Q E h => ?_) (fun cdv A outer s H vs Q E hg hr h => ?_)
  · obtain ⟨d, c, rfl, _⟩ := h
    rfl
  · obtain ⟨d, c, rfl, S, k⟩ := h
    refine ⟨_, (pss_cons (ps_set (i := 1) scPas.nd rfl (.inr rfl) (pe_k cO hg hr (by decide) (by rfl) (pa_cons (pv 0) (pa_cons (pe_lst (pa_cons pe_int (pa_cons pe_int (pa_cons pe_int (pa_cons pe_int (pa_cons pe_int (pa_cons pe_int (pa_cons pe_int (pa_cons pe_int (pa_cons pe_int (pa_cons pe_int (pa_cons pe_int pa_nil)))))))))))) pa_nil))))
      (pss_one (ps_ret (pe_tup (pa_cons (pv 1) (pa_cons (pe_lc (own := [("step", 2)]) (by rfl) scPas.nd (pi_range2 (by rfl) T.zrange (pa_cons pe_int (pa_cons (pe_op op_add (pv 1) pe_int) pa_nil))) (blkOk_by (N := ["source", "period", "step"]) (sc := defScope sPas) (by decide +kernel)) (fun _ _ _ _ _ => (pg_name (i := 2) scPas.nd rfl (.inl rfl))) (fun _ _ _ _ _ => (pts_one (pt_cmpR op_eq (pe_op op_mod (pe_callTy call_int1 (by rfl) T.zint (by decide +kernel) (pa_cons (pv 1) pa_nil)) (pv 2)) pe_int (nomark _)))) (fun _ _ _ _ _ => (pv 2))) pa_nil)))))), ?_⟩
    refine ⟨_, rfl, (by show 11 ≤ sizeLine; decide), fun q nq => ?_⟩
    refine ⟨d, c, q, ([1, 2, 6, 6, 8, 12, 12, 15, 20, 24, 60] : List Int).map V.int, rfl, S.new nq, upd_same, (S.away nq).2, (by show 0 < 11; decide), (by show 11 < 1000000000; decide), fun i v H1 hi S1 k1 => ?_⟩
    obtain ⟨z, hz, rfl⟩ := int_at hi
    obtain ⟨z0, z1⟩ := menu_small (List.mem_of_getElem? hz)
    obtain ⟨n, rfl⟩ := Int.eq_ofNat_of_zero_le (show 0 ≤ z by omega)
    have k2 := (Keep.refl.new (d := d) (c := c) (o := .lst (([1, 2, 6, 6, 8, 12, 12, 15, 20, 24, 60] : List Int).map V.int)) nq).trans k1
    refine ⟨_, rfl, _, rfl, _, _, rfl, rfl, 1, (n : Int) + 1, rfl, ⟨by omega, by omega, by omega, by omega⟩, fun D nD => ?_⟩
    rw [show ((n : Int) + 1 - 1).toNat = n by omega]
    have aD := S1.away nD
    refine lc_range (lo := 1) (fun i H2 => Same H1 H2 ∧ H2 D = some (.lst ((((List.range i).map fun i => ((1 : Int) + (i : Nat))).filter fun s => decide ((n : Int) % s = 0)).map V.int))) ⟨same_new nD, upd_same⟩ ?_ ?_
    · rintro i H2 hi ⟨s2, hD⟩
      refine ⟨rfl, _, rfl, .inl ⟨_, rfl, _, rfl, _, _, rfl, rfl, (by omega : (0 : Int) < 1 + (i : Nat)), ?_⟩⟩
      refine ⟨rfl, _, rfl, ?_⟩
      rw [dec_V]
      have step : ((List.range (i + 1)).map fun i => ((1 : Int) + (i : Nat))) = ((List.range i).map fun i => ((1 : Int) + (i : Nat))) ++ [(1 : Int) + (i : Nat)] := by
        rw [List.range_succ, List.map_append]
        rfl
      by_cases e : (n : Int) % (1 + (i : Nat)) = 0
      · rw [decide_eq_true e]
        refine iteT ⟨_, rfl, _, hD, small1000 ?_, fun b o z => by rw [upd_ne (ne_of_none z nD)]; exact s2 b o z, ?_⟩
        · rw [List.length_map]
          refine Nat.le_trans (List.length_filter_le _ _) ?_
          rw [List.length_map, List.length_range]
          omega
        · rw [upd_same, step, List.filter_append, List.map_append]
          simp only [List.filter_cons, decide_eq_true e, if_true, List.filter_nil]
          rfl
      · rw [decide_eq_false e]
        refine iteF ⟨s2, ?_⟩
        rw [step, List.filter_append]
        simp only [List.filter_cons, decide_eq_false e, List.filter_nil, List.append_nil, Bool.false_eq_true, if_false]
        exact hD
    · rintro H2 ⟨s2, hD⟩
      refine ⟨(by show 2 ≤ sizeLine; decide), fun t nt => ?_⟩
      have S2 := S1.same s2
      have one : (1 : Int) ∈ ((List.range n).map fun i => ((1 : Int) + (i : Nat))).filter fun s => decide ((n : Int) % s = 0) := List.mem_filter.mpr ⟨List.mem_map.mpr ⟨0, List.mem_range.mpr (by omega), rfl⟩, decide_eq_true (Int.emod_one _)⟩
      refine k t D n _ _ (mask_at (S2.away nt) upd_same) (mask_at aD ((same_new nt) _ _ hD)) (by omega) (by omega) (List.length_pos_of_mem one) ?_ (fun s m => ?_) (S2.new nt) ((k2.trans (Keep.of s2)).new nt)
      · refine Nat.lt_of_le_of_lt (List.length_filter_le _ _) ?_
        rw [List.length_map, List.length_range]
        omega
      · obtain ⟨h1, h2, h3⟩ := steps_filter n s m
        exact ⟨h1, by omega, h3⟩
theorem scRow : FnScope ["source", "start", "end", "period", "many", "base", "way", "room", "some", "v", "lap", "k"] ["source", "start", "end", "period"] (defScope sRow) := ⟨rfl, rfl, rfl, by decide +kernel, rfl, by decide +kernel, by decide +kernel⟩
theorem ok_row (F : Fun K "_law_row" "_law_row" sRow f fd) (T : Wds mg) (cP : Cb P w K mg base 1 "_law_pick" spPick) (cO : Cb P w K mg base 2 "_law_of" spOf) (cN : Cb P w K mg base 1 "_law_numbers" spNumbers) (cU : Cb P w K mg base 1 "_law_up" spLUp) : FnG P w K mg base 3 f fd ["source", "start", "end", "period"] spRow := by
  refine okG F scRow (fun vs H Q E h => ?_) (fun cdv A outer s H vs Q E hg hr h => ?_)
  · obtain ⟨d, c, sa, ea, L, rfl, _⟩ := h
    rfl
  · obtain ⟨d, c, sa, ea, L, rfl, S, hs, he, per, k⟩ := h
    have s0 := per.s0
    have s1 := per.s1
    have r0 := per.r0
    have r1 := per.r1
    have n0 := per.n0
    have n1 := per.n1
    have hu64 := hr.units
    refine ⟨_, (pss_cons (ps_asg (pe_tup (pa_cons (pe_callB call_len_seq (by rfl) T.zlen (by decide +kernel) (pa_cons (pe_k cN hg hr (by decide) (by rfl) (pa_cons (pv 1) (pa_cons (pv 3) pa_nil))) pa_nil)) (pa_cons (pe_k cU hg hr (by decide) (by rfl) (pa_cons (pv 2) (pa_cons (pe_op op_sub (pe_k cP hg hr (by decide) (by rfl) (pa_cons (pv 0) (pa_cons pe_int pa_nil))) pe_int) pa_nil))) pa_nil))) (pg_tup (by rfl) (pgs_cons (pg_name (i := 4) scRow.nd rfl (.inl rfl)) (pgs_cons (pg_name (i := 5) scRow.nd rfl (.inr rfl)) pgs_nil))))
      (pss_cons (ps_asg (pe_tup (pa_cons (pe_k cP hg hr (by decide) (by rfl) (pa_cons (pv 0) (pa_cons pe_int pa_nil))) (pa_cons (pe_op op_fdiv (pe_callTy call_int1 (by rfl) T.zint (by decide +kernel) (pa_cons (pv 3) pa_nil)) (pe_ix (ix_tup : IxR _ (rIxT K)) (pv 2) pe_int (fun _ _ => rfl))) pa_nil))) (pg_tup (by rfl) (pgs_cons (pg_name (i := 6) scRow.nd rfl (.inl rfl)) (pgs_cons (pg_name (i := 7) scRow.nd rfl (.inr rfl)) pgs_nil))))
      (pss_cons (ps_if (pt_cmpR op_eq (pv 6) pe_int (nomark _)) (pss_one (ps_ret (pe_lc (own := [("v", 9)]) (by rfl) scRow.nd (pi_list (pe_k cN hg hr (by decide) (by rfl) (pa_cons (pv 1) (pa_cons (pv 3) pa_nil)))) (blkOk_by (N := ["source", "start", "end", "period", "many", "base", "way", "room", "some", "v", "lap", "k"]) (sc := defScope sRow) (by decide +kernel)) (fun _ _ _ _ _ => (pg_name (i := 9) scRow.nd rfl (.inl rfl))) (fun _ _ _ _ _ => pts_nil) (fun _ _ _ _ _ => (pe_k cU hg hr (by decide) (by rfl) (pa_cons (pv 2) (pa_cons (pe_op op_add (pv 9) (pv 5)) pa_nil))))))) pss_nil)
      (pss_cons (ps_if (pt_cmpR op_eq (pv 6) pe_int (nomark _)) (pss_one (ps_ret (pe_op op_rep (pe_lst (pa_cons (pe_op op_add (pv 5) (pe_op op_mul (pe_ix (ix_tup : IxR _ (rIxT K)) (pv 2) pe_int (fun _ _ => rfl)) (pe_k cO hg hr (by decide) (by rfl) (pa_cons (pv 0) (pa_cons (pe_lst (pa_cons pe_int (pa_cons (pv 7) pa_nil))) pa_nil))))) pa_nil)) (pv 4)))) pss_nil)
      (pss_cons (ps_set (i := 8) scRow.nd rfl (.inl rfl) (pe_callB cr_sortedI (by rfl) T.zsorted (by decide +kernel) (pa_cons (pe_lc (own := [("lap", 10)]) (by rfl) scRow.nd (pi_range1 (by rfl) T.zrange (pa_cons (pv 4) pa_nil)) (blkOk_by (N := ["source", "start", "end", "period", "many", "base", "way", "room", "some", "v", "lap", "k"]) (sc := defScope sRow) (by decide +kernel)) (fun _ _ _ _ _ => (pg_name (i := 10) scRow.nd rfl (.inl rfl))) (fun _ _ _ _ _ => pts_nil) (fun _ _ _ _ _ => (pe_k cP hg hr (by decide) (by rfl) (pa_cons (pv 0) (pa_cons (pe_op op_add (pv 7) pe_int) pa_nil))))) pa_nil)))
      (pss_one (ps_ret (pe_lc (own := [("k", 11)]) (by rfl) scRow.nd (pi_list (pv 8)) (blkOk_by (N := ["source", "start", "end", "period", "many", "base", "way", "room", "some", "v", "lap", "k"]) (sc := defScope sRow) (by decide +kernel)) (fun _ _ _ _ _ => (pg_name (i := 11) scRow.nd rfl (.inl rfl))) (fun _ _ _ _ _ => pts_nil) (fun _ _ _ _ _ => (pe_op op_add (pv 5) (pe_op op_mul (pe_ix (ix_tup : IxR _ (rIxT K)) (pv 2) pe_int (fun _ _ => rfl)) (pv 11)))))))))))), ?_⟩
    obtain ⟨n, en⟩ := Int.eq_ofNat_of_zero_le (show 0 ≤ L.n by omega)
    have ms := mask_at (S.nd hs) hs
    have me := mask_at (S.nd he) he
    -- many, base
    refine ⟨_, rfl, _, rfl, sa, L.f, L.s, n, by rw [en]; rfl, hs, s0, s1, by rw [← en]; exact per.sd, by omega, fun p H1 np s01 hp => ?_⟩
    rw [← en] at hp
    have S1 := S.same s01
    have lenp : ((nums L.f L.s L.n).map V.int).length = (L.n / L.s).toNat := by rw [List.length_map, nums_len]
    refine ⟨p, _, rfl, .inl (SqL.of hp), _, rfl, _, rfl, d, c, 61, rfl, S1, by decide, fun b0 H2 b00 b01 S2 k2 => ?_⟩
    have g2 : Same (mask d c H) (mask d c H2) := (sub_same s01).trans (mask_keep k2)
    have K2 : Keep d c H H2 := (Keep.of s01).trans k2
    rw [lenp]
    refine ⟨_, _, rfl, rfl, ea, L.g, L.r, _, rfl, mask_same _ _ (g2 _ _ me), r0, by omega, ?_⟩
    have bb1 := upv_le (f := L.g) (x := b0 - 30) r0
    have bb2 := upv_lt (f := L.g) (x := b0 - 30) r0
    have bb3 := upv_on L.g L.r (b0 - 30)
    revert bb1 bb2 bb3
    generalize upv L.g L.r (b0 - 30) = base0
    intro bb1 bb2 bb3
    refine ⟨(by show 2 ≤ sizeLine; decide), fun tp ntp => ?_⟩
    refine ⟨tp, _, rfl, SqT.of upd_same, rfl, _, _, rfl, _, _, rfl, rfl, ?_⟩
    have S3 := S2.new (o := .tup [.int ((L.n / L.s).toNat : Nat), .int base0]) ntp
    have g3 := g2.trans (mask_new (d := d) (c := c) (o := .tup [.int ((L.n / L.s).toNat : Nat), .int base0]) ntp)
    have K3 := K2.new (o := .tup [.int ((L.n / L.s).toNat : Nat), .int base0]) ntp
    revert S3 g3 K3
    generalize upd H2 tp (.tup [.int ((L.n / L.s).toNat : Nat), .int base0]) = H3
    intro S3 g3 K3
    -- way, room
    refine ⟨_, rfl, d, c, 4, rfl, S3, by decide, fun way H4 w0 w1 S4 k4 => ?_⟩
    have g4 := g3.trans (mask_keep k4)
    have K4 := K3.trans k4
    refine ⟨_, rfl, .inl ⟨_, rfl, _, rfl, ea, _, _, _, rfl, rfl, SqT.of (mask_same _ _ (g4 _ _ me)), at1, _, _, rfl, rfl, ⟨r0, by omega⟩, ?_⟩⟩
    dsimp only
    have rm : L.r * (L.n / L.r) = L.n := Int.mul_ediv_cancel' per.rd
    have rm0 : 0 ≤ L.n / L.r := Int.ediv_nonneg (by omega) (by omega)
    have rm1 : L.n / L.r ≤ 60 := Int.le_trans (Int.ediv_le_self _ (by omega)) n1
    revert rm rm0 rm1
    generalize L.n / L.r = room
    intro rm rm0 rm1
    refine ⟨(by show 2 ≤ sizeLine; decide), fun t2 nt2 => ?_⟩
    refine ⟨t2, _, rfl, SqT.of upd_same, rfl, _, _, rfl, _, _, rfl, rfl, ?_⟩
    have S5 := S4.new (o := .tup [.int way, .int room]) nt2
    have g5 := g4.trans (mask_new (d := d) (c := c) (o := .tup [.int way, .int room]) nt2)
    have K5 := K4.new (o := .tup [.int way, .int room]) nt2
    revert S5 g5 K5
    generalize upd H4 t2 (.tup [.int way, .int room]) = H5
    intro S5 g5 K5
    have hs5 := mask_same _ _ (g5 _ _ ms)
    have he5 := mask_same _ _ (g5 _ _ me)
    have fewn : (L.n / L.s).toNat ≤ 60 := by
      have := Int.ediv_le_self L.s (show 0 ≤ L.n by omega)
      omega
    -- way == 0
    refine ⟨_, rfl, rfl, ?_⟩
    rw [dec_V]
    by_cases e0 : way = 0
    · rw [decide_eq_true e0]
      refine ⟨_, rfl, iteT ?_⟩
      have sem := sem_up (f := L.f) (s := L.s) (g := L.g) (r := L.r) (n := L.n) (c := base0) s0 r0 n0 per.sd per.rd
      refine ⟨_, rfl, _, rfl, sa, L.f, L.s, n, by rw [en]; rfl, hs5, s0, s1, by rw [← en]; exact per.sd, by omega, fun q H6 nq s6 hq => ?_⟩
      rw [← en] at hq
      refine ⟨q, rfl, ⟨_, SqL.of hq⟩, fun D nD => ?_⟩
      have S6 := S5.same s6
      refine lc_it walk_list (fun i H7 => Same H6 H7 ∧ H7 D = some (.lst (((rowOf L (fun v => upv L.g L.r (v + base0))).take i).map V.int))) ⟨same_new nD, upd_same⟩ (fun i H7 _ z => SqL.of (z.1 _ _ hq)) ?_ ?_
      · rintro i y H7 H8 hi ⟨s7, hD⟩ ⟨rfl, hy⟩
        rw [lenp] at hi
        obtain rfl : V.int (L.f % L.s + (i : Nat) * L.s) = y := by
          rw [List.getElem?_map, nums_at hi] at hy
          exact Option.some.inj hy
        refine ⟨rfl, _, rfl, _, rfl, _, rfl, _, _, rfl, rfl, ea, L.g, L.r, _, rfl, s7 _ _ (s6 _ _ he5), r0, by omega, _, hD, small1000 (by rw [List.length_map, List.length_take]; omega), fun b o z => by rw [upd_ne (ne_of_none z nD)]; exact s7 b o z, ?_⟩
        rw [upd_same, List.take_succ, row_at hi, List.map_append]
        rfl
      · rintro H7 ⟨s7, hD⟩
        rw [List.take_of_length_le (by rw [row_len, lenp]; exact Nat.le_refl _)] at hD
        have S7 := S6.same s7
        refine k D _ H7 (mask_at (S6.away nD) hD) ⟨sem, s1, r1, by omega⟩ ⟨fun v hv => ?_⟩ S7 (K5.trans (Keep.of (s6.trans s7)))
        obtain ⟨v0, v1, _⟩ := (mem_nums s0 per.sd).mp hv
        have u1 := upv_le (f := L.g) (x := v + base0) r0
        have u2 := upv_lt (f := L.g) (x := v + base0) r0
        show (upv L.g L.r (v + base0)).natAbs ≤ 5000
        omega
    · rw [decide_eq_false e0]
      refine ⟨_, rfl, iteF ?_⟩
      refine ⟨_, rfl, rfl, ?_⟩
      rw [dec_V]
      have big : ∀ z : Int, 0 ≤ z → z ≤ room → 0 ≤ L.r * z ∧ L.r * z ≤ L.n := fun z z0 z1 => by
        have a := Int.mul_le_mul_of_nonneg_left z1 (show 0 ≤ L.r by omega)
        have b := Int.mul_nonneg (show 0 ≤ L.r by omega) z0
        omega
      by_cases e1 : way = 1
      · rw [decide_eq_true e1]
        refine ⟨_, rfl, iteT ?_⟩
        refine ⟨_, rfl, _, rfl, ea, _, _, _, rfl, rfl, SqT.of he5, at1, _, rfl, _, rfl, (by show 2 ≤ sizeLine; decide), fun q nq => ?_⟩
        refine ⟨d, c, q, ([0, room] : List Int).map V.int, rfl, S5.new nq, upd_same, (S5.away nq).2, (by show 0 < 2; decide), (by show 2 < 1000000000; decide), fun i v H6 hi S6 k6 => ?_⟩
        obtain ⟨z, hz, rfl⟩ := int_at hi
        have bz : 0 ≤ z ∧ z ≤ room := by
          have m := List.mem_of_getElem? hz
          simp only [List.mem_cons, List.not_mem_nil, or_false] at m
          omega
        have K6 := (K5.new (o := .lst (([0, room] : List Int).map V.int)) nq).trans k6
        have bx := big z bz.1 bz.2
        refine ⟨_, _, rfl, rfl, .inl ⟨by omega, by omega⟩, _, _, rfl, rfl, (by show 1 ≤ sizeLine; decide), fun z0 nz0 => ?_⟩
        dsimp only
        have hc : (base0 + L.r * z - L.g) % L.r = 0 := by
          rw [show base0 + L.r * z - L.g = base0 - L.g + L.r * z by omega, Int.add_mul_emod_self_left]
          exact bb3
        have cs : -30 ≤ base0 + L.r * z ∧ base0 + L.r * z ≤ 300 := by omega
        have sem := sem_flat (f := L.f) (s := L.s) (g := L.g) (r := L.r) (n := L.n) s0 r0 n0 per.sd per.rd hc
        revert cs sem
        generalize base0 + L.r * z = x0
        intro cs sem
        refine ⟨_, rfl, z0, _, _, rfl, rfl, upd_same, by omega, by omega, by show 1 * _ ≤ sizeLine; rw [sizeLine_eq]; omega, fun p np => ?_⟩
        have S7 := S6.new (o := .lst [V.int x0]) nz0
        have K7 := K6.new (o := .lst [V.int x0]) nz0
        have erow : (List.replicate (((L.n / L.s).toNat : Nat) : Int).toNat [V.int x0]).flatten = (rowOf L (fun v => x0 + (v - v % L.n))).map V.int := by
          rw [rep_one, Int.toNat_natCast]
          have e2 : rowOf L (fun v => x0 + (v - v % L.n)) = List.replicate (L.n / L.s).toNat x0 := by
            unfold rowOf
            rw [List.map_congr_left (g := fun _ => x0) fun v hv => by
              obtain ⟨v0, v1, _⟩ := (mem_nums s0 per.sd).mp hv
              show x0 + (v - v % L.n) = x0
              rw [Int.emod_eq_of_lt v0 v1]
              omega, List.map_const', nums_len]
          rw [e2, List.map_replicate]
        rw [erow]
        refine k p _ _ (mask_at (S7.away np) upd_same) ⟨sem, s1, r1, by omega⟩ ⟨fun v hv => ?_⟩ (S7.new np) (K7.new np)
        obtain ⟨v0, v1, _⟩ := (mem_nums s0 per.sd).mp hv
        show (x0 + (v - v % L.n)).natAbs ≤ 5000
        rw [Int.emod_eq_of_lt v0 v1]
        omega
      · rw [decide_eq_false e1]
        refine ⟨_, rfl, iteF ?_⟩
        -- sorted
        refine ⟨_, rfl, (((L.n / L.s).toNat : Nat) : Int), rfl, by omega, by omega, fun D nD => ?_⟩
        have aD := S5.away nD
        refine lc_range (lo := 0) (fun i H6 => Keep d c H5 H6 ∧ Src H6 d c ∧ ∃ ns : List Int, mask d c H6 D = some (.lst (ns.map V.int)) ∧ ns.length = i ∧ ∀ x, x ∈ ns → 0 ≤ x ∧ x ≤ room) ⟨Keep.refl.new nD, S5.new nD, [], mask_at aD upd_same, rfl, fun x h => nomatch h⟩ ?_ ?_
        · rintro i H6 hi ⟨k6, S6, ns, hD, rfl, bn⟩
          refine ⟨rfl, _, rfl, _, rfl, _, _, rfl, rfl, d, c, _, rfl, S6, by omega, fun x H7 x0 x1 S7 k7 => ?_⟩
          refine ⟨_, mask_same _ _ (mask_keep k7 _ _ hD), small1000 (by rw [List.length_map]; omega), (k6.trans k7).put nD, S7.put aD, ns ++ [x], mask_at aD ?_, by rw [List.length_append]; rfl, fun y hy => ?_⟩
          · rw [upd_same, List.map_append]
            rfl
          · rcases List.mem_append.mp hy with h | h
            · exact bn y h
            · cases List.mem_singleton.mp h
              omega
        · rintro H6 ⟨k6, S6, ns, hD, ln, bn⟩
          rw [Int.toNat_natCast] at ln
          refine ⟨D, ns, rfl, SqL.of (mask_same _ _ hD), fun ns' p perm pw np => ?_⟩
          have S7 := S6.new (o := .lst (ns'.map V.int)) np
          have K7 := (K5.trans k6).new (o := .lst (ns'.map V.int)) np
          have hp7 := upd_same (H := H6) (a := p) (o := .lst (ns'.map V.int))
          have he7 : mask d c (upd H6 p (.lst (ns'.map V.int))) ea = _ := (mask_keep (k6.new (o := .lst (ns'.map V.int)) np)) _ _ (g5 _ _ me)
          revert S7 K7 hp7 he7
          generalize upd H6 p (.lst (ns'.map V.int)) = H7
          intro S7 K7 hp7 he7
          refine ⟨_, rfl, p, rfl, ⟨_, SqL.of hp7⟩, fun E nE => ?_⟩
          have ln' : ns'.length = (L.n / L.s).toNat := by rw [perm.length_eq, ln]
          have bn' : ∀ x, x ∈ ns' → 0 ≤ x ∧ x ≤ room := fun x hx => bn x (perm.mem_iff.mp hx)
          have rok : Rok L.f L.s L.g L.r L.n (ns'.map fun k => base0 + L.r * k) := by
            refine ⟨s0, r0, n0, per.sd, per.rd, by rw [List.length_map, ln'], fun x hx => ?_, ?_, fun x y hx hy => ?_⟩
            · obtain ⟨z, hz, rfl⟩ := List.mem_map.mp hx
              show (base0 + L.r * z - L.g) % L.r = 0
              rw [show base0 + L.r * z - L.g = base0 - L.g + L.r * z by omega, Int.add_mul_emod_self_left]
              exact bb3
            · rw [List.pairwise_map]
              refine List.Pairwise.imp (fun {a b} le => ?_) pw
              have := Int.mul_le_mul_of_nonneg_left le (show 0 ≤ L.r by omega)
              omega
            · obtain ⟨u, hu, rfl⟩ := List.mem_map.mp hx
              obtain ⟨z, hz, rfl⟩ := List.mem_map.mp hy
              have bu := big u (bn' u hu).1 (bn' u hu).2
              have bz := big z (bn' z hz).1 (bn' z hz).2
              show base0 + L.r * z ≤ base0 + L.r * u + L.n
              omega
          obtain ⟨sem, er⟩ := rok.sem
          refine lc_it walk_list (fun i H8 => Same H7 H8 ∧ H8 E = some (.lst (((ns'.map fun k => base0 + L.r * k).take i).map V.int))) ⟨same_new nE, upd_same⟩ (fun i H8 _ z => SqL.of (z.1 _ _ hp7)) ?_ ?_
          · rintro i y H8 H9 hi ⟨s8, hE⟩ ⟨rfl, hy⟩
            obtain ⟨z, hz, rfl⟩ := int_at hy
            refine ⟨rfl, _, rfl, _, rfl, ea, _, _, _, rfl, rfl, SqT.of (s8 _ _ (mask_same _ _ he7)), at1, _, rfl, _, _, rfl, rfl, .inl ⟨by omega, by omega⟩, _, _, rfl, rfl, _, hE, small1000 (by rw [List.length_map, List.length_take, List.length_map]; omega), fun b o z => by rw [upd_ne (ne_of_none z nE)]; exact s8 b o z, ?_⟩
            rw [upd_same, List.take_succ, List.getElem?_map, hz, List.map_append]
            rfl
          · rintro H8 ⟨s8, hE⟩
            rw [List.take_of_length_le (by rw [List.length_map, List.length_map]; exact Nat.le_refl _)] at hE
            have S8 := S7.same s8
            have erow : rowOf L (valL L.s L.n (ns'.map fun k => base0 + L.r * k)) = ns'.map fun k => base0 + L.r * k := er
            rw [← erow] at hE
            refine k E _ H8 (mask_at (S7.away nE) hE) ⟨sem, s1, r1, by omega⟩ ⟨fun v hv => ?_⟩ S8 (K7.trans (Keep.of s8))
            have m : valL L.s L.n (ns'.map fun k => base0 + L.r * k) v ∈ ns'.map fun k => base0 + L.r * k := by
              have m := List.mem_map_of_mem (f := valL L.s L.n (ns'.map fun k => base0 + L.r * k)) hv
              rw [er] at m
              exact m
            revert m
            generalize valL L.s L.n (ns'.map fun k => base0 + L.r * k) v = y
            intro m
            obtain ⟨z, hz, rfl⟩ := List.mem_map.mp m
            have bz := big z (bn' z hz).1 (bn' z hz).2
            omega
theorem scLead : FnScope ["source", "start", "end", "period", "row"] ["source", "start", "end", "period"] (defScope sLead) := ⟨rfl, rfl, rfl, by decide +kernel, rfl, by decide +kernel, by decide +kernel⟩
theorem ok_lead (F : Fun K "_law_lead" "_law_lead" sLead f fd) (T : Wds mg) (mk : Mkr P w K mg base 5 C "Lead" (spInit C)) (cR : Cb P w K mg base 3 "_law_row" spRow) : FnG P w K mg base 7 f fd ["source", "start", "end", "period"] (spLead C) := by
  refine okG F scLead (fun vs H Q E h => ?_) (fun cdv A outer s H vs Q E hg hr h => ?_)
  · obtain ⟨d, c, sa, ea, L, rfl, _⟩ := h
    rfl
  · obtain ⟨d, c, sa, ea, L, rfl, S, hs, he, per, k⟩ := h
    refine ⟨_, (pss_cons (ps_set (i := 4) scLead.nd rfl (.inl rfl) (pe_k cR hg hr (by decide) (by rfl) (pa_cons (pv 0) (pa_cons (pv 1) (pa_cons (pv 2) (pa_cons (pv 3) pa_nil))))))
      (pss_one (ps_ret (pe_disp (pps_cons pe_str (pv 1) (pps_cons pe_str (pv 2) (pps_cons pe_str (pv 3) (pps_cons pe_str (pv 4) (pps_cons pe_str (pe_mkr mk hr (by decide) (by rfl) (pa_cons (pv 1) (pa_cons (pv 2) (pa_cons (pv 3) (pa_cons (pv 4) pa_nil))))) pps_nil))))) (by rfl) (by rfl) (fun z => by cases z) (by decide))))), ?_⟩
    have ms := mask_at (S.nd hs) hs
    have me := mask_at (S.nd he) he
    refine ⟨_, rfl, _, rfl, _, rfl, _, rfl, d, c, sa, ea, L, rfl, S, hs, he, per, fun p F H1 hp ok sml S1 k1 => ?_⟩
    have g1 := mask_keep k1
    intro D nD
    have S2 := S1.new (o := .dK []) nD
    have g2 := g1.trans (mask_new (d := d) (c := c) (o := .dK []) nD)
    have K2 := k1.new (o := .dK []) nD
    have hD := upd_same (H := H1) (a := D) (o := .dK [])
    have mp2 := (mask_new (d := d) (c := c) (o := .dK []) nD) _ _ hp
    have nD1 := nD
    have aD := S1.away nD
    revert S2 g2 K2 hD mp2
    generalize eH2 : upd H1 D (.dK []) = H2
    intro S2 g2 K2 hD mp2
    refine ⟨_, rfl, _, rfl, _, rfl, _, rfl, _, rfl, _, rfl, _, rfl, _, rfl, fun x dx nx ndx ne => ?_⟩
    have sm : Same H2 (upd (upd H2 dx (.own x)) x (.ins C dx [])) := (same_new ndx).trans (same_new (by rw [upd_ne ne.symm]; exact nx))
    refine ⟨x, dx, p, sa, ea, L, F, rfl, upd_same, sm _ _ (mask_same _ _ mp2), sm _ _ (mask_same _ _ (g2 _ _ ms)), sm _ _ (mask_same _ _ (g2 _ _ me)), ok, fun H3 b3 ld => ⟨rfl, ?_⟩⟩
    have s3 : Same H2 H3 := fun y u q => b3 y u (sm _ _ q) (ne_of_none q nx)
    have S3 := S2.same s3
    have hD3 := s3 _ _ hD
    have g3 := g2.trans (sub_same s3)
    have mp3 := (sub_same s3) _ _ mp2
    have K3 := K2.trans (Keep.of s3)
    refine ⟨hD3, ldK sa ea L.n p x, rfl, (by show 5 ≤ 15; decide), ?_⟩
    rw [merge5]
    have but : Sbut D (mask d c H3) (mask d c (upd H3 D (.dK (ldK sa ea L.n p x)))) := mask_but
    have n1 : sa ≠ D := ne_of (mask_same _ _ (g3 _ _ ms)) hD3 (by intro z; cases z)
    have n2 : ea ≠ D := ne_of (mask_same _ _ (g3 _ _ me)) hD3 (by intro z; cases z)
    have n3 : p ≠ D := ne_of (mask_same _ _ mp3) hD3 (by intro z; cases z)
    have ldm := ld.mask S3
    obtain ⟨dx', sa', ea', ra', h1, h2, h3, h4⟩ := ldm.ex
    have n4 : x ≠ D := ne_of (mask_same _ _ h1) hD3 (by intro z; cases z)
    have n5 : sa' ≠ D := ne_of (mask_same _ _ h2) hD3 (by intro z; cases z)
    have n6 : ea' ≠ D := ne_of (mask_same _ _ h3) hD3 (by intro z; cases z)
    have n7 : ra' ≠ D := ne_of (mask_same _ _ h4) hD3 (by intro z; cases z)
    refine k D F _ ⟨sa, ea, p, x, mask_at aD upd_same, but _ _ (g3 _ _ ms) n1, but _ _ (g3 _ _ me) n2, but _ _ mp3 n3, ⟨dx', sa', ea', ra', but _ _ h1 n4, but _ _ h2 n5, but _ _ h3 n6, but _ _ h4 n7⟩⟩ ok sml (S3.put aD) ?_
    refine fun b o e m1 m2 => ?_
    have q := K3 b o e m1 m2
    have bD : b ≠ D := fun z => by
      have e2 := k1 b o e m1 m2
      rw [z] at e2
      rw [nD1] at e2
      cases e2
    rw [upd_ne bD]
    exact q
theorem scLike : FnScope ["lead", "told", "due", "some", "v"] ["lead", "told"] (defScope sLike) := ⟨rfl, rfl, rfl, by decide +kernel, rfl, by decide +kernel, by decide +kernel⟩
theorem sum_row (ks : List Int) (h : ∀ k, k ∈ ks → (k : Int).natAbs < 10 ^ 40) : ((PyData.shownAll (ks.map PyData.int)).map (·.length)).sum ≤ 450 * ks.length ∧ (PyData.shownAll (ks.map PyData.int)).length = ks.length ∧ PyData.showableAll (ks.map PyData.int) = true ∧ PyData.depthAll (ks.map PyData.int) ≤ 2 := by
  have q := sum_le (ds := ks.map PyData.int) fun d m => by
    obtain ⟨k, hk, rfl⟩ := List.mem_map.mp m
    exact sm_int (h k hk)
  rw [List.length_map] at q
  exact q
structure Med (d : PyData) : Prop where
  sh : d.showable = true
  dp : d.depth ≤ 50
  ln : d.shown.length ≤ 2000000
theorem med_int {i : Int} (h : i.natAbs < 10 ^ 40) : Med (.int i) := by
  have s := sm_int h
  exact ⟨s.sh, Nat.le_trans s.dp (by decide), Nat.le_trans s.ln (by decide)⟩
theorem med_row {ks : List Int} (h : ∀ k, k ∈ ks → (k : Int).natAbs < 10 ^ 40) (few : ks.length ≤ 3600) : Med (.list (ks.map PyData.int)) := by
  obtain ⟨q1, q2, q3, q4⟩ := sum_row ks h
  refine ⟨by simp only [PyData.showable, q3], by simp only [PyData.depth]; omega, ?_⟩
  simp only [PyData.shown]
  refine Nat.le_trans (listText_len_le _) ?_
  rw [q2]
  omega
theorem med_two {a b : Int} (ha : a.natAbs < 10 ^ 40) (hb : b.natAbs < 10 ^ 40) : Med (.tuple [.int a, .int b]) := by
  obtain ⟨q1, q2, q3, q4⟩ := sum_row [a, b] (by intro k m; simp only [List.mem_cons, List.not_mem_nil, or_false] at m; rcases m with rfl | rfl <;> assumption)
  simp only [List.map_cons, List.map_nil] at q1 q2 q3 q4
  refine ⟨by simp only [PyData.showable, q3], by simp only [PyData.depth]; omega, ?_⟩
  simp only [PyData.shown]
  refine Nat.le_trans (tupleText_len_le _) ?_
  rw [q2]
  simp only [List.length_cons, List.length_nil] at q1 ⊢
  omega
theorem med_four {a b e x : PyData} (ha : Med a) (hb : Med b) (he : Med e) (hx : Med x) : (PyData.list [a, b, e, x]).showable = true ∧ (PyData.list [a, b, e, x]).depth ≤ 60 ∧ (PyData.list [a, b, e, x]).shown.length ≤ sizeLine := by
  have a1 := ha.dp; have b1 := hb.dp; have e1 := he.dp; have x1 := hx.dp
  have a2 := ha.ln; have b2 := hb.ln; have e2 := he.ln; have x2 := hx.ln
  refine ⟨by simp [PyData.showable, PyData.showableAll, ha.sh, hb.sh, he.sh, hx.sh], ?_, ?_⟩
  · simp only [PyData.depth, PyData.depthAll]
    omega
  · simp only [PyData.shown, PyData.shownAll]
    refine Nat.le_trans (listText_len_le _) ?_
    simp only [List.map_cons, List.map_nil, List.sum_cons, List.sum_nil, List.length_cons, List.length_nil]
    rw [sizeLine_eq]
    omega
theorem Sm.one {d : PyData} (h : Sm d) : d.showable = true ∧ d.depth ≤ 60 ∧ d.shown.length ≤ sizeLine := ⟨h.sh, Nat.le_trans h.dp (by decide), Nat.le_trans h.ln (by decide)⟩
theorem ok_like (F : Fun K "_law_is_like" "_law_is_like" sLike f fd) (T : Wds mg) (cn : ClsL K C) (M : MethL P w K mg base C) (cN : Cb P w K mg base 1 "_law_numbers" spNumbers) (cV : Cb P w K mg base 1 "_law_value" spValue) : FnG P w K mg base 4 f fd ["lead", "told"] (spLike C) := by
  refine okG F scLike (fun vs H Q E h => ?_) (fun cdv A outer s H vs Q E hg hr h => ?_)
  · obtain ⟨D, x, L, F, rfl, _⟩ := h
    rfl
  · obtain ⟨D, x, L, F, rfl, dl, ld, ok, big, k⟩ := h
    have hu := hu_of hr
    have hu64 := hr.units
    have s0 := ok.sem.s0
    have s1 := ok.s1
    have n0 := ok.sem.n0
    have n1 := ok.n1
    have pos := ok.pos
    have few := ok.few
    refine ⟨_, (pss_cons (ps_set (i := 2) scLike.nd rfl (.inl rfl) (pe_lst (pa_cons (pe_dget hu (pv 0) pe_str (fun _ _ => rfl)) (pa_cons (pe_dget hu (pv 0) pe_str (fun _ _ => rfl)) (pa_cons (pe_dget hu (pv 0) pe_str (fun _ _ => rfl)) (pa_cons (pe_dget hu (pv 0) pe_str (fun _ _ => rfl)) pa_nil))))))
      (pss_cons (ps_if (pt_cmpR op_ne (pe_callB (call_reprX hg hu64) (by rfl) T.zrepr (by decide +kernel) (pa_cons (pe_lst (pa_cons (pe_m0' cn.cls M.start hr (by decide) (pv 1)) (pa_cons (pe_m0' cn.cls M.end_ hr (by decide) (pv 1)) (pa_cons (pe_m0' cn.cls M.period hr (by decide) (pv 1)) (pa_cons (pe_m0' cn.cls M.row hr (by decide) (pv 1)) pa_nil))))) pa_nil)) (pe_callB (call_reprX hg hu64) (by rfl) T.zrepr (by decide +kernel) (pa_cons (pv 2) pa_nil)) (nomark _)) (pss_one (ps_ret pe_bl)) pss_nil)
      (pss_cons (ps_set (i := 3) scLike.nd rfl (.inl rfl) (pe_k cN hg hr (by decide) (by rfl) (pa_cons (pe_dget hu (pv 0) pe_str (fun _ _ => rfl)) (pa_cons (pe_dget hu (pv 0) pe_str (fun _ _ => rfl)) pa_nil))))
      (pss_cons (ps_for PassesOwn.never rfl (pi_list (pe_lst (pa_cons (pe_ix ix_list (pv 3) pe_int (fun _ _ => rfl)) (pa_cons (pe_ix ix_list (pv 3) (pe_un un_neg pe_int) (fun _ _ => rfl)) (pa_cons (pe_op op_add (pe_ix ix_list (pv 3) (pe_un un_neg pe_int) (fun _ _ => rfl)) (pe_op op_mul pe_int (pe_dget hu (pv 0) pe_str (fun _ _ => rfl)))) (pa_cons (pe_op op_sub (pe_ix ix_list (pv 3) pe_int (fun _ _ => rfl)) (pe_dget hu (pv 0) pe_str (fun _ _ => rfl))) pa_nil)))))) (pg_name (i := 4) scLike.nd rfl (.inl rfl))
        (pss_one (ps_if (pt_cmpR op_ne (pe_callB (call_reprX hg hu64) (by rfl) T.zrepr (by decide +kernel) (pa_cons (pe_m cn.cls M.at_ hr (by decide) (pv 1) (pa_cons (pv 4) pa_nil)) pa_nil)) (pe_callB (call_reprX hg hu64) (by rfl) T.zrepr (by decide +kernel) (pa_cons (pe_k cV hg hr (by decide) (by rfl) (pa_cons (pv 0) (pa_cons (pv 4) pa_nil))) pa_nil)) (nomark _)) (pss_one (ps_ret pe_bl)) pss_nil)))
      (pss_one (ps_ret pe_bl)))))), ?_⟩
    obtain ⟨kvs, sa, ea, ra, h0, v1, v2, v3, v4, h5, h6, h7⟩ := dl.ex
    obtain ⟨dx, fs, ix, a1, a2, a3, a4, a5⟩ := ld_ins ld
    refine ⟨_, rfl, D, _, rfl, dgetK h0 v1, _, rfl, D, _, rfl, dgetK h0 v2, _, rfl, D, _, rfl, dgetK h0 v3, _, rfl, D, _, rfl, dgetK h0 v4, (by show 4 ≤ sizeLine; decide), fun l nl => ?_⟩
    have s1' := same_new (H := H) (o := .lst [.ref sa, .ref ea, .int L.n, .ref ra]) nl
    have hl := upd_same (H := H) (a := l) (o := .lst [.ref sa, .ref ea, .int L.n, .ref ra])
    revert s1' hl
    generalize upd H l (.lst [.ref sa, .ref ea, .int L.n, .ref ra]) = H1
    intro q1 hl
    have ld1 := ld.same q1
    -- repr of both
    refine ⟨_, rfl, x, dx, fs, rfl, q1 _ _ ix, a1, x, L, F, rfl, ld1, fun t1 ht1 => ?_⟩
    refine ⟨_, rfl, x, dx, fs, rfl, q1 _ _ ix, a2, x, L, F, rfl, ld1, fun t2 ht2 => ?_⟩
    refine ⟨_, rfl, x, dx, fs, rfl, q1 _ _ ix, a3, x, L, F, rfl, ld1, ?_⟩
    refine ⟨_, rfl, x, dx, fs, rfl, q1 _ _ ix, a4, x, L, F, rfl, ld1, fun t3 nt3 => ?_⟩
    refine ⟨(by show 4 ≤ sizeLine; decide), fun t4 nt4 => ?_⟩
    have q2 := same_new (H := H1) (o := .lst ((rowOf L F).map V.int)) nt3
    have ht3 := upd_same (H := H1) (a := t3) (o := .lst ((rowOf L F).map V.int))
    have q3 := same_new (o := .lst [.ref t1, .ref t2, .int L.n, .ref t3]) nt4
    have ht4 := upd_same (H := upd H1 t3 (.lst ((rowOf L F).map V.int))) (a := t4) (o := .lst [.ref t1, .ref t2, .int L.n, .ref t3])
    have ht3 := q3 _ _ ht3
    have q23 := q2.trans q3
    revert q23 ht3 ht4
    generalize upd (upd H1 t3 (.lst ((rowOf L F).map V.int))) t4 (.lst [.ref t1, .ref t2, .int L.n, .ref t3]) = H2
    intro ht4 ht3 q23
    have q12 := q1.trans q23
    have rbig : ∀ z, z ∈ rowOf L F → (z : Int).natAbs < 10 ^ 40 := fun z hz => by
      obtain ⟨v, hv, rfl⟩ := List.mem_map.mp hz
      exact Nat.lt_trans (big.v v hv) (by decide)
    have four := med_four (med_two big.f (show L.s.natAbs < 10 ^ 40 by omega)) (med_two big.g (show L.r.natAbs < 10 ^ 40 by have := ok.sem.r0; have := ok.r1; omega)) (med_int (show L.n.natAbs < 10 ^ 40 by omega)) (med_row rbig (by rw [row_len]; exact few))
    refine ⟨_, _, rfl, .lst (SqL.of ht4) (.cons (.tup (SqT.of (q23 _ _ ht1)) (.cons (.int _) (.cons (.int _) .nil))) (.cons (.tup (SqT.of (q23 _ _ ht2)) (.cons (.int _) (.cons (.int _) .nil))) (.cons (.int _) (.cons (.lst (SqL.of ht3) (dxAll_ints _)) .nil)))), four.1, four.2.1, four.2.2, ?_⟩
    refine ⟨_, rfl, _, _, rfl, .lst (SqL.of (q23 _ _ hl)) (.cons (.tup (SqT.of (q12 _ _ h5)) (.cons (.int _) (.cons (.int _) .nil))) (.cons (.tup (SqT.of (q12 _ _ h6)) (.cons (.int _) (.cons (.int _) .nil))) (.cons (.int _) (.cons (.lst (SqL.of (q12 _ _ h7)) (dxAll_ints _)) .nil)))), four.1, four.2.1, four.2.2, ?_⟩
    refine ⟨rfl, false, by rw [decide_eq_true rfl]; rfl, iteF ?_⟩
    -- the numbers
    obtain ⟨n, en⟩ := Int.eq_ofNat_of_zero_le (show 0 ≤ L.n by omega)
    refine ⟨_, rfl, D, _, rfl, dgetK (q12 _ _ h0) v1, _, rfl, D, _, rfl, dgetK (q12 _ _ h0) v3, sa, L.f, L.s, n, by rw [en]; rfl, q12 _ _ h5, s0, s1, by rw [← en]; exact ok.sem.sd, by omega, fun p H3 np q34 hp => ?_⟩
    rw [← en] at hp
    have q13 := q12.trans q34
    have lenp : ((nums L.f L.s L.n).map V.int).length = (L.n / L.s).toNat := by rw [List.length_map, nums_len]
    have e0 : atI ((nums L.f L.s L.n).map V.int) 0 = some (.int (L.f % L.s + ((0 : Nat) : Int) * L.s)) := at_of (j := 0) rfl (by rw [List.getElem?_map, nums_at pos]; rfl)
    have hlt : (L.n / L.s).toNat - 1 < (L.n / L.s).toNat := by omega
    have e1 : atI ((nums L.f L.s L.n).map V.int) (-1) = some (.int (L.f % L.s + (((L.n / L.s).toNat - 1 : Nat) : Int) * L.s)) := by
      unfold atI ixN
      rw [if_neg (by omega), lenp, if_pos (by omega)]
      show ((nums L.f L.s L.n).map V.int)[((-1 : Int) + ((L.n / L.s).toNat : Int)).toNat]? = _
      rw [show ((-1 : Int) + ((L.n / L.s).toNat : Int)).toNat = (L.n / L.s).toNat - 1 by omega, List.getElem?_map, nums_at hlt]
      rfl
    have m0 := (mem_nums (f := L.f) s0 ok.sem.sd).mp (List.mem_of_getElem? (nums_at pos))
    have m1 := (mem_nums (f := L.f) s0 ok.sem.sd).mp (List.mem_of_getElem? (nums_at hlt))
    revert e0 e1 m0 m1
    generalize L.f % L.s + ((0 : Nat) : Int) * L.s = w0
    generalize L.f % L.s + (((L.n / L.s).toNat - 1 : Nat) : Int) * L.s = w1
    intro e0 e1 m0 m1
    refine ⟨_, rfl, p, _, _, _, rfl, rfl, SqL.of hp, e0, _, rfl, 1, rfl, p, _, _, _, rfl, rfl, SqL.of hp, e1, ?_⟩
    refine ⟨_, rfl, 1, rfl, p, _, _, _, rfl, rfl, SqL.of hp, e1, _, rfl, D, _, rfl, dgetK (q13 _ _ h0) v3, _, _, rfl, rfl, .inl ⟨by decide, by decide⟩, _, _, rfl, rfl, ?_⟩
    refine ⟨_, rfl, p, _, _, _, rfl, rfl, SqL.of hp, e0, _, rfl, D, _, rfl, dgetK (q13 _ _ h0) v3, _, _, rfl, rfl, (by show 4 ≤ sizeLine; decide), fun u nu => ?_⟩
    have hu4 := upd_same (H := H3) (a := u) (o := .lst ([w0, w1, w1 + 3 * L.n, w0 - L.n].map V.int))
    have q4 := q13.trans (same_new (H := H3) (o := .lst ([w0, w1, w1 + 3 * L.n, w0 - L.n].map V.int)) nu)
    refine ⟨u, rfl, ⟨_, SqL.of hu4⟩, ?_⟩
    refine for_it (walk_list (xs := [w0, w1, w1 + 3 * L.n, w0 - L.n].map V.int)) (fun j σ H5 => ∃ (v4 : Option V), σ = [some (.ref D), some (.ref x), some (.ref l), some (.ref p), v4] ∧ Same H H5 ∧ H5 u = some (.lst ([w0, w1, w1 + 3 * L.n, w0 - L.n].map V.int))) ⟨_, rfl, q4, hu4⟩ (fun j σ H5 _ ⟨_, _, _, z⟩ => SqL.of z) ?_ ?_
    · rintro j y σ H5 H5b hj ⟨v4, rfl, q5, hu5⟩ ⟨rfl, hy⟩
      obtain ⟨v, hv, rfl⟩ := int_at hy
      have vv : (v - L.f) % L.s = 0 ∧ -3600 ≤ v ∧ v ≤ 4 * 3600 := by
        have m := List.mem_of_getElem? hv
        simp only [List.mem_cons, List.not_mem_nil, or_false] at m
        rcases m with rfl | rfl | rfl | rfl
        · exact ⟨m0.2.2, by omega, by omega⟩
        · exact ⟨m1.2.2, by omega, by omega⟩
        · exact ⟨on_mul ok.sem.sd m1.2.2, by omega, by omega⟩
        · refine ⟨?_, by omega, by omega⟩
          have q := on_mul (k := -1) ok.sem.sd m0.2.2
          rw [show w0 + -1 * L.n = w0 - L.n by omega] at q
          exact q
      obtain ⟨von, vlo, vhi⟩ := vv
      obtain ⟨i, hi, ei, ev⟩ := place_of s0 n0 ok.sem.sd von
      have val : valL L.s L.n (rowOf L F) v = F v := ok.sem.val von
      have em := Int.emod_add_mul_ediv v L.n
      have b0 := Int.emod_nonneg v (show L.n ≠ 0 by omega)
      have b1 := Int.emod_lt_of_pos v n0
      have vm := (mem_nums s0 ok.sem.sd).mpr ⟨b0, b1, on_rest ok.sem.sd von⟩
      have fb := big.v _ vm
      have fe : F v = F (v % L.n) + (v - v % L.n) := by
        have q := ok.sem.perz (on_rest ok.sem.sd von) (v / L.n)
        rw [show v % L.n + v / L.n * L.n = v by rw [Int.mul_comm (v / L.n)]; omega] at q
        rw [q, Int.mul_comm (v / L.n)]
        omega
      have fs40 : (F v).natAbs < 10 ^ 40 := by rw [fe]; omega
      have sm := Sm.one (sm_int fs40)
      refine ⟨_, rfl, x, dx, fs, rfl, q5 _ _ ix, a5, _, rfl, x, L, F, v, rfl, ld.same q5, ok, von, ?_⟩
      refine ⟨_, _, rfl, .int _, sm.1, sm.2.1, sm.2.2, ?_⟩
      refine ⟨_, rfl, _, rfl, D, L.f, L.s, L.g, L.r, L.n, v, rowOf L F, rfl, dl.same q5, s0, s1, n0, n1, by rw [ei, row_len]; omega, ?_⟩
      rw [val]
      refine ⟨_, _, rfl, .int _, sm.1, sm.2.1, sm.2.2, ?_⟩
      exact ⟨rfl, false, by rw [decide_eq_true rfl]; rfl, iteF ⟨_, rfl, q5, hu5⟩⟩
    · rintro σ H5 ⟨v4, rfl, q5, hu5⟩
      exact k H5 q5
end
end L18
namespace Ld
open PySem PySem.Spec L2 Rt Rs
open PyProof.Rows hiding St
/-! ### back of a lead: the greatest number whose lead is not above u -/
structure IsBack (f s : Int) (F : Int → Int) (u v : Int) : Prop where
  on : (v - f) % s = 0
  le : F v ≤ u
  lt : u < F (v + s)
open Classical in
noncomputable def backF (f s : Int) (F : Int → Int) (u : Int) : Int := if h : ∃ v, IsBack f s F u v then Classical.choose h else 0
section
variable {f s g r n : Int} {F : Int → Int}
theorem on_step {f s v : Int} (h : (v - f) % s = 0) : (v + s - f) % s = 0 := by
  rw [show v + s - f = v - f + s by omega, Int.add_emod_right]
  exact h
theorem on_gap {f s v w : Int} (s0 : 0 < s) (hv : (v - f) % s = 0) (hw : (w - f) % s = 0) (lt : v < w) : v + s ≤ w := by
  obtain ⟨k, e⟩ := steps_between s0 hv hw (Int.le_of_lt lt)
  match k, e with
  | 0, e => simp at e; omega
  | k + 1, e =>
    have : (0 : Int) ≤ (k : Int) * s := Int.mul_nonneg (by omega) (by omega)
    rw [show ((k + 1 : Nat) : Int) = (k : Int) + 1 by omega, Int.add_mul] at e
    omega
theorem back_go {u v : Int} (hv : (v - f) % s = 0) (le : F v ≤ u) : ∀ m : Nat, u < F (v + (m : Int) * s) → ∃ w, IsBack f s F u w
  | 0, h => by
    rw [show v + ((0 : Nat) : Int) * s = v by simp] at h
    omega
  | m + 1, h => by
    by_cases q : F (v + (m : Int) * s) ≤ u
    · refine ⟨v + (m : Int) * s, ?_, q, ?_⟩
      · rw [show v + (m : Int) * s - f = v - f + (m : Int) * s by omega, Int.add_mul_emod_self_right]
        exact hv
      · rw [show v + (m : Int) * s + s = v + ((m + 1 : Nat) : Int) * s by rw [show ((m + 1 : Nat) : Int) = (m : Int) + 1 by omega, Int.add_mul]; omega]
        exact h
    · exact back_go hv le m (by omega)
theorem Sem.back_ex (h : Sem f s g r n F) (u : Int) : ∃ v, IsBack f s F u v := by
  have n0 := h.n0
  have hf : (f - f) % s = 0 := by simp
  have e := Int.emod_add_mul_ediv (u - F f) n
  have e1 := Int.emod_nonneg (u - F f) (show n ≠ 0 by omega)
  have e2 := Int.emod_lt_of_pos (u - F f) n0
  have p := h.perz hf ((u - F f) / n)
  have p2 := h.per (f + (u - F f) / n * n) (on_mul h.sd hf)
  rw [Int.mul_comm] at e
  obtain ⟨q, eq⟩ := h.sd
  have q0 : 0 < q := Int.pos_of_mul_pos_right (by rw [← eq]; exact n0) h.s0
  refine back_go (v := f + (u - F f) / n * n) (on_mul h.sd hf) (by omega) q.toNat ?_
  rw [show ((q.toNat : Nat) : Int) = q by omega, Int.mul_comm q s, ← eq]
  omega
theorem Sem.back_is (h : Sem f s g r n F) (u : Int) : IsBack f s F u (backF f s F u) := by
  unfold backF
  rw [dif_pos (h.back_ex u)]
  exact Classical.choose_spec (h.back_ex u)
theorem Sem.back_le (h : Sem f s g r n F) {u v w : Int} (b : IsBack f s F u v) (hw : (w - f) % s = 0) (le : F w ≤ u) : w ≤ v := by
  refine Int.not_lt.mp fun lt => ?_
  have := h.mono _ _ (on_step b.on) hw (on_gap h.s0 b.on hw lt)
  have := b.lt
  omega
theorem Sem.back_eq (h : Sem f s g r n F) {u v : Int} (b : IsBack f s F u v) : backF f s F u = v :=
  Int.le_antisymm (h.back_le b (h.back_is u).on (h.back_is u).le) (h.back_le (h.back_is u) b.on b.le)
theorem Sem.back (h : Sem f s g r n F) : Sem g r f s n (backF f s F) :=
  ⟨h.r0, h.s0, h.n0, h.rd, h.sd, fun v _ => (h.back_is v).on, fun u w _ _ le => h.back_le (h.back_is w) (h.back_is u).on (Int.le_trans (h.back_is u).le le), fun u _ => h.back_eq (by
    have b := h.back_is u
    refine ⟨on_add h.sd b.on, ?_, ?_⟩
    · rw [h.per _ b.on]
      have := b.le
      omega
    · rw [show backF f s F u + n + s = backF f s F u + s + n by omega, h.per _ (on_step b.on)]
      have := b.lt
      omega)⟩
theorem Sem.back_comp {g' r' e : Int} {G : Int → Int} (h : Sem f s g r n F) (k : Sem g' r e r' n G) (al : (g - g') % r = 0) (w : Int) : backF f s (fun v => G (F v)) w = backF f s F (backF g' r G w) := by
  refine (h.comp (s' := s) k al).back_eq ?_
  have b := h.back_is (backF g' r G w)
  have c := k.back_is w
  have al2 : ∀ x, (x - g) % r = 0 → (x - g') % r = 0 := fun x hx => by
    rw [show x - g' = (x - g) + (g - g') by omega, Int.add_emod, hx, al]
    simp
  have o1 := al2 _ (h.on _ b.on)
  have o2 := al2 _ (h.on _ (on_step b.on))
  exact ⟨b.on, Int.le_trans (k.mono _ _ o1 c.on b.le) c.le, Int.lt_of_lt_of_le c.lt (k.mono _ _ (on_step c.on) o2 (on_gap k.s0 c.on o2 b.lt))⟩
theorem back_stay (s0 : 0 < s) {v : Int} (hs : Sem f s f s n (fun x => x)) (hv : (v - f) % s = 0) : backF f s (fun x => x) v = v := hs.back_eq ⟨hv, Int.le_refl _, by show v < v + s; omega⟩
theorem Sem.back_max {G : Int → Int} (h : Sem f s g r n F) (k : Sem f s g r n G) (m : Sem f s g r n (fun v => if G v > F v then G v else F v)) (u : Int) : backF f s (fun v => if G v > F v then G v else F v) u = if backF f s G u < backF f s F u then backF f s G u else backF f s F u := by
  refine m.back_eq ?_
  have b := h.back_is u
  have c := k.back_is u
  split
  · rename_i lt
    have q := h.mono _ _ c.on b.on (Int.le_of_lt lt)
    refine ⟨c.on, ?_, ?_⟩
    · have := b.le
      have := c.le

      split <;> omega
    · have := c.lt

      split <;> omega
  · rename_i lt
    have q := k.mono _ _ b.on c.on (by omega)
    refine ⟨b.on, ?_, ?_⟩
    · have := b.le
      have := c.le

      split <;> omega
    · have := b.lt

      split <;> omega
theorem Sem.back_box (h : Sem f s g r n F) {v : Int} (hv : (v - f) % s = 0) : backF f s F (F v - r) < v ∧ v ≤ backF f s F (F v) := by
  refine ⟨Int.not_le.mp fun le => ?_, h.back_le (h.back_is _) hv (Int.le_refl _)⟩
  have b := h.back_is (F v - r)
  have := h.mono _ _ hv b.on le
  have := b.le
  have := h.r0
  omega
theorem back_rule {c u : Int} (s0 : 0 < s) (r0 : 0 < r) (h : Sem f s g r n (fun v => upv g r (v + c))) (hu : (u - g) % r = 0) : backF f s (fun v => upv g r (v + c)) u = if (u - c - f) % s = 0 then upv f s (u - c) else upv f s (u - c) - s := by
  refine h.back_eq ?_
  have l1 := upv_le (f := f) (s := s) (x := u - c) s0
  split
  · rename_i on
    have e : upv f s (u - c) = u - c := Int.le_antisymm (upv_least s0 (Int.le_refl _) on) l1
    rw [e]
    refine ⟨on, ?_, ?_⟩
    · show upv g r (u - c + c) ≤ u
      exact upv_least r0 (by omega) hu
    · show u < upv g r (u - c + s + c)
      have := upv_le (f := g) (s := r) (x := u - c + s + c) r0
      omega
  · rename_i off
    have o := upv_on f s (u - c)
    have o2 : (upv f s (u - c) - s - f) % s = 0 := on_sub o
    have ne : upv f s (u - c) ≠ u - c := fun e => off (by rw [← e]; exact o)
    have lt : upv f s (u - c) - s < u - c := Int.not_le.mp fun le => by
      have := upv_least s0 le o2
      omega
    refine ⟨o2, ?_, ?_⟩
    · show upv g r (upv f s (u - c) - s + c) ≤ u
      exact upv_least r0 (by omega) hu
    · show u < upv g r (upv f s (u - c) - s + s + c)
      have := upv_le (f := g) (s := r) (x := upv f s (u - c) - s + s + c) r0
      omega
end
end Ld
namespace L18
open PySem PySem.Spec L2 Rt Rs Ld
open PyProof.Rows hiding St

abbrev sUp : Stmt := top 8
abbrev sRuleL : Stmt := top 20
abbrev sStay : Stmt := top 21
abbrev sBackOf : Stmt := top 24
theorem up_eq {f s x : Int} (s0 : 0 < s) : x + (f - x) % s = upv f s x := by
  have h1 := Int.emod_nonneg (f - x) (show s ≠ 0 by omega)
  have h2 := Int.emod_lt_of_pos (f - x) s0
  have on : (x + (f - x) % s - f) % s = 0 := by
    have e := Int.emod_add_mul_ediv (f - x) s
    rw [show x + (f - x) % s - f = s * (-((f - x) / s)) by rw [Int.mul_neg]; omega]
    exact Int.mul_emod_right _ _
  have a := upv_least s0 (show x ≤ x + (f - x) % s by omega) on
  refine Int.le_antisymm (Int.not_lt.mp fun lt => ?_) a
  have g := on_gap s0 (upv_on f s x) on lt
  have := upv_le (f := f) (x := x) s0
  omega
abbrev bkL (L : LP) : LP := ⟨L.g, L.r, L.f, L.s, L.n⟩
theorem LOk.bk {L : LP} {F : Int → Int} (h : LOk L F) : LOk (bkL L) (backF L.f L.s F) := ⟨h.sem.back, h.r1, h.s1, h.n1⟩
def spUp : Sp := fun vs H Q _ => ∃ (t : Addr) (f s x : Int), vs = [.ref t, .int x] ∧ H t = some (.tup [.int f, .int s]) ∧ 0 < s ∧ Q (.int (upv f s x)) H
def spRuleL (C : Addr) : Sp := fun vs H Q _ => ∃ (a b : Addr) (L : LP) (c : Int), vs = [.ref a, .ref b, .int L.n, .int c] ∧ H a = some (.tup [.int L.f, .int L.s]) ∧ H b = some (.tup [.int L.g, .int L.r]) ∧ LOk L (fun v => upv L.g L.r (v + c)) ∧ ∀ x H', Same H H' → LdAt H' C x L (fun v => upv L.g L.r (v + c)) → Q (.ref x) H'
def spStay (C : Addr) : Sp := fun vs H Q _ => ∃ (a : Addr) (f s n : Int), vs = [.ref a, .int n] ∧ H a = some (.tup [.int f, .int s]) ∧ LOk ⟨f, s, f, s, n⟩ (fun v => v) ∧ ∀ x H', Same H H' → LdAt H' C x ⟨f, s, f, s, n⟩ (fun v => v) → Q (.ref x) H'
def spBackOf (C : Addr) : Sp := fun vs H Q _ => ∃ (a : Addr) (L : LP) (F : Int → Int), vs = [.ref a] ∧ LdAt H C a L F ∧ LOk L F ∧ ∀ x H', Same H H' → LdAt H' C x (bkL L) (backF L.f L.s F) → Q (.ref x) H'
theorem row_id (L : LP) : rowOf L (fun v => v) = nums L.f L.s L.n := by
  unfold rowOf
  exact List.map_id' _

section
variable {P : Program} {w : World} {K : PySem.W.Frag} {mg : Str → Option Value} {base : Heap} {f C : Addr} {fd : FuncData}

theorem scUp : FnScope ["clock", "x", "first", "step"] ["clock", "x"] (defScope sUp) := ⟨rfl, rfl, rfl, by decide +kernel, rfl, by decide +kernel, by decide +kernel⟩
theorem ok_up (F : Fun K "up" "up" sUp f fd) : FnOk P w K mg base CX0 1 f fd ["clock", "x"] spUp := by
  refine F.ok scUp (fun vs H Q E h => ?_) (fun cdv A outer s H vs Q E hr h => ?_)
  · obtain ⟨t, f, s, x, rfl, _⟩ := h
    rfl
  · obtain ⟨t, f, s, x, rfl, ht, s0, k⟩ := h
    refine ⟨_, (pss_cons (ps_asg (pv 0) (pg_tup (by rfl) (pgs_cons (pg_name (i := 2) scUp.nd rfl (.inl rfl)) (pgs_cons (pg_name (i := 3) scUp.nd rfl (.inl rfl)) pgs_nil))))
      (pss_one (ps_ret (pe_op op_add (pv 1) (pe_op op_mod (pe_op op_sub (pv 2) (pv 1)) (pv 3)))))), ?_⟩
    refine ⟨_, rfl, t, _, rfl, SqT.of ht, rfl, _, _, rfl, _, _, rfl, rfl, ?_⟩
    refine ⟨_, rfl, _, rfl, _, rfl, _, _, rfl, rfl, _, rfl, _, _, rfl, rfl, s0, _, _, rfl, rfl, ?_⟩
    show Q (V.int (x + (f - x) % s)) H
    rw [up_eq s0]
    exact k
theorem scRuleL : FnScope ["start", "end", "period", "least", "v"] ["start", "end", "period", "least"] (defScope sRuleL) := ⟨rfl, rfl, rfl, by decide +kernel, rfl, by decide +kernel, by decide +kernel⟩
theorem ok_ruleL (F : Fun K "rule_lead" "rule_lead" sRuleL f fd) (mk : Mkr P w K mg base 5 C "Lead" (spInit C)) (fUp : Cf P w K mg base 1 "up" spUp) (fRe : Cf P w K mg base 1 "rests" spRests) : FnOk P w K mg base CX0 7 f fd ["start", "end", "period", "least"] (spRuleL C) := by
  refine F.ok scRuleL (fun vs H Q E h => ?_) (fun cdv A outer s H vs Q E hr h => ?_)
  · obtain ⟨a, b, L, c, rfl, _⟩ := h
    rfl
  · obtain ⟨a, b, L, c, rfl, ha, hb, ok, k⟩ := h
    have few := ok.few
    have s0 := ok.sem.s0
    have n0 := ok.sem.n0
    have n1 := ok.n1
    refine ⟨_, (pss_one (ps_ret (pe_mkr mk hr (by decide) (by rfl) (pa_cons (pv 0) (pa_cons (pv 1) (pa_cons (pv 2) (pa_cons (pe_lc (own := [("v", 4)]) (by rfl) scRuleL.nd (pi_list (pe_f fRe hr (by decide) (by rfl) (pa_cons (pv 0) (pa_cons (pv 2) pa_nil)))) (blkOk_by (N := ["start", "end", "period", "least", "v"]) (sc := defScope sRuleL) (by decide +kernel)) (fun _ _ _ _ _ => (pg_name (i := 4) scRuleL.nd rfl (.inl rfl))) (fun _ _ _ _ _ => pts_nil) (fun _ _ _ _ _ => (pe_f fUp hr (by decide) (by rfl) (pa_cons (pv 1) (pa_cons (pe_op op_add (pv 4) (pv 3)) pa_nil))))) pa_nil))))))), ?_⟩
    refine ⟨_, rfl, _, rfl, _, rfl, _, rfl, _, rfl, a, L.f, L.s, L.n, rfl, ha, s0, ok.s1, ok.sem.sd, n0, n1, fun p np => ?_⟩
    have s1 := same_new (H := H) (o := .lst ((nums L.f L.s L.n).map V.int)) np
    have hp := upd_same (H := H) (a := p) (o := .lst ((nums L.f L.s L.n).map V.int))
    refine ⟨p, rfl, ⟨_, SqL.of hp⟩, fun D nD => ?_⟩
    revert s1 hp nD
    generalize upd H p (.lst ((nums L.f L.s L.n).map V.int)) = H1
    intro s1 hp nD
    refine lc_it walk_list (fun i H3 => Same H1 H3 ∧ H3 D = some (.lst (((rowOf L (fun v => upv L.g L.r (v + c))).take i).map V.int))) ⟨same_new nD, upd_same⟩ (fun i H3 _ z => SqL.of (z.1 _ _ hp)) ?_ ?_
    · rintro i y H3 H4 hi ⟨s3, hD⟩ ⟨rfl, hy⟩
      rw [List.length_map, nums_len] at hi
      obtain rfl : V.int (L.f % L.s + (i : Nat) * L.s) = y := by
        rw [List.getElem?_map, nums_at hi] at hy
        exact Option.some.inj hy
      have s13 := s1.trans s3
      refine ⟨rfl, _, rfl, _, rfl, _, rfl, _, _, rfl, rfl, b, L.g, L.r, _, rfl, s13 _ _ hb, ok.sem.r0, ?_⟩
      refine ⟨_, hD, big5000 (by rw [List.length_map, List.length_take]; omega), fun b o z => by rw [upd_ne (ne_of_none z nD)]; exact s3 b o z, ?_⟩
      rw [upd_same, List.take_succ, row_at (L := L) hi, List.map_append]
      rfl
    · rintro H3 ⟨s3, hD⟩
      rw [List.take_of_length_le (by rw [row_len, List.length_map, nums_len]; exact Nat.le_refl _)] at hD
      have s03 := s1.trans s3
      refine fun x dxx nx ndx ne => ?_
      exact mk_ok nx ndx ne hD (s03 _ _ ha) (s03 _ _ hb) ok fun H5 s5 ld => k x H5 (s03.trans s5) ld
theorem scStay : FnScope ["clock", "period"] ["clock", "period"] (defScope sStay) := ⟨rfl, rfl, rfl, by decide +kernel, rfl, by decide +kernel, by decide +kernel⟩
theorem ok_stay (F : Fun K "staying_lead" "staying_lead" sStay f fd) (mk : Mkr P w K mg base 5 C "Lead" (spInit C)) (fRe : Cf P w K mg base 1 "rests" spRests) : FnOk P w K mg base CX0 7 f fd ["clock", "period"] (spStay C) := by
  refine F.ok scStay (fun vs H Q E h => ?_) (fun cdv A outer s H vs Q E hr h => ?_)
  · obtain ⟨a, f, s, n, rfl, _⟩ := h
    rfl
  · obtain ⟨a, f, s, n, rfl, ha, ok, k⟩ := h
    refine ⟨_, (pss_one (ps_ret (pe_mkr mk hr (by decide) (by rfl) (pa_cons (pv 0) (pa_cons (pv 0) (pa_cons (pv 1) (pa_cons (pe_f fRe hr (by decide) (by rfl) (pa_cons (pv 0) (pa_cons (pv 1) pa_nil))) pa_nil))))))), ?_⟩
    refine ⟨_, rfl, _, rfl, _, rfl, _, rfl, _, rfl, a, f, s, n, rfl, ha, ok.sem.s0, ok.s1, ok.sem.sd, ok.sem.n0, ok.n1, fun p np => ?_⟩
    have s1 := same_new (H := H) (o := .lst ((nums f s n).map V.int)) np
    have hp := upd_same (H := H) (a := p) (o := .lst ((nums f s n).map V.int))
    revert s1 hp
    generalize upd H p (.lst ((nums f s n).map V.int)) = H1
    intro s1 hp
    rw [← row_id ⟨f, s, f, s, n⟩] at hp
    refine fun x dxx nx ndx ne => ?_
    exact mk_ok nx ndx ne hp (s1 _ _ ha) (s1 _ _ ha) ok fun H5 s5 ld => k x H5 (s1.trans s5) ld
theorem scBackOf : FnScope ["lead", "start", "end", "period", "numbers", "v", "row", "u"] ["lead"] (defScope sBackOf) := ⟨rfl, rfl, rfl, by decide +kernel, rfl, by decide +kernel, by decide +kernel⟩
theorem nums_at0 {f s n : Int} (h : 0 < (n / s).toNat) : atI ((nums f s n).map V.int) 0 = some (.int (f % s)) := by
  have e := nums_at (f := f) h
  cases q : nums f s n with
  | nil =>
    rw [q] at e
    cases e
  | cons x xs =>
    rw [q] at e
    have e2 : x = f % s + ((0 : Nat) : Int) * s := Option.some.inj e
    rw [List.map_cons, atI_0, e2]
    simp
theorem ok_backOf (F : Fun K "back_of" "back_of" sBackOf f fd) (cn : ClsL K C) (M : MethL P w K mg base C) (mk : Mkr P w K mg base 5 C "Lead" (spInit C)) (fRe : Cf P w K mg base 1 "rests" spRests) : FnOk P w K mg base CX0 7 f fd ["lead"] (spBackOf C) := by
  refine F.ok scBackOf (fun vs H Q E h => ?_) (fun cdv A outer s H vs Q E hr h => ?_)
  · obtain ⟨a, L, F, rfl, _⟩ := h
    rfl
  · obtain ⟨a, L, F, rfl, la, oa, k⟩ := h
    have few := oa.few
    have s0 := oa.sem.s0
    have s1' := oa.s1
    have r0 := oa.sem.r0
    have n0 := oa.sem.n0
    have n1 := oa.n1
    have posa := oa.pos
    have posb : 0 < (L.n / L.r).toNat := oa.bk.pos
    have fewb : (L.n / L.r).toNat ≤ 3600 := oa.bk.few
    refine ⟨_, (pss_cons (ps_par3 (i := 1) (j := 2) (l := 3) (by rfl) scBackOf.nd rfl rfl rfl (by decide) (by decide) (by decide) rfl rfl rfl (pa_cons (pe_m0' cn.cls M.start hr (by decide) (pv 0)) (pa_cons (pe_m0' cn.cls M.end_ hr (by decide) (pv 0)) (pa_cons (pe_m0' cn.cls M.period hr (by decide) (pv 0)) pa_nil))) (by rfl))
      (pss_cons (ps_set (i := 4) scBackOf.nd rfl (.inl rfl) (pe_f fRe hr (by decide) (by rfl) (pa_cons (pv 2) (pa_cons (pv 3) pa_nil))))
      (pss_cons (ps_set (i := 5) scBackOf.nd rfl (.inl rfl) (pe_ix ix_list (pe_f fRe hr (by decide) (by rfl) (pa_cons (pv 1) (pa_cons (pv 3) pa_nil))) pe_int (fun _ _ => rfl)))
      (pss_cons (ps_set (i := 5) scBackOf.nd rfl (.inl rfl) (pe_op op_add (pv 5) (pe_op op_mul (pe_op op_fdiv (pe_op op_sub (pe_ix ix_list (pv 4) pe_int (fun _ _ => rfl)) (pe_m cn.cls M.at_ hr (by decide) (pv 0) (pa_cons (pv 5) pa_nil))) (pv 3)) (pv 3))))
      (pss_cons (ps_set (i := 6) scBackOf.nd rfl (.inl rfl) (pe_lst pa_nil))
      (pss_cons (ps_for PassesOwn.never rfl (pi_list (pv 4)) (pg_name (i := 7) scBackOf.nd rfl (.inl rfl))
        (pss_cons (ps_while PassesOwn.never (pt_cmpR op_le (pe_m cn.cls M.at_ hr (by decide) (pv 0) (pa_cons (pe_op op_add (pv 5) (pe_ix ix_tup (pv 1) pe_int (fun _ _ => rfl))) pa_nil)) (pv 7) (nomark _))
          (pss_one (ps_set (i := 5) scBackOf.nd rfl (.inl rfl) (pe_op op_add (pv 5) (pe_ix ix_tup (pv 1) pe_int (fun _ _ => rfl))))))
        (pss_one (ps_expr (pe_bm PySem.F.plainAttrs_list PySem.F.slot_list_append PySem.F.type_list_append mt_append (pv 6) (pa_cons (pv 5) pa_nil))))))
      (pss_one (ps_ret (pe_mkr mk hr (by decide) (by rfl) (pa_cons (pv 2) (pa_cons (pv 1) (pa_cons (pv 3) (pa_cons (pv 6) pa_nil))))))))))))), ?_⟩
    obtain ⟨dx, fs, ia, a1, a2, a3, a4, a5⟩ := ld_ins la
    refine ⟨_, rfl, a, dx, fs, rfl, ia, a1, a, L, F, rfl, la, fun sa hsa => ?_⟩
    refine ⟨_, rfl, a, dx, fs, rfl, ia, a2, a, L, F, rfl, la, fun ea hea => ?_⟩
    refine ⟨_, rfl, a, dx, fs, rfl, ia, a3, a, L, F, rfl, la, ?_⟩
    refine ⟨_, _, _, rfl, ?_⟩
    have q : Same H H := fun _ _ z => z
    -- numbers
    refine ⟨_, rfl, _, rfl, ea, L.g, L.r, L.n, rfl, q _ _ hea, r0, oa.r1, oa.sem.rd, n0, n1, fun pn npn => ?_⟩
    have q2 := q.trans (same_new (o := .lst ((nums L.g L.r L.n).map V.int)) npn)
    have hpn := upd_same (H := H) (a := pn) (o := .lst ((nums L.g L.r L.n).map V.int))
    revert q2 hpn
    generalize upd H pn (.lst ((nums L.g L.r L.n).map V.int)) = H2
    intro q2 hpn
    clear q npn
    -- v
    refine ⟨_, rfl, _, rfl, sa, L.f, L.s, L.n, rfl, q2 _ _ hsa, s0, oa.s1, oa.sem.sd, n0, n1, fun pv npv => ?_⟩
    refine ⟨pv, _, _, _, rfl, rfl, SqL.of upd_same, nums_at0 posa, ?_⟩
    have q3 := q2.trans (same_new (o := .lst ((nums L.f L.s L.n).map V.int)) npv)
    have hpn := (same_new (o := .lst ((nums L.f L.s L.n).map V.int)) npv) _ _ hpn
    revert q3 hpn
    generalize upd H2 pv (.lst ((nums L.f L.s L.n).map V.int)) = H3
    intro q3 hpn
    clear q2 npv
    have on0 : (L.f % L.s - L.f) % L.s = 0 := by
      have e := Int.emod_add_mul_ediv L.f L.s
      rw [show L.f % L.s - L.f = L.s * (-(L.f / L.s)) by rw [Int.mul_neg]; omega]
      exact Int.mul_emod_right _ _
    refine ⟨_, rfl, _, rfl, pn, _, _, _, rfl, rfl, SqL.of hpn, nums_at0 posb, _, rfl, a, dx, fs, rfl, q3 _ _ ia, a5, _, rfl, a, L, F, _, rfl, la.same q3, oa, on0, _, _, rfl, rfl, _, rfl, _, _, rfl, rfl, ⟨n0, by omega⟩, _, rfl, _, _, rfl, rfl, .inr ⟨by omega, by omega⟩, _, _, rfl, rfl, ?_⟩
    refine ⟨(by show 0 ≤ sizeLine; decide), fun D nD => ?_⟩
    have q4 := same_new (H := H3) (o := .lst []) nD
    have hD4 := upd_same (H := H3) (a := D) (o := .lst [])
    have pn4 := q4 _ _ hpn
    refine ⟨_, rfl, pn, rfl, ⟨_, SqL.of pn4⟩, ?_⟩
    have nD' := nD
    have lenb : ((nums L.g L.r L.n).map V.int).length = (L.n / L.r).toNat := by rw [List.length_map, nums_len]
    have start : (L.f % L.s + (L.g % L.r - F (L.f % L.s)) / L.n * L.n - L.f) % L.s = 0 ∧ F (L.f % L.s + (L.g % L.r - F (L.f % L.s)) / L.n * L.n) ≤ L.g % L.r + ((0 : Nat) : Int) * L.r := by
      refine ⟨on_mul oa.sem.sd on0, ?_⟩
      rw [oa.sem.perz on0]
      have e := Int.emod_add_mul_ediv (L.g % L.r - F (L.f % L.s)) L.n
      have := Int.emod_nonneg (L.g % L.r - F (L.f % L.s)) (show L.n ≠ 0 by omega)
      rw [Int.mul_comm] at e
      simp only [Int.natCast_zero, Int.zero_mul]
      omega
    revert q4 hD4 pn4 start
    generalize upd H3 D (.lst []) = H4
    intro q4 hD4 pn4 start
    have nDa : ∀ b o, H3 b = some o → b ≠ D := fun b o z => ne_of_none z nD
    refine for_it (walk_list (xs := (nums L.g L.r L.n).map V.int)) (fun i σ H5 => ∃ (v : Int) (v7 : Option V), σ = [some (.ref a), some (.ref sa), some (.ref ea), some (.int L.n), some (.ref pn), some (.int v), some (.ref D), v7] ∧ (v - L.f) % L.s = 0 ∧ F v ≤ L.g % L.r + (i : Nat) * L.r ∧ Same H3 H5 ∧ H5 D = some (.lst (((rowOf (bkL L) (backF L.f L.s F)).take i).map V.int))) ⟨_, _, rfl, start.1, start.2, q4, hD4⟩ (fun i σ H5 _ ⟨_, _, _, _, _, z, _⟩ => SqL.of (z _ _ hpn)) ?_ ?_
    · rintro i y σ H5x H5 hi ⟨v, v7, rfl, on1, le1, q5, hD5⟩ ⟨rfl, hy⟩
      rw [lenb] at hi
      obtain rfl : V.int (L.g % L.r + (i : Nat) * L.r) = y := by
        rw [List.getElem?_map, nums_at hi] at hy
        exact Option.some.inj hy
      have q35 := q3.trans q5
      refine ⟨fun m σ H6 => ∃ v : Int, m = (backF L.f L.s F (L.g % L.r + (i : Nat) * L.r) - v).toNat ∧ σ = [some (.ref a), some (.ref sa), some (.ref ea), some (.int L.n), some (.ref pn), some (.int v), some (.ref D), some (.int (L.g % L.r + (i : Nat) * L.r))] ∧ (v - L.f) % L.s = 0 ∧ F v ≤ L.g % L.r + (i : Nat) * L.r ∧ H6 = H5, ⟨_, v, rfl, rfl, on1, le1, rfl⟩, ?_⟩
      rintro m σ H6 ⟨v, rfl, rfl, on2, le2, rfl⟩
      refine ⟨_, rfl, a, dx, fs, rfl, q35 _ _ ia, a5, _, rfl, _, rfl, sa, _, _, _, rfl, rfl, SqT.of (q35 _ _ hsa), at1, _, _, rfl, rfl, a, L, F, _, rfl, la.same q35, oa, on_step on2, ?_⟩
      refine ⟨_, rfl, _, _, rfl, rfl, _, rfl, ?_⟩
      by_cases go : F (v + L.s) ≤ L.g % L.r + (i : Nat) * L.r
      · rw [decide_eq_true go]
        refine iteT ⟨fun σ' H' => σ' = [some (.ref a), some (.ref sa), some (.ref ea), some (.int L.n), some (.ref pn), some (.int (v + L.s)), some (.ref D), some (.int (L.g % L.r + (i : Nat) * L.r))] ∧ H' = H6, ?_, ?_⟩
        · rintro σ' H' ⟨rfl, rfl⟩
          have := oa.sem.back_le (oa.sem.back_is _) (on_step on2) go
          exact ⟨_, by omega, v + L.s, rfl, rfl, on_step on2, go, rfl⟩
        · exact ⟨_, rfl, _, rfl, sa, _, _, _, rfl, rfl, SqT.of (q35 _ _ hsa), at1, _, _, rfl, rfl, rfl, rfl⟩
      · rw [decide_eq_false go]
        refine iteF ?_
        have ev : backF L.f L.s F (L.g % L.r + (i : Nat) * L.r) = v := oa.sem.back_eq ⟨on2, le2, by omega⟩
        refine ⟨_, rfl, .inl ⟨rfl, _, .inl (.inl hD5)⟩, _, rfl, D, _, _, rfl, rfl, hD5, big5000 (by rw [List.length_map, List.length_take]; omega), v, _, rfl, on2, ?_, fun b o z => by rw [upd_ne (nDa b o z)]; exact q5 b o z, ?_⟩
        · rw [show ((i + 1 : Nat) : Int) = (i : Int) + 1 by omega, Int.add_mul]
          omega
        · rw [upd_same, List.take_succ, row_at (L := bkL L) hi, List.map_append, ← ev]
          rfl
    · rintro σ H5 ⟨v, v7, rfl, on1, le1, q5, hD5⟩
      rw [List.take_of_length_le (by rw [row_len, lenb]; exact Nat.le_refl _)] at hD5
      have q35 := q3.trans q5
      refine ⟨_, rfl, _, rfl, _, rfl, _, rfl, fun x dxx nx ndx ne => ?_⟩
      exact mk_ok (L := bkL L) (F := backF L.f L.s F) nx ndx ne hD5 (q35 _ _ hea) (q35 _ _ hsa) oa.bk fun H6 s6 ld => k x H6 (q35.trans s6) ld
end
end L18
namespace Rt
open PySem PySem.Spec L2
open PyProof.Rows hiding St
/-! ### methods of lists and len in comprehensions: the world of the element is not named in what they ask -/
theorem pe_bmK {X : Cx} {K : PySem.W.Frag} {o e : Expr} {es : List Expr} {to : TE} {t : TA} {name : Str} {apos cpos : Pos} {T id : String} {r : V → List V → Hp → VK → Prop} (hK : X.K = K) (pa : PlainAttrs T) (slot : Slot T name id) (hty : typeOf (.builtin id) = pure (.type "method_descriptor")) (hm : MtR X id r) (ho : PE X o to) (ha : PA X (e :: es) t)
    (hbase : attributeBase o name X.env (eval o X.env) = eval o X.env := by rfl)
    (hfew : ((backTo cpos (starEach (e :: es) X.env)).all (fun x => !x.1) && (backToKw cpos (keywordEach [] X.env)).all (fun x => x.1.isSome)
      && decide ((e :: es).length + ([] : List Keyword).length + (if ([] : List Keyword).isEmpty then 0 else 1) < 30)) = true := by rfl)
    (hline : (apos.endLine == cpos.line) = true := by rfl) (hs : starEach (e :: es) X.env = (false, eval e X.env) :: starEach es X.env := by rfl) (hplain : (backTo cpos (starEach es X.env)).any (·.1) = false := by rfl) :
    PE X (.Call (.Attribute o name apos) (e :: es) [] cpos) (tBM K T r to t) := by
  subst hK
  exact pe_bm pa slot hty hm ho ha hbase hfew hline hs hplain
def rLenS (K : PySem.W.Frag) : List V → Hp → VK → Prop := fun xs H Q => ∃ p ys, xs = [V.ref p] ∧ (SqL K H p ys ∨ SqT K H p ys) ∧ Q (.int ((ys.length : Nat) : Int)) H
theorem call_lenK {X : Cx} {K : PySem.W.Frag} (hK : X.K = K) : CallR X (.builtin "len") (rLenS K) := by
  subst hK
  exact call_len_seq
end Rt
namespace L18
open PySem PySem.Spec L2 Rt Rs Ld
open PyProof.Rows hiding St

abbrev sLInt : Stmt := top 33
abbrev sLOn : Stmt := top 34
abbrev sMixed : Stmt := top 30
abbrev sLBack : Stmt := top 42
def spMixed : Sp := fun vs H Q _ => ∃ (d c p : Addr) (zs : List Int), vs = [.ref d, .ref p] ∧ Src H d c ∧ mask d c H p = some (.lst (zs.map V.int)) ∧ zs.length ≤ 3600 ∧
  ∀ (q : Addr) (ys : List Int) (H' : Hp), Src H' d c → Keep d c H H' → mask d c H' q = some (.lst (ys.map V.int)) → (∀ y, y ∈ ys → y ∈ zs) → ys.length ≤ 3600 → Q (.ref q) H'
def spLBack : Sp := fun vs H Q _ => ∃ (D : Addr) (L : LP) (F : Int → Int) (u : Int), vs = [.ref D, .int u] ∧ DL H D L.f L.s L.g L.r L.n (rowOf L F) ∧ LOk L F ∧ Q (.int (backF L.f L.s F u)) H
theorem row_at0 {L : LP} {F : Int → Int} (h : 0 < (L.n / L.s).toNat) : atI ((rowOf L F).map V.int) 0 = some (.int (F (L.f % L.s))) := by
  have e := row_at (F := F) h
  cases q : rowOf L F with
  | nil =>
    rw [q] at e
    cases e
  | cons x xs =>
    rw [q] at e
    have e2 : x = F (L.f % L.s + ((0 : Nat) : Int) * L.s) := Option.some.inj e
    rw [List.map_cons, atI_0, e2]
    simp
theorem mask_ne {d c b : Addr} {H : Hp} {o : HO} (h : mask d c H b = some o) : b ≠ d ∧ b ≠ c := by
  unfold mask at h
  refine ⟨fun z => ?_, fun z => ?_⟩
  · rw [if_pos (.inl z)] at h
    cases h
  · rw [if_pos (.inr z)] at h
    cases h
theorem LOk.idx {L : LP} {F : Int → Int} (ok : LOk L F) {v : Int} (hv : (v - L.f) % L.s = 0) : v % L.n / L.s < ((rowOf L F).length : Int) := by
  obtain ⟨i, hi, ei, _⟩ := place_of ok.sem.s0 ok.sem.n0 ok.sem.sd hv
  rw [ei, row_len]
  omega
theorem erase_map (f : Int → V) : ∀ (l : List Int) (k : Nat), (l.map f).eraseIdx k = (l.eraseIdx k).map f
  | [], _ => rfl
  | a :: l, 0 => rfl
  | a :: l, k + 1 => congrArg (f a :: ·) (erase_map f l k)
theorem none_but {H : Hp} {R D : Addr} {o : HO} (n : upd H R o D = none) : H D = none ∧ D ≠ R := by
  by_cases e : D = R
  · subst e
    rw [upd_same] at n
    cases n
  · rw [upd_ne e] at n
    exact ⟨n, e⟩

section
variable {P : Program} {w : World} {K : PySem.W.Frag} {mg : Str → Option Value} {base : Heap} {f C : Addr} {fd : FuncData}

theorem scLInt : FnScope ["value"] ["value"] (defScope sLInt) := ⟨rfl, rfl, rfl, by decide +kernel, rfl, by decide +kernel, by decide +kernel⟩
theorem ok_lInt (F : Fun K "_law_is_integer" "_law_is_integer" sLInt f fd) (T : Wds mg) : FnG P w K mg base 1 f fd ["value"] spIsInt := by
  refine okG F scLInt (fun vs H Q E h => ?_) (fun cdv A outer s H vs Q E hg hr h => ?_)
  · obtain ⟨v, rfl, _⟩ := h
    rfl
  · obtain ⟨v, rfl, ho, k⟩ := h
    obtain ⟨T1, b1, b2, ty, k1, k2, e⟩ := od_type (K := K) ho
    refine ⟨_, (pss_one (ps_ret (pe_and (pe_callB call_isi (by rfl) T.zisinstance (by decide +kernel) (pa_cons (pv 0) (pa_cons (pe_bltn (v := .ty "int") (by rfl) T.zint (by decide +kernel) rfl) pa_nil))) (pe_one (pe_not (pe_callB call_isi (by rfl) T.zisinstance (by decide +kernel) (pa_cons (pv 0) (pa_cons (pe_bltn (v := .ty "bool") (by rfl) T.zbool (by decide +kernel) rfl) pa_nil)))))))), ?_⟩
    refine ⟨_, rfl, v, .ty "int", _, .type "int", b1, rfl, .ty _, ty, kit_ty k1, b1, rfl, ?_⟩
    cases b1 with
    | true =>
      refine iteT ?_
      refine ⟨_, rfl, v, .ty "bool", _, .type "bool", b2, rfl, .ty _, ty, kit_ty k2, b2, rfl, ?_⟩
      rw [show (!b2) = isI v from by simpa using e]
      exact k
    | false =>
      refine iteF ?_
      rw [show false = isI v from by simpa using e]
      exact k
theorem scLOn : FnScope ["clock", "value"] ["clock", "value"] (defScope sLOn) := ⟨rfl, rfl, rfl, by decide +kernel, rfl, by decide +kernel, by decide +kernel⟩
theorem ok_lOn (F : Fun K "_law_is_on" "_law_is_on" sLOn f fd) (T : Wds mg) (cI : Cb P w K mg base 1 "_law_is_integer" spIsInt) : FnG P w K mg base 2 f fd ["clock", "value"] spOn := by
  refine okG F scLOn (fun vs H Q E h => ?_) (fun cdv A outer s H vs Q E hg hr h => ?_)
  · obtain ⟨t, f, s, v, rfl, _⟩ := h
    rfl
  · obtain ⟨t, f, s, v, rfl, ht, hs, ho, k⟩ := h
    refine ⟨_, (pss_one (ps_ret (pe_and (pe_k cI hg hr (by decide) (by rfl) (pa_cons (pv 1) pa_nil)) (pe_one (pe_cmpR op_eq (pe_op op_mod (pe_callTy call_int1 (by rfl) T.zint (by decide +kernel) (pa_cons (pe_op op_sub (pv 1) (pe_ix ix_tup (pv 0) pe_int (fun _ _ => rfl))) pa_nil)) (pe_ix ix_tup (pv 0) pe_int (fun _ _ => rfl))) pe_int (nomark _)))))), ?_⟩
    refine ⟨_, rfl, v, rfl, ho, _, rfl, ?_⟩
    cases v with
    | int i =>
      refine iteT ?_
      refine ⟨_, rfl, _, rfl, t, _, _, _, rfl, rfl, SqT.of ht, at0, _, _, rfl, rfl, .inl ⟨_, rfl, _, rfl, t, _, _, _, rfl, rfl, SqT.of ht, at1, _, _, rfl, rfl, hs, rfl, ?_⟩⟩
      rw [dec_V]
      exact k
    | _ => exact iteF k
theorem scMixed : FnScope ["source", "things", "rest", "lap"] ["source", "things"] (defScope sMixed) := ⟨rfl, rfl, rfl, by decide +kernel, rfl, by decide +kernel, by decide +kernel⟩
theorem ok_mixed (F : Fun K "_law_mixed" "_law_mixed" sMixed f fd) (T : Wds mg) (cP : Cb P w K mg base 1 "_law_pick" spPick) : FnG P w K mg base 2 f fd ["source", "things"] spMixed := by
  refine okG F scMixed (fun vs H Q E h => ?_) (fun cdv A outer s H vs Q E hg hr h => ?_)
  · obtain ⟨d, c, p, zs, rfl, _⟩ := h
    rfl
  · obtain ⟨d, c, p, zs, rfl, S, hp, few, k⟩ := h
    refine ⟨_, (pss_cons (ps_set (i := 2) scMixed.nd rfl (.inr rfl) (pe_callTy call_list_of (by rfl) T.zlist (by decide +kernel) (pa_cons (pv 1) pa_nil)))
      (pss_one (ps_ret (pe_lc (own := [("lap", 3)]) (by rfl) scMixed.nd (pi_range1 (by rfl) T.zrange (pa_cons (pe_callB call_len_seq (by rfl) T.zlen (by decide +kernel) (pa_cons (pv 2) pa_nil)) pa_nil)) (blkOk_by (N := ["source", "things", "rest", "lap"]) (sc := defScope sMixed) (by decide +kernel)) (fun _ _ _ _ _ => (pg_name (i := 3) scMixed.nd rfl (.inl rfl))) (fun _ _ _ _ _ => pts_nil) (fun _ _ _ _ _ => (pe_bmK (K := K) rfl PySem.F.plainAttrs_list PySem.F.slot_list_pop PySem.F.type_list_pop mt_popAt (pv 2) (pa_cons (pe_k cP hg hr (by decide) (by rfl) (pa_cons (pv 0) (pa_cons (pe_callB (call_lenK (K := K) rfl) (by rfl) T.zlen (by decide +kernel) (pa_cons (pv 2) pa_nil)) pa_nil))) pa_nil))))))), ?_⟩
    refine ⟨_, rfl, p, _, rfl, .inl (SqL.of (mask_same _ _ hp)), fun R nR => ?_⟩
    have hR := upd_same (H := H) (a := R) (o := .lst (zs.map V.int))
    have aR := S.away nR
    refine ⟨_, rfl, R, _, rfl, .inl (.inl (.inl hR)), _, rfl, by omega, by rw [List.length_map]; omega, fun D nD => ?_⟩
    obtain ⟨nD0, DR⟩ := none_but nD
    have aD := S.away nD0
    have len : ((((zs.map V.int).length : Nat) : Int)).toNat = zs.length := by rw [List.length_map, Int.toNat_natCast]
    rw [len]
    refine lc_range (lo := 0) (fun i H6 => Keep d c H H6 ∧ Src H6 d c ∧ ∃ rs ys : List Int, mask d c H6 R = some (.lst (rs.map V.int)) ∧ mask d c H6 D = some (.lst (ys.map V.int)) ∧ rs.length + i = zs.length ∧ ys.length = i ∧ (∀ y, y ∈ rs → y ∈ zs) ∧ ∀ y, y ∈ ys → y ∈ zs) ⟨(Keep.refl.new nR).new nD, (S.new nR).new nD, zs, [], mask_at aR (by rw [upd_ne DR.symm]; exact hR), mask_at aD upd_same, rfl, rfl, fun y h => h, fun y h => nomatch h⟩ ?_ ?_
    · rintro i H6 hi ⟨k6, S6, rs, ys, mR, mD, lr, ly, inr, iny⟩
      have hR6 := mask_same _ _ mR
      refine ⟨rfl, _, rfl, .inl ⟨rfl, _, .inl (.inl hR6)⟩, _, rfl, _, rfl, R, _, rfl, .inl (.inl (.inl hR6)), d, c, _, rfl, S6, by rw [List.length_map]; omega, fun x H7 x0 x1 S7 k7 => ?_⟩
      rw [List.length_map] at x1
      have xl : x.toNat < rs.length := by omega
      have mR7 := mask_keep k7 _ _ mR
      have mD7 := mask_keep k7 _ _ mD
      have hR7 := mask_same _ _ mR7
      refine ⟨R, _, x, x.toNat, .int rs[x.toNat], rfl, rfl, hR7, by omega, by omega, ?_, ?_, ?_⟩
      · rw [List.length_map]
        exact PySem.StrLaws.seqIndex_nonneg x0 (by omega)
      · rw [List.getElem?_map, List.getElem?_eq_getElem xl]
        rfl
      have hD8 : (upd H7 R (.lst ((rs.map V.int).eraseIdx x.toNat))) D = some (.lst (ys.map V.int)) := by
        rw [upd_ne DR]
        exact mask_same _ _ mD7
      refine ⟨_, hD8, big5000 (by rw [List.length_map]; omega), ((k6.trans k7).put nR).put nD0, (S7.put aR).put aD, rs.eraseIdx x.toNat, ys ++ [rs[x.toNat]], mask_at aR ?_, mask_at aD ?_, ?_, by rw [List.length_append, ly]; rfl, fun y hy => inr y (List.mem_of_mem_eraseIdx hy), fun y hy => ?_⟩
      · rw [upd_ne DR.symm, upd_same]
        exact congrArg (fun l => some (HO.lst l)) (erase_map V.int rs x.toNat)
      · rw [upd_same, List.map_append]
        rfl
      · rw [List.length_eraseIdx, if_pos xl]
        omega
      · rcases List.mem_append.mp hy with h | h
        · exact iny y h
        · cases List.mem_singleton.mp h
          exact inr _ (List.getElem_mem xl)
    · rintro H6 ⟨k6, S6, rs, ys, mR, mD, lr, ly, inr, iny⟩
      exact k D ys H6 S6 k6 mD iny (by omega)
theorem scLBack : FnScope ["lead", "u", "v"] ["lead", "u"] (defScope sLBack) := ⟨rfl, rfl, rfl, by decide +kernel, rfl, by decide +kernel, by decide +kernel⟩
theorem ok_lBack (F : Fun K "_law_back" "_law_back" sLBack f fd) (cU : Cb P w K mg base 1 "_law_up" spLUp) (cV : Cb P w K mg base 1 "_law_value" spValue) : FnG P w K mg base 2 f fd ["lead", "u"] spLBack := by
  refine okG F scLBack (fun vs H Q E h => ?_) (fun cdv A outer s H vs Q E hg hr h => ?_)
  · obtain ⟨D, L, F, u, rfl, _⟩ := h
    rfl
  · obtain ⟨D, L, F, u, rfl, dl, ok, k⟩ := h
    have hu := hu_of hr
    have s0 := ok.sem.s0
    have s1 := ok.s1
    have n0 := ok.sem.n0
    have n1 := ok.n1
    refine ⟨_, (pss_cons (ps_set (i := 2) scLBack.nd rfl (.inl rfl) (pe_k cU hg hr (by decide) (by rfl) (pa_cons (pe_dget hu (pv 0) pe_str (fun _ _ => rfl)) (pa_cons (pe_op op_sub (pe_op op_sub (pv 1) (pe_ix ix_list (pe_dget hu (pv 0) pe_str (fun _ _ => rfl)) pe_int (fun _ _ => rfl))) (pe_op op_mul pe_int (pe_dget hu (pv 0) pe_str (fun _ _ => rfl)))) pa_nil))))
      (pss_cons (ps_while PassesOwn.never (pt_cmpR op_gt (pe_k cV hg hr (by decide) (by rfl) (pa_cons (pv 0) (pa_cons (pv 2) pa_nil))) (pv 1) (nomark _))
        (pss_one (ps_set (i := 2) scLBack.nd rfl (.inl rfl) (pe_op op_sub (pv 2) (pe_dget hu (pv 0) pe_str (fun _ _ => rfl))))))
      (pss_cons (ps_while PassesOwn.never (pt_cmpR op_le (pe_k cV hg hr (by decide) (by rfl) (pa_cons (pv 0) (pa_cons (pe_op op_add (pv 2) (pe_ix ix_tup (pe_dget hu (pv 0) pe_str (fun _ _ => rfl)) pe_int (fun _ _ => rfl))) pa_nil))) (pv 1) (nomark _))
        (pss_one (ps_set (i := 2) scLBack.nd rfl (.inl rfl) (pe_op op_add (pv 2) (pe_ix ix_tup (pe_dget hu (pv 0) pe_str (fun _ _ => rfl)) pe_int (fun _ _ => rfl))))))
      (pss_one (ps_ret (pv 2)))))), ?_⟩
    obtain ⟨kvs, sa, ea, ra, h0, v1, v2, v3, v4, h5, h6, h7⟩ := dl.ex
    refine ⟨_, rfl, D, _, rfl, dgetK h0 v1, _, rfl, _, rfl, D, _, rfl, dgetK h0 v4, ra, _, _, _, rfl, rfl, SqL.of h7, row_at0 ok.pos, _, _, rfl, rfl, _, rfl, D, _, rfl, dgetK h0 v3, _, _, rfl, rfl, .inl ⟨by decide, by decide⟩, _, _, rfl, rfl, sa, L.f, L.s, _, rfl, h5, s0, by omega, ?_⟩
    have on0 := upv_on L.f L.s (u - F (L.f % L.s) - 3 * L.n)
    refine ⟨fun m σ H1 => ∃ v : Int, m = (F v - u).toNat ∧ σ = [some (.ref D), some (.int u), some (.int v)] ∧ (v - L.f) % L.s = 0 ∧ H1 = H, ⟨_, _, rfl, rfl, on0, rfl⟩, ?_⟩
    rintro m σ H1 ⟨v, rfl, rfl, on1, rfl⟩
    refine ⟨_, rfl, _, rfl, D, L.f, L.s, L.g, L.r, L.n, v, rowOf L F, rfl, dl, s0, s1, n0, n1, ok.idx on1, ?_⟩
    rw [ok.sem.val on1]
    refine ⟨_, rfl, _, _, rfl, rfl, _, rfl, ?_⟩
    by_cases go : F v > u
    · rw [decide_eq_true go]
      refine iteT ⟨fun σ' H' => σ' = [some (.ref D), some (.int u), some (.int (v - L.n))] ∧ H' = H1, ?_, ?_⟩
      · rintro σ' H' ⟨rfl, rfl⟩
        have q := ok.sem.perz on1 (-1)
        rw [show v + -1 * L.n = v - L.n by omega] at q
        have o := on_mul (k := -1) ok.sem.sd on1
        rw [show v + -1 * L.n = v - L.n by omega] at o
        exact ⟨_, by rw [q]; omega, v - L.n, rfl, rfl, o, rfl⟩
      · exact ⟨_, rfl, _, rfl, D, _, rfl, dgetK h0 v3, _, _, rfl, rfl, rfl, rfl⟩
    · rw [decide_eq_false go]
      refine iteF ?_
      refine ⟨fun m σ H2 => ∃ v : Int, m = (backF L.f L.s F u - v).toNat ∧ σ = [some (.ref D), some (.int u), some (.int v)] ∧ (v - L.f) % L.s = 0 ∧ F v ≤ u ∧ H2 = H1, ⟨_, v, rfl, rfl, on1, by omega, rfl⟩, ?_⟩
      rintro m σ H2 ⟨v', rfl, rfl, on2, le2, rfl⟩
      refine ⟨_, rfl, _, rfl, _, rfl, D, _, rfl, dgetK h0 v1, sa, _, _, _, rfl, rfl, SqT.of h5, at1, _, _, rfl, rfl, D, L.f, L.s, L.g, L.r, L.n, v' + L.s, rowOf L F, rfl, dl, s0, s1, n0, n1, ok.idx (on_step on2), ?_⟩
      rw [ok.sem.val (on_step on2)]
      refine ⟨_, rfl, _, _, rfl, rfl, _, rfl, ?_⟩
      by_cases go2 : F (v' + L.s) ≤ u
      · rw [decide_eq_true go2]
        refine iteT ⟨fun σ' H' => σ' = [some (.ref D), some (.int u), some (.int (v' + L.s))] ∧ H' = H2, ?_, ?_⟩
        · rintro σ' H' ⟨rfl, rfl⟩
          have := ok.sem.back_le (ok.sem.back_is _) (on_step on2) go2
          exact ⟨_, by omega, v' + L.s, rfl, rfl, on_step on2, go2, rfl⟩
        · exact ⟨_, rfl, _, rfl, D, _, rfl, dgetK h0 v1, sa, _, _, _, rfl, rfl, SqT.of h5, at1, _, _, rfl, rfl, rfl, rfl⟩
      · rw [decide_eq_false go2]
        refine iteF ?_
        have ev : backF L.f L.s F u = v' := ok.sem.back_eq ⟨on2, le2, by omega⟩
        rw [ev] at k
        exact ⟨_, rfl, k⟩
end
end L18
namespace L18
open PySem PySem.Spec L2 Rt Rs Ld
open PyProof.Rows hiding St
open SrtO

abbrev sLaw : Stmt := top 43
def spLaw (K : PySem.W.Frag) : Sp := fun vs H Q _ => ∃ (a : Addr) (ns : List Int), vs = [.ref a] ∧ SqL K H a (ns.map V.int) ∧ ns.length ≤ 63 ∧ ∀ H', Q (.bl true) H'
theorem back_big {fa sa fb sb n : Int} {F : Int → Int} (h : Sem fa sa fb sb n F) (sml : Sml (⟨fa, sa, fb, sb, n⟩ : LP) F) (bf : fa.natAbs < 10 ^ 32 ∧ fb.natAbs < 10 ^ 32) (n1 : n ≤ 60) (s1 : sa ≤ 60) : Big (bkL (⟨fa, sa, fb, sb, n⟩ : LP)) (backF fa sa F) := by
  have n0 := h.n0
  have s0 := h.s0
  have near : ∀ w, (w - fa) % sa = 0 → w - 5060 ≤ F w ∧ F w ≤ w + 5060 := fun w hw => by
    have b0 := Int.emod_nonneg w (show n ≠ 0 by omega)
    have b1 := Int.emod_lt_of_pos w n0
    have vm := (mem_nums s0 h.sd).mpr ⟨b0, b1, on_rest h.sd hw⟩
    have q := h.perz (on_rest h.sd hw) (w / n)
    have em := Int.emod_add_mul_ediv w n
    rw [show w % n + w / n * n = w by rw [Int.mul_comm (w / n)]; omega, Int.mul_comm (w / n)] at q
    have z := sml.sm _ vm
    omega
  refine ⟨by show fb.natAbs < 10 ^ 40; omega, by show fa.natAbs < 10 ^ 40; omega, fun u hu => ?_⟩
  obtain ⟨u0, u1, _⟩ := (mem_nums h.r0 h.rd).mp hu
  have b := h.back_is u
  have h1 := near _ b.on
  have h2 := near _ (on_step b.on)
  have h3 := b.le
  have h4 := b.lt
  have u1 : u < n := u1
  omega
def ckV (q : Int × Int) : HO := .tup [.int q.1, .int q.2]
theorem cut_mem {xs : List V} {lo hi : Option Int} {y : V} (h : y ∈ cutV xs lo hi) : y ∈ xs := List.mem_of_mem_drop (List.mem_of_mem_take h)
def row1 : List Int := [3, 3, 5, 5, 7, 7]
abbrev L0 : LP := ⟨0, 1, 1, 2, 6⟩
theorem rok1 : Rok 0 1 1 2 6 row1 := ⟨by decide, by decide, by decide, by decide, by decide, rfl, by decide, by decide, fun x y hx hy => (by decide : ∀ x, x ∈ row1 → ∀ y, y ∈ row1 → y ≤ x + 6) x hx y hy⟩
theorem ok1 : LOk L0 (valL 1 6 row1) := ⟨rok1.sem.1, by decide, by decide, by decide⟩
theorem back_row1 : rowOf (bkL L0) (backF 0 1 (valL 1 6 row1)) = [-1, 1, 3] := by
  have h := rok1.sem.1
  have b1 : backF 0 1 (valL 1 6 row1) 1 = -1 := h.back_eq ⟨by decide, by decide +kernel, by decide +kernel⟩
  have b3 : backF 0 1 (valL 1 6 row1) 3 = 1 := h.back_eq ⟨by decide, by decide +kernel, by decide +kernel⟩
  have b5 : backF 0 1 (valL 1 6 row1) 5 = 3 := h.back_eq ⟨by decide, by decide +kernel, by decide +kernel⟩
  show (nums 1 2 6).map (backF 0 1 (valL 1 6 row1)) = _
  rw [show nums 1 2 6 = [1, 3, 5] by decide +kernel]
  simp only [List.map_cons, List.map_nil, b1, b3, b5]

section
variable {P : Program} {w : World} {K : PySem.W.Frag} {mg : Str → Option Value} {base : Heap} {f C : Addr} {fd : FuncData}

theorem scLaw : FnScope ["script", "source", "lap", "period", "steps", "a", "b", "c", "f", "h", "back", "numbers", "due", "row", "u", "v", "least", "stay", "g", "both", "k", "pair"] ["script"] (defScope sLaw) := ⟨rfl, rfl, rfl, by decide +kernel, rfl, by decide +kernel, by decide +kernel⟩
theorem ok_law (F : Fun K "law" "law" sLaw f fd) (T : Wds mg) (cn : ClsL K C) (M : MethL P w K mg base C) (mk : Mkr P w K mg base 5 C "Lead" (spInit C)) (mNe : Md P w K mg base 5 C "__ne__" (spNeM C))
    (cSrc : Cb P w K mg base 1 "_law_source" (spSource K)) (cP : Cb P w K mg base 1 "_law_pick" spPick) (cO : Cb P w K mg base 2 "_law_of" spOf) (cCk : Cb P w K mg base 3 "_law_clock" spClock) (cAk : Cb P w K mg base 3 "_law_alike" spLAlike) (cLd : Cb P w K mg base 7 "_law_lead" (spLead C))
    (cPs : Cb P w K mg base 3 "_law_period_and_steps" spPas) (cN : Cb P w K mg base 1 "_law_numbers" spNumbers) (cV : Cb P w K mg base 1 "_law_value" spValue) (cLk : Cb P w K mg base 4 "_law_is_like" (spLike C)) (cMx : Cb P w K mg base 2 "_law_mixed" spMixed) (cBk : Cb P w K mg base 2 "_law_back" spLBack)
    (cU : Cb P w K mg base 1 "_law_up" spLUp) (cOn : Cb P w K mg base 2 "_law_is_on" spOn) (cBo : Cb P w K mg base 7 "back_of" (spBackOf C)) (cRl : Cb P w K mg base 7 "rule_lead" (spRuleL C)) (cSt : Cb P w K mg base 7 "staying_lead" (spStay C))
    (cWp : Cb P w K mg base 7 "with_period" (spWith C)) (cAn : Cb P w K mg base 7 "and_then" (spAnd C)) (cLt : Cb P w K mg base 7 "later_lead" (spLater C)) : FnG P w K mg base 8 f fd ["script"] (spLaw K) := by
  refine okG F scLaw (fun vs H Q E h => ?_) (fun cdv A outer s H vs Q E hg hr h => ?_)
  · obtain ⟨a, ns, rfl, _⟩ := h
    rfl
  · obtain ⟨a, ns, rfl, hS, hl, kend⟩ := h
    have hu64 := hr.units
    have hu : _ + 1 < cLine := hu_of hr
    refine ⟨_, (pss_cons (ps_set (i := 1) scLaw.nd rfl (.inr rfl) (pe_k cSrc hg hr (by decide) (by rfl) (pa_cons (pv 0) pa_nil)))
      (pss_cons (ps_for PassesOwn.never rfl (pi_range1 (by rfl) T.zrange (pa_cons pe_int pa_nil)) (pg_name (i := 2) scLaw.nd rfl (.inl rfl))
        (pss_cons (ps_asg (pe_k cPs hg hr (by decide) (by rfl) (pa_cons (pv 1) pa_nil)) (pg_tup (by rfl) (pgs_cons (pg_name (i := 3) scLaw.nd rfl (.inl rfl)) (pgs_cons (pg_name (i := 4) scLaw.nd rfl (.inr rfl)) pgs_nil))))
        (pss_cons (ps_asg (pe_lc (own := [("k", 20)]) (by rfl) scLaw.nd (pi_range1 (by rfl) T.zrange (pa_cons pe_int pa_nil)) (blkOk_by (N := ["script", "source", "lap", "period", "steps", "a", "b", "c", "f", "h", "back", "numbers", "due", "row", "u", "v", "least", "stay", "g", "both", "k", "pair"]) (sc := defScope sLaw) (by decide +kernel)) (fun _ _ _ _ _ => (pg_name (i := 20) scLaw.nd rfl (.inl rfl))) (fun _ _ _ _ _ => pts_nil) (fun _ _ _ _ _ => (pe_k cCk hg hr (by decide) (by rfl) (pa_cons (pv 1) (pa_cons (pv 4) pa_nil))))) (pg_unl (by rfl) (pgs_cons (pg_name (i := 5) scLaw.nd rfl (.inr rfl)) (pgs_cons (pg_name (i := 6) scLaw.nd rfl (.inl rfl)) (pgs_cons (pg_name (i := 7) scLaw.nd rfl (.inl rfl)) pgs_nil)))))
        (pss_cons (ps_asg (pe_tup (pa_cons (pe_k cLd hg hr (by decide) (by rfl) (pa_cons (pv 1) (pa_cons (pv 5) (pa_cons (pv 6) (pa_cons (pv 3) pa_nil))))) (pa_cons (pe_k cLd hg hr (by decide) (by rfl) (pa_cons (pv 1) (pa_cons (pe_k cAk hg hr (by decide) (by rfl) (pa_cons (pv 1) (pa_cons (pv 6) pa_nil))) (pa_cons (pv 7) (pa_cons (pv 3) pa_nil))))) pa_nil))) (pg_tup (by rfl) (pgs_cons (pg_name (i := 8) scLaw.nd rfl (.inr rfl)) (pgs_cons (pg_name (i := 9) scLaw.nd rfl (.inl rfl)) pgs_nil))))
        (pss_cons (ps_set (i := 10) scLaw.nd rfl (.inl rfl) (pe_k cBo hg hr (by decide) (by rfl) (pa_cons (pe_dget hu (pv 8) pe_str (fun _ _ => rfl)) pa_nil)))
        (pss_cons (ps_set (i := 11) scLaw.nd rfl (.inl rfl) (pe_k cN hg hr (by decide) (by rfl) (pa_cons (pv 6) (pa_cons (pv 3) pa_nil))))
        (pss_cons (ps_set (i := 12) scLaw.nd rfl (.inr rfl) (pe_disp (pps_cons pe_str (pv 6) (pps_cons pe_str (pv 5) (pps_cons pe_str (pv 3) (pps_cons pe_str (pe_lc (own := [("u", 14)]) (by rfl) scLaw.nd (pi_list (pv 11)) (blkOk_by (N := ["script", "source", "lap", "period", "steps", "a", "b", "c", "f", "h", "back", "numbers", "due", "row", "u", "v", "least", "stay", "g", "both", "k", "pair"]) (sc := defScope sLaw) (by decide +kernel)) (fun _ _ _ _ _ => (pg_name (i := 14) scLaw.nd rfl (.inl rfl))) (fun _ _ _ _ _ => pts_nil) (fun _ _ _ _ _ => (pe_k cBk hg hr (by decide) (by rfl) (pa_cons (pv 8) (pa_cons (pv 14) pa_nil))))) pps_nil)))) (by rfl) (by rfl) (fun z => by cases z) (by decide)))
        (pss_cons (ps_if (pt_not (pt_val (pe_k cLk hg hr (by decide) (by rfl) (pa_cons (pv 12) (pa_cons (pv 10) pa_nil))))) (pss_one (ps_ret pe_bl)) pss_nil)
        (pss_cons (ps_set (i := 13) scLaw.nd rfl (.inl rfl) (pe_ifExp (pt_cmpR op_lt (pv 3) pe_int (nomark _)) (pe_lc (own := [("u", 14)]) (by rfl) scLaw.nd (pi_list (pe_k cN hg hr (by decide) (by rfl) (pa_cons (pv 6) (pa_cons (pe_op op_mul pe_int (pv 3)) pa_nil)))) (blkOk_by (N := ["script", "source", "lap", "period", "steps", "a", "b", "c", "f", "h", "back", "numbers", "due", "row", "u", "v", "least", "stay", "g", "both", "k", "pair"]) (sc := defScope sLaw) (by decide +kernel)) (fun _ _ _ _ _ => (pg_name (i := 14) scLaw.nd rfl (.inl rfl))) (fun _ _ _ _ _ => pts_nil) (fun _ _ _ _ _ => (pe_k cV hg hr (by decide) (by rfl) (pa_cons (pv 12) (pa_cons (pv 14) pa_nil))))) (pe_lst pa_nil)))
        (pss_cons (ps_if (PW.pt (pw_and (pt_cmpR (op_neD hu64) (pv 13) (pe_lst pa_nil) (nomark _)) (pw_and1 (pt_cmpR (op_neD hu64) (pe_m0' cn.cls M.row hr (by decide) (pe_k cBo hg hr (by decide) (by rfl) (pa_cons (pe_k cWp hg hr (by decide) (by rfl) (pa_cons (pe_dget hu (pv 8) pe_str (fun _ _ => rfl)) (pa_cons pe_int pa_nil))) pa_nil))) (pv 13) (nomark _))))) (pss_one (ps_ret pe_bl)) pss_nil)
        (pss_cons (ps_if (pt_cmpR (op_neD hu64) (pe_m0' cn.cls M.row hr (by decide) (pe_dget hu (pv 8) pe_str (fun _ _ => rfl))) (pe_dget hu (pv 8) pe_str (fun _ _ => rfl)) (nomark _)) (pss_one (ps_ret pe_bl)) pss_nil)
        (pss_cons (ps_for PassesOwn.never rfl (pi_list (pe_slice sl_list (pe_k cMx hg hr (by decide) (by rfl) (pa_cons (pv 1) (pa_cons (pv 11) pa_nil))) po_none (po_some pe_int))) (pg_name (i := 14) scLaw.nd rfl (.inl rfl))
          (pss_cons (ps_set (i := 15) scLaw.nd rfl (.inl rfl) (pe_m cn.cls M.at_ hr (by decide) (pv 10) (pa_cons (pv 14) pa_nil)))
          (pss_one (ps_if (pt_not (pt_chain op_le op_lt (pe_m cn.cls M.at_ hr (by decide) (pe_dget hu (pv 8) pe_str (fun _ _ => rfl)) (pa_cons (pv 15) pa_nil)) (pv 14) (pe_m cn.cls M.at_ hr (by decide) (pe_dget hu (pv 8) pe_str (fun _ _ => rfl)) (pa_cons (pe_op op_add (pv 15) (pe_ix ix_tup (pv 5) pe_int (fun _ _ => rfl))) pa_nil)))) (pss_one (ps_ret pe_bl)) pss_nil))))
        (pss_cons (ps_for PassesOwn.never rfl (pi_list (pe_slice sl_list (pe_k cMx hg hr (by decide) (by rfl) (pa_cons (pv 1) (pa_cons (pe_k cN hg hr (by decide) (by rfl) (pa_cons (pv 5) (pa_cons (pv 3) pa_nil))) pa_nil))) po_none (po_some pe_int))) (pg_name (i := 15) scLaw.nd rfl (.inl rfl))
          (pss_cons (ps_set (i := 14) scLaw.nd rfl (.inl rfl) (pe_m cn.cls M.at_ hr (by decide) (pe_dget hu (pv 8) pe_str (fun _ _ => rfl)) (pa_cons (pv 15) pa_nil)))
          (pss_one (ps_if (pt_not (pt_chain op_lt op_le (pe_m cn.cls M.at_ hr (by decide) (pv 10) (pa_cons (pe_op op_sub (pv 14) (pe_ix ix_tup (pv 6) pe_int (fun _ _ => rfl))) pa_nil)) (pv 15) (pe_m cn.cls M.at_ hr (by decide) (pv 10) (pa_cons (pv 14) pa_nil)))) (pss_one (ps_ret pe_bl)) pss_nil))))
        (pss_cons (ps_if (pt_cmpR (op_ownNe mNe hr (by decide)) (pe_k cBo hg hr (by decide) (by rfl) (pa_cons (pe_k cAn hg hr (by decide) (by rfl) (pa_cons (pe_dget hu (pv 8) pe_str (fun _ _ => rfl)) (pa_cons (pe_dget hu (pv 9) pe_str (fun _ _ => rfl)) pa_nil))) pa_nil)) (pe_k cAn hg hr (by decide) (by rfl) (pa_cons (pe_k cBo hg hr (by decide) (by rfl) (pa_cons (pe_dget hu (pv 9) pe_str (fun _ _ => rfl)) pa_nil)) (pa_cons (pe_k cBo hg hr (by decide) (by rfl) (pa_cons (pe_dget hu (pv 8) pe_str (fun _ _ => rfl)) pa_nil)) pa_nil))) (nomark _)) (pss_one (ps_ret pe_bl)) pss_nil)
        (pss_cons (ps_set (i := 16) scLaw.nd rfl (.inr rfl) (pe_k cO hg hr (by decide) (by rfl) (pa_cons (pv 1) (pa_cons (pe_lst (pa_cons (pe_op op_sub (pe_k cP hg hr (by decide) (by rfl) (pa_cons (pv 1) (pa_cons pe_int pa_nil))) pe_int) (pa_cons (pe_op op_pow pe_int pe_int) (pa_cons (pe_un un_neg (pe_op op_pow pe_int pe_int)) pa_nil)))) pa_nil))))
        (pss_cons (ps_setLc (i := 13) (own := [("u", 14)]) rfl scLaw.nd rfl rfl (sw_true rfl rfl rfl (by decide +kernel)) (pi_list (pv 11)) (blkOk_by (N := ["script", "source", "lap", "period", "steps", "a", "b", "c", "f", "h", "back", "numbers", "due", "row", "u", "v", "least", "stay", "g", "both", "k", "pair"]) (sc := defScope sLaw) (by decide +kernel)) (fun _ _ _ _ _ => (pg_name (i := 14) scLaw.nd rfl (.inl rfl))) (fun _ _ _ _ _ => pts_nil) (fun _ _ _ _ _ => (pe_ifExp (pt_val (pe_k cOn hg hr (by decide) (by rfl) (pa_cons (pv 5) (pa_cons (pe_op op_sub (pv 14) (pv 16)) pa_nil)))) (pe_k cU hg hr (by decide) (by rfl) (pa_cons (pv 5) (pa_cons (pe_op op_sub (pv 14) (pv 16)) pa_nil))) (pe_op op_sub (pe_k cU hg hr (by decide) (by rfl) (pa_cons (pv 5) (pa_cons (pe_op op_sub (pv 14) (pv 16)) pa_nil))) (pe_ix (ix_tup : IxR _ (rIxT K)) (pv 5) pe_int (fun _ _ => rfl))))))
        (pss_cons (ps_set (i := 17) scLaw.nd rfl (.inl rfl) (pe_k cSt hg hr (by decide) (by rfl) (pa_cons (pv 5) (pa_cons (pv 3) pa_nil))))
        (pss_cons (ps_if (PW.pt (pw_or (pt_cmpR (op_neD hu64) (pe_m0' cn.cls M.row hr (by decide) (pe_k cBo hg hr (by decide) (by rfl) (pa_cons (pe_k cRl hg hr (by decide) (by rfl) (pa_cons (pv 5) (pa_cons (pv 6) (pa_cons (pv 3) (pa_cons (pv 16) pa_nil))))) pa_nil))) (pv 13) (nomark _)) (pw_or1 (pt_cmpR (op_ownNe mNe hr (by decide)) (pe_k cBo hg hr (by decide) (by rfl) (pa_cons (pv 17) pa_nil)) (pv 17) (nomark _))))) (pss_one (ps_ret pe_bl)) pss_nil)
        (pss_cons (ps_set (i := 18) scLaw.nd rfl (.inl rfl) (pe_k cLd hg hr (by decide) (by rfl) (pa_cons (pv 1) (pa_cons (pv 5) (pa_cons (pv 6) (pa_cons (pv 3) pa_nil))))))
        (pss_cons (ps_setLc (i := 19) (own := [("pair", 21)]) rfl scLaw.nd rfl rfl (sw_true rfl rfl rfl (by decide +kernel)) (pi_zipNL (by rfl) T.zzip (pa_cons (pe_m0' cn.cls M.row hr (by decide) (pe_k cBo hg hr (by decide) (by rfl) (pa_cons (pe_dget hu (pv 8) pe_str (fun _ _ => rfl)) pa_nil))) (pa_cons (pe_m0' cn.cls M.row hr (by decide) (pe_k cBo hg hr (by decide) (by rfl) (pa_cons (pe_dget hu (pv 18) pe_str (fun _ _ => rfl)) pa_nil))) pa_nil))) (blkOk_by (N := ["script", "source", "lap", "period", "steps", "a", "b", "c", "f", "h", "back", "numbers", "due", "row", "u", "v", "least", "stay", "g", "both", "k", "pair"]) (sc := defScope sLaw) (by decide +kernel)) (fun _ _ _ _ _ => (pg_name (i := 21) scLaw.nd rfl (.inl rfl))) (fun _ _ _ _ _ => pts_nil) (fun _ _ _ _ _ => (pe_callB (call_minK (K := K) rfl (by rfl) hu64) (by rfl) T.zmin (by decide +kernel) (pa_cons (pv 21) pa_nil))))
        (pss_one (ps_if (pt_cmpR (op_neD hu64) (pe_m0' cn.cls M.row hr (by decide) (pe_k cBo hg hr (by decide) (by rfl) (pa_cons (pe_k cLt hg hr (by decide) (by rfl) (pa_cons (pe_dget hu (pv 8) pe_str (fun _ _ => rfl)) (pa_cons (pe_dget hu (pv 18) pe_str (fun _ _ => rfl)) pa_nil))) pa_nil))) (pv 19) (nomark _)) (pss_one (ps_ret pe_bl)) pss_nil))))))))))))))))))))))
      (pss_one (ps_ret (pe_cmpR (op_eqD hu64) (pe_m0' cn.cls M.row hr (by decide) (pe_k cBo hg hr (by decide) (by rfl) (pa_cons (pe_mkr mk hr (by decide) (by rfl) (pa_cons (pe_tup (pa_cons pe_int (pa_cons pe_int pa_nil))) (pa_cons (pe_tup (pa_cons pe_int (pa_cons pe_int pa_nil))) (pa_cons pe_int (pa_cons (pe_lst (pa_cons pe_int (pa_cons pe_int (pa_cons pe_int (pa_cons pe_int (pa_cons pe_int (pa_cons pe_int pa_nil))))))) pa_nil))))) pa_nil))) (pe_lst (pa_cons (pe_un un_neg pe_int) (pa_cons pe_int (pa_cons pe_int pa_nil)))) (nomark _)))))), ?_⟩
    refine ⟨_, rfl, a, ns, rfl, hS, hl, fun d c H0 nd nc S0 s0' => ?_⟩
    refine ⟨4, rfl, by decide, by decide, ?_⟩
    refine for_range (lo := 0) (fun i σ H1 => ∃ (v2 v3 v4 v5 v6 v7 v8 v9 v10 v11 v12 v13 v14 v15 v16 v17 v18 v19 v20 v21 : Option V), σ = [some (.ref a), some (.ref d), v2, v3, v4, v5, v6, v7, v8, v9, v10, v11, v12, v13, v14, v15, v16, v17, v18, v19, v20, v21] ∧ Src H1 d c)
      ⟨_, _, _, _, _, _, _, _, _, _, _, _, _, _, _, _, _, _, _, _, rfl, S0⟩ ?_ ?_
    · rintro i σ H1 hi ⟨v2, v3, v4, v5, v6, v7, v8, v9, v10, v11, v12, v13, v14, v15, v16, v17, v18, v19, v20, v21, rfl, S1⟩
      -- period, steps
      refine ⟨_, rfl, d, c, rfl, S1, fun tt p n ss H2 mt mp n0 n1 l0 l1 okss S2 k2 => ?_⟩
      refine ⟨tt, _, rfl, SqT.of (mask_same _ _ mt), rfl, _, _, rfl, _, _, rfl, rfl, ?_⟩
      -- a, b, c
      refine ⟨3, rfl, by decide, by decide, fun D nD => ?_⟩
      have aD := S2.away nD
      refine lc_range (lo := 0) (fun i H3 => ∃ (ts : List Addr) (cl : List (Int × Int)), Keep d c H2 H3 ∧ Src H3 d c ∧ mask d c H3 D = some (.lst (ts.map V.ref)) ∧ Row ckV (mask d c H3) ts cl ∧ ts.length = i ∧ ∀ q, q ∈ cl → q.2 ∈ ss ∧ q.1.natAbs < 10 ^ 31)
        ⟨[], [], Keep.refl.new nD, S2.new nD, mask_at aD upd_same, .nil, rfl, fun q h => nomatch h⟩ ?_ ?_
      · rintro i H3 hi ⟨ts, cl, k3, S3, hD, row, lt, okc⟩
        have mp3 := mask_keep k3 _ _ mp
        refine ⟨rfl, _, rfl, _, rfl, d, c, p, ss, rfl, S3, mask_same _ _ mp3, (mask_ne mp3).2, l0, l1, fun t4 f4 s4 H4 ht4 hs4 hf4 S4 k4 => ?_⟩
        have mt4 := mask_at (S4.nd ht4) ht4
        have hD4 := mask_keep k4 _ _ hD
        have row4 := (row.same (mask_keep k4)).snoc (f := ckV) (p := (f4, s4)) mt4
        have DD : D ∉ ts ++ [t4] := row_not row4 hD4 (fun q z => by cases z)
        refine ⟨_, mask_same _ _ hD4, small1000 (by rw [List.length_map, lt]; have : i < 3 := hi; omega), ts ++ [t4], cl ++ [(f4, s4)], (k3.trans k4).put nD, S4.put aD, mask_at aD ?_, row4.but mask_but DD, by rw [List.length_append, lt]; rfl, fun q hq => ?_⟩
        · rw [upd_same, List.map_append]
          rfl
        · rcases List.mem_append.mp hq with h | h
          · exact okc q h
          · cases List.mem_singleton.mp h
            exact ⟨hs4, hf4⟩
      · rintro H3 ⟨ts, cl, k3, S3, hD, row, lt, okc⟩
        have lt3 : ts.length = 3 := lt
        obtain ⟨ta, tb, tc, rfl⟩ : ∃ x y z, ts = [x, y, z] := by
          match ts, lt3 with
          | [x, y, z], _ => exact ⟨x, y, z, rfl⟩
        have lc3 : cl.length = 3 := row.1.symm
        obtain ⟨qa, qb, qc, rfl⟩ : ∃ x y z, cl = [x, y, z] := by
          match cl, lc3 with
          | [x, y, z], _ => exact ⟨x, y, z, rfl⟩
        obtain ⟨fa, sa⟩ := qa
        obtain ⟨fb, sb⟩ := qb
        obtain ⟨fc, sc⟩ := qc
        have ma : mask d c H3 ta = some (.tup [.int fa, .int sa]) := row.2 0 _ _ rfl rfl
        have mb : mask d c H3 tb = some (.tup [.int fb, .int sb]) := row.2 1 _ _ rfl rfl
        have mc : mask d c H3 tc = some (.tup [.int fc, .int sc]) := row.2 2 _ _ rfl rfl
        obtain ⟨sa', ba⟩ := okc (fa, sa) (by simp)
        obtain ⟨sb', bb⟩ := okc (fb, sb) (by simp)
        obtain ⟨sc', bc⟩ := okc (fc, sc) (by simp)
        obtain ⟨sa0, sa1, sad⟩ := okss sa sa'
        obtain ⟨sb0, sb1, sbd⟩ := okss sb sb'
        obtain ⟨sc0, sc1, scd⟩ := okss sc sc'
        refine ⟨D, _, rfl, SqL.of (mask_same _ _ hD), rfl, _, _, rfl, _, _, rfl, _, _, rfl, rfl, ?_⟩
        clear okc row hD mt mp okss
        -- f, h
        refine ⟨_, rfl, _, rfl, _, rfl, _, rfl, d, c, ta, tb, ⟨fa, sa, fb, sb, n⟩, rfl, S3, mask_same _ _ ma, mask_same _ _ mb, ⟨sa0, sa1, sb0, sb1, n0, n1, sad, sbd⟩, fun Df F H4 dmf okf smlf S4 k4 => ?_⟩
        have g4 := mask_keep k4
        have mb4 := g4 _ _ mb
        refine ⟨_, rfl, _, rfl, _, rfl, d, c, tb, fb, sb, rfl, S4, mask_same _ _ mb4, sb0, sb1, fun u gb H5 hu5 alb szb S5 k5 => ?_⟩
        have g5 := mask_keep k5
        have mc5 := g5 _ _ (g4 _ _ mc)
        refine ⟨_, rfl, _, rfl, d, c, u, tc, ⟨gb, sb, fc, sc, n⟩, rfl, S5, hu5, mask_same _ _ mc5, ⟨sb0, sb1, sc0, sc1, n0, n1, sbd, scd⟩, fun Dh G H6 dmh okh smlh S6 k6 => ?_⟩
        have g6 := mask_keep k6
        refine ⟨(by show 2 ≤ sizeLine; decide), fun tp ntp => ?_⟩
        refine ⟨tp, _, rfl, SqT.of upd_same, rfl, _, _, rfl, _, _, rfl, rfl, ?_⟩
        have S7 := S6.new (o := .tup [.ref Df, .ref Dh]) ntp
        have g67 := mask_new (d := d) (c := c) (o := .tup [.ref Df, .ref Dh]) ntp
        revert S7 g67
        generalize upd H6 tp (.tup [.ref Df, .ref Dh]) = H7
        intro S7 g67
        have g57 := g6.trans g67
        have g47 := g5.trans g57
        have ma7 := g47 _ _ (g4 _ _ ma)
        have mb7 := g47 _ _ mb4
        have dmf7 := dmf.same g47
        have dmh7 := dmh.same g67
        clear dmf dmh g4 g5 g6 g67 g57 g47 mb4 mc5 ma mb mc hu5 ntp
        obtain ⟨nn, en⟩ := Int.eq_ofNat_of_zero_le (show 0 ≤ n by omega)
        have f7 := dmf7.same mask_same
        have dl7 := f7.dl
        obtain ⟨sa2, ea2, ra2, xf, mf0, mf1, mf2, mf3, mldf⟩ := dmf7.ex
        have hf0 := mask_same _ _ mf0
        have ldf := mldf.same mask_same
        obtain ⟨dxf, fsf, ixf, x1, x2, x3, x4, x5⟩ := ld_ins ldf
        have ha7 := mask_same _ _ ma7
        have hb7 := mask_same _ _ mb7
        -- back
        refine ⟨_, rfl, Df, _, rfl, dgetK hf0 w_made, xf, (⟨fa, sa, fb, sb, n⟩ : LP), F, rfl, ldf, okf, fun xb H8 q8 ldb => ?_⟩
        -- numbers
        refine ⟨_, rfl, _, rfl, tb, fb, sb, nn, by rw [en]; rfl, q8 _ _ hb7, sb0, sb1, by rw [← en]; exact sbd, by omega, fun pn H9 npn q9 hpn => ?_⟩
        rw [← en] at hpn
        have okb := okf.bk
        have lenp : ((nums fb sb n).map V.int).length = (n / sb).toNat := by rw [List.length_map, nums_len]
        have fewn : (n / sb).toNat ≤ 3600 := okb.few
        have q89 := q8.trans q9
        have ldb := ldb.same q9
        have apn := (S7.same q8).away npn
        clear q8 npn
        -- due
        refine name_step (σ' := [some (.ref a), some (.ref d), some (.int (0 + (i : Nat))), some (.int n), some (.ref p), some (.ref ta), some (.ref tb), some (.ref tc), some (.ref Df), some (.ref Dh), some (.ref xb), some (.ref pn), v12, v13, v14, v15, v16, v17, v18, v19, v20, v21]) rfl ?_
        intro Dd nDd
        have q10 := same_new (o := .dK []) nDd
        have hDd := upd_same (H := H9) (a := Dd) (o := .dK [])
        have hp10 := q10 _ _ hpn
        revert q10 hDd hp10
        generalize upd H9 Dd (.dK []) = H10
        intro q10 hDd hp10
        refine ⟨_, rfl, _, rfl, _, rfl, _, rfl, pn, rfl, ⟨_, SqL.of hp10⟩, fun E nE => ?_⟩
        refine lc_it walk_list (fun i H11 => Same H10 H11 ∧ H11 E = some (.lst (((rowOf (bkL (⟨fa, sa, fb, sb, n⟩ : LP)) (backF fa sa F)).take i).map V.int))) ⟨same_new nE, upd_same⟩ (fun i H11 _ z => SqL.of (z.1 _ _ hp10)) ?_ ?_
        · rintro i y H11x H11 hi ⟨q11, hE⟩ ⟨rfl, hy⟩
          rw [lenp] at hi
          obtain rfl : V.int (fb % sb + (i : Nat) * sb) = y := by
            rw [List.getElem?_map, nums_at hi] at hy
            exact Option.some.inj hy
          have q := (q89.trans q10).trans q11
          refine ⟨rfl, _, rfl, _, rfl, Df, (⟨fa, sa, fb, sb, n⟩ : LP), F, _, rfl, dl7.same q, okf, ?_⟩
          refine ⟨_, hE, big5000 (by rw [List.length_map, List.length_take]; omega), fun b o z => by rw [upd_ne (ne_of_none z nE)]; exact q11 b o z, ?_⟩
          rw [upd_same, List.take_succ, row_at (L := bkL (⟨fa, sa, fb, sb, n⟩ : LP)) hi, List.map_append]
          rfl
        · rintro H11 ⟨q11, hE⟩
          rw [List.take_of_length_le (by rw [row_len, lenp]; exact Nat.le_refl _)] at hE
          have hD11 := q11 _ _ hDd
          refine ⟨hD11, [((Sum.inr "start" : Key), V.ref tb), (Sum.inr "end", .ref ta), (Sum.inr "period", .int n), (Sum.inr "row", .ref E)], rfl, (by show 4 ≤ 15; decide), ?_⟩
          rw [merge4]
          have q12 : Same H9 (upd H11 Dd (.dK [((Sum.inr "start" : Key), V.ref tb), (Sum.inr "end", .ref ta), (Sum.inr "period", .int n), (Sum.inr "row", .ref E)])) := fun b o z => by
            rw [upd_ne (ne_of_none z nDd)]
            exact q11 _ _ (q10 _ _ z)
          have hE12 : (upd H11 Dd (.dK [((Sum.inr "start" : Key), V.ref tb), (Sum.inr "end", .ref ta), (Sum.inr "period", .int n), (Sum.inr "row", .ref E)])) E = some (.lst ((rowOf (bkL (⟨fa, sa, fb, sb, n⟩ : LP)) (backF fa sa F)).map V.int)) := by
            rw [upd_ne (ne_of hE hD11 (by intro z; cases z))]
            exact hE
          have hd12 := upd_same (H := H11) (a := Dd) (o := .dK [((Sum.inr "start" : Key), V.ref tb), (Sum.inr "end", .ref ta), (Sum.inr "period", .int n), (Sum.inr "row", .ref E)])
          revert q12 hE12 hd12
          generalize upd H11 Dd (.dK [((Sum.inr "start" : Key), V.ref tb), (Sum.inr "end", .ref ta), (Sum.inr "period", .int n), (Sum.inr "row", .ref E)]) = H12
          intro q12 hE12 hd12
          have q := q89.trans q12
          have ldb := ldb.same q12
          have hpn := q12 _ _ hpn
          clear q89 q10 q11 hE hD11 hDd hp10 nDd nE
          have dlb : DL H12 Dd fb sb fa sa n (rowOf (bkL (⟨fa, sa, fb, sb, n⟩ : LP)) (backF fa sa F)) := ⟨_, tb, ta, E, hd12, w_start, w_end, w_period, w_row, q _ _ hb7, q _ _ ha7, hE12⟩
          clear hd12 q12
          have bigb : Big (bkL (⟨fa, sa, fb, sb, n⟩ : LP)) (backF fa sa F) := back_big okf.sem smlf ⟨by omega, by omega⟩ (by omega) (by omega)
          refine name_step (σ' := [some (.ref a), some (.ref d), some (.int (0 + (i : Nat))), some (.int n), some (.ref p), some (.ref ta), some (.ref tb), some (.ref tc), some (.ref Df), some (.ref Dh), some (.ref xb), some (.ref pn), some (.ref Dd), v13, v14, v15, v16, v17, v18, v19, v20, v21]) rfl ?_
          refine ⟨_, rfl, _, rfl, Dd, xb, bkL (⟨fa, sa, fb, sb, n⟩ : LP), backF fa sa F, rfl, dlb, ldb, okb, bigb, fun H13 q13 => ?_⟩
          refine ⟨_, rfl, iteF ?_⟩
          have q := q.trans q13
          have ldb := ldb.same q13
          have hpn := q13 _ _ hpn
          have dlb := dlb.same q13
          clear q13
          have en8 : ((8 * nn : Nat) : Int) = ((8 : Nat) : Int) * n := by rw [Int.natCast_mul, ← en]
          have okt8 := okf.times (t := 8) (by decide) (by show ((8 : Nat) : Int) * n ≤ 3600; omega)
          have okb8 := okt8.bk
          -- row
          refine (fun (fin : ∀ (rr : Addr) (H14 : Hp), Same H13 H14 → (?TT : Addr → Hp → Prop) rr H14) => ?main) ?after
          case main =>
            by_cases n13 : n < 13
            · refine ⟨_, rfl, _, _, rfl, rfl, _, rfl, ?_⟩
              rw [decide_eq_true n13]
              refine iteT ?_
              refine ⟨_, rfl, _, rfl, _, _, rfl, rfl, .inl ⟨by decide, by decide⟩, tb, fb, sb, 8 * nn, congrArg (fun z => [V.ref tb, V.int z]) (show (8 : Int) * n = ((8 * nn : Nat) : Int) by omega), q _ _ hb7, sb0, sb1, by rw [en8]; exact okb8.sem.sd, by omega, fun p8 H14 np8 q14 hp8 => ?_⟩
              rw [en8] at hp8
              have len8 : ((nums fb sb (((8 : Nat) : Int) * n)).map V.int).length = (((8 : Nat) : Int) * n / sb).toNat := by rw [List.length_map, nums_len]
              have few8 : (((8 : Nat) : Int) * n / sb).toNat ≤ 3600 := okb8.few
              refine ⟨p8, rfl, ⟨_, SqL.of hp8⟩, fun E8 nE8 => ?_⟩
              refine lc_it walk_list (fun i H15 => Same H14 H15 ∧ H15 E8 = some (.lst (((rowOf (bkL (timesL (⟨fa, sa, fb, sb, n⟩ : LP) 8)) (backF fa sa F)).take i).map V.int))) ⟨same_new nE8, upd_same⟩ (fun i H15 _ z => SqL.of (z.1 _ _ hp8)) ?_ ?_
              · rintro i y H15x H15 hi ⟨q15, hE8⟩ ⟨rfl, hy⟩
                rw [len8] at hi
                obtain rfl : V.int (fb % sb + (i : Nat) * sb) = y := by
                  rw [List.getElem?_map, nums_at hi] at hy
                  exact Option.some.inj hy
                have qq := q14.trans q15
                have on1 : (fb % sb + (i : Nat) * sb - fb) % sb = 0 := okb8.on_at hi
                refine ⟨rfl, _, rfl, _, rfl, Dd, fb, sb, fa, sa, n, _, _, rfl, dlb.same qq, sb0, sb1, n0, by omega, okb.idx on1, ?_⟩
                rw [show valL sb n (rowOf (bkL (⟨fa, sa, fb, sb, n⟩ : LP)) (backF fa sa F)) (fb % sb + (i : Nat) * sb) = backF fa sa F (fb % sb + (i : Nat) * sb) from okb.sem.val on1]
                refine ⟨_, hE8, big5000 (by rw [List.length_map, List.length_take]; omega), fun b o z => by rw [upd_ne (ne_of_none z nE8)]; exact q15 b o z, ?_⟩
                rw [upd_same, List.take_succ, row_at (L := bkL (timesL (⟨fa, sa, fb, sb, n⟩ : LP) 8)) hi, List.map_append]
                rfl
              · rintro H15 ⟨q15, hE8⟩
                rw [List.take_of_length_le (by rw [row_len, len8]; exact Nat.le_refl _)] at hE8
                refine name_step (σ' := [some (.ref a), some (.ref d), some (.int (0 + (i : Nat))), some (.int n), some (.ref p), some (.ref ta), some (.ref tb), some (.ref tc), some (.ref Df), some (.ref Dh), some (.ref xb), some (.ref pn), some (.ref Dd), some (.ref E8), v14, v15, v16, v17, v18, v19, v20, v21]) rfl ?_
                refine ⟨_, rfl, (by show 0 ≤ sizeLine; decide), fun e1 ne1 => ?_⟩
                have q16 := same_new (H := H15) (o := .lst []) ne1
                refine ⟨.list ((rowOf (bkL (timesL (⟨fa, sa, fb, sb, n⟩ : LP) 8)) (backF fa sa F)).map PyData.int), .list (([] : List Int).map PyData.int), .lst (SqL.of (q16 _ _ hE8)) (dpAll_ints _), .lst (SqL.of upd_same) .nil, shaped_ints _, shaped_ints _, _, rfl, ?_⟩
                have some8 : ¬ rowOf (bkL (timesL (⟨fa, sa, fb, sb, n⟩ : LP) 8)) (backF fa sa F) = [] := fun z => by
                  have q := congrArg List.length z
                  rw [row_len] at q
                  have := okb8.pos
                  exact absurd q (by show ¬ _ = 0; omega)
                rw [eqv_ints, decide_eq_false some8]
                refine iteT ?_
                have q3 := (q14.trans q15).trans q16
                have hE8 := q16 _ _ hE8
                revert q3 hE8
                generalize upd H15 e1 (.lst []) = H16
                intro q3 hE8
                have q0 := q.trans q3
                refine ⟨_, rfl, Df, _, rfl, dgetK (q0 _ _ hf0) w_made, xf, 8, (⟨fa, sa, fb, sb, n⟩ : LP), F, rfl, ldf.same q0, okf, by decide, (by show ((8 : Nat) : Int) * n ≤ 3600; omega), fun y1 H17 q17 ld1 => ?_⟩
                refine ⟨y1, timesL (⟨fa, sa, fb, sb, n⟩ : LP) 8, F, rfl, ld1, okt8, fun y2 H18 q18 ld2 => ?_⟩
                obtain ⟨dx2, fs2, ix2, _, _, _, z4, _⟩ := ld_ins ld2
                refine ⟨y2, dx2, fs2, rfl, ix2, z4, y2, bkL (timesL (⟨fa, sa, fb, sb, n⟩ : LP) 8), backF fa sa F, rfl, ld2, fun pr npr => ?_⟩
                have q19 := same_new (H := H18) (o := .lst ((rowOf (bkL (timesL (⟨fa, sa, fb, sb, n⟩ : LP) 8)) (backF fa sa F)).map V.int)) npr
                have hpr := upd_same (H := H18) (a := pr) (o := .lst ((rowOf (bkL (timesL (⟨fa, sa, fb, sb, n⟩ : LP) 8)) (backF fa sa F)).map V.int))
                have q4 := (q17.trans q18).trans q19
                refine ⟨_, rfl, .list ((rowOf (bkL (timesL (⟨fa, sa, fb, sb, n⟩ : LP) 8)) (backF fa sa F)).map PyData.int), .list ((rowOf (bkL (timesL (⟨fa, sa, fb, sb, n⟩ : LP) 8)) (backF fa sa F)).map PyData.int), .lst (SqL.of hpr) (dpAll_ints _), .lst (SqL.of (q4 _ _ hE8)) (dpAll_ints _), shaped_ints _, shaped_ints _, _, rfl, ?_⟩
                rw [eqv_ints, decide_eq_true rfl]
                refine iteF ?_
                have q5 := q3.trans q4
                revert q5
                generalize upd H18 pr (.lst ((rowOf (bkL (timesL (⟨fa, sa, fb, sb, n⟩ : LP) 8)) (backF fa sa F)).map V.int)) = H19
                intro q5
                exact fin E8 H19 q5
            · refine ⟨_, rfl, _, _, rfl, rfl, _, rfl, ?_⟩
              rw [decide_eq_false n13]
              refine iteF ?_
              refine ⟨(by show 0 ≤ sizeLine; decide), fun e0 ne0 => ?_⟩
              refine name_step (σ' := [some (.ref a), some (.ref d), some (.int (0 + (i : Nat))), some (.int n), some (.ref p), some (.ref ta), some (.ref tb), some (.ref tc), some (.ref Df), some (.ref Dh), some (.ref xb), some (.ref pn), some (.ref Dd), some (.ref e0), v14, v15, v16, v17, v18, v19, v20, v21]) rfl ?_
              refine ⟨_, rfl, (by show 0 ≤ sizeLine; decide), fun e1 ne1 => ?_⟩
              have q16 := same_new (H := upd H13 e0 (.lst [])) (o := .lst []) ne1
              refine ⟨.list (([] : List Int).map PyData.int), .list (([] : List Int).map PyData.int), .lst (SqL.of (q16 _ _ upd_same)) .nil, .lst (SqL.of upd_same) .nil, shaped_ints _, shaped_ints _, _, rfl, ?_⟩
              rw [eqv_ints, decide_eq_true rfl]
              refine iteF ?_
              have q5 := (same_new (H := H13) (o := .lst []) ne0).trans q16
              revert q5
              generalize upd (upd H13 e0 (.lst [])) e1 (.lst []) = H19
              intro q5
              exact fin e0 H19 q5
          case after =>
            intro rr H14 q14
            have q := q.trans q14
            have ldb := ldb.same q14
            have hpn := q14 _ _ hpn
            clear q14 dlb
            -- f['made'].row() != f['row']
            refine ⟨_, rfl, Df, _, rfl, dgetK (q _ _ hf0) w_made, xf, dxf, fsf, rfl, q _ _ ixf, x4, xf, (⟨fa, sa, fb, sb, n⟩ : LP), F, rfl, ldf.same q, fun pr npr => ?_⟩
            have q30 := same_new (H := H14) (o := .lst ((rowOf (⟨fa, sa, fb, sb, n⟩ : LP) F).map V.int)) npr
            have hpr := upd_same (H := H14) (a := pr) (o := .lst ((rowOf (⟨fa, sa, fb, sb, n⟩ : LP) F).map V.int))
            have hra := q30 _ _ (q _ _ (mask_same _ _ mf3))
            refine ⟨_, rfl, Df, _, rfl, dgetK (q30 _ _ (q _ _ hf0)) w_row, .list ((rowOf (⟨fa, sa, fb, sb, n⟩ : LP) F).map PyData.int), .list ((rowOf (⟨fa, sa, fb, sb, n⟩ : LP) F).map PyData.int), .lst (SqL.of hpr) (dpAll_ints _), .lst (SqL.of hra) (dpAll_ints _), shaped_ints _, shaped_ints _, _, rfl, ?_⟩
            rw [eqv_ints, decide_eq_true rfl]
            refine iteF ?_
            revert q30
            generalize upd H14 pr (.lst ((rowOf (⟨fa, sa, fb, sb, n⟩ : LP) F).map V.int)) = H15
            intro q30
            have q := q.trans q30
            have ldb := ldb.same q30
            have hpn := q30 _ _ hpn
            clear hpr hra npr q30
            -- what is kept from here on
            have S15 := S7.same q
            have g15 := sub_same (d := d) (c := c) q
            have dmf := dmf7.same g15
            have dmh := dmh7.same g15
            have mldb := ldb.mask S15
            have mpn := mask_at apn hpn
            have ma := g15 _ _ ma7
            have mb := g15 _ _ mb7
            have mf0 := g15 _ _ mf0
            have mf3 := g15 _ _ mf3
            have mldf := mldf.same g15
            clear ldb hpn q g15 ldf hf0 ixf x1 x2 x3 x4 x5 dl7 f7 ha7 hb7 dmf7 dmh7 ma7 mb7 mf1 mf2
            -- u by u
            refine ⟨_, rfl, _, rfl, d, c, pn, nums fb sb n, rfl, S15, mpn, by rw [nums_len]; exact fewn, fun pm ys H16 S16 k16 mpm iny ly => ?_⟩
            refine ⟨_, rfl, pm, _, rfl, SqL.of (mask_same _ _ mpm), fun ps nps => ?_⟩
            have K17 := k16.new (o := .lst (cutV (ys.map V.int) none (some 6))) nps
            have S17 := S16.new (o := .lst (cutV (ys.map V.int) none (some 6))) nps
            have hps := upd_same (H := H16) (a := ps) (o := .lst (cutV (ys.map V.int) none (some 6)))
            refine ⟨ps, rfl, ⟨_, SqL.of hps⟩, ?_⟩
            revert K17 S17 hps
            generalize upd H16 ps (.lst (cutV (ys.map V.int) none (some 6))) = H17
            intro K17 S17 hps
            have g17 := mask_keep K17
            have dmf := dmf.same g17
            have dmh := dmh.same g17
            have mldb := mldb.same g17
            have mpn := g17 _ _ mpn
            have ma := g17 _ _ ma
            have mb := g17 _ _ mb
            have mf0 := g17 _ _ mf0
            have mldf := mldf.same g17
            clear K17 g17 mf3 mpm k16 S16 nps
            have hf0 := mask_same _ _ mf0
            have ldf := mldf.same mask_same
            have ldb := mldb.same mask_same
            have ha := mask_same _ _ ma
            have hb := mask_same _ _ mb
            obtain ⟨dxf, fsf, ixf, x1, x2, x3, x4, x5⟩ := ld_ins ldf
            obtain ⟨dxb, fsb, ixb, y1, y2, y3, y4, y5⟩ := ld_ins ldb
            refine for_it (walk_list (xs := cutV (ys.map V.int) none (some 6))) (fun j σ H18 => ∃ (w14 w15 : Option V), σ = [some (.ref a), some (.ref d), some (.int (0 + (i : Nat))), some (.int n), some (.ref p), some (.ref ta), some (.ref tb), some (.ref tc), some (.ref Df), some (.ref Dh), some (.ref xb), some (.ref pn), some (.ref Dd), some (.ref rr), w14, w15, v16, v17, v18, v19, v20, v21] ∧ Same H17 H18) ⟨_, _, rfl, fun _ _ z => z⟩ (fun j σ H18 _ ⟨_, _, _, z⟩ => SqL.of (z _ _ hps)) ?_ ?_
            · rintro j y σ H18x H18 hj ⟨w14, w15, rfl, q18⟩ ⟨rfl, hy⟩
              obtain ⟨u, hu, rfl⟩ : ∃ u, u ∈ ys ∧ y = V.int u := by
                have m := cut_mem (List.mem_of_getElem? hy)
                obtain ⟨u, hu, e⟩ := List.mem_map.mp m
                exact ⟨u, hu, e.symm⟩
              have on1 : (u - fb) % sb = 0 := nums_on sb0 sbd (iny u hu)
              have bb := okf.sem.back_is u
              refine ⟨_, rfl, xb, dxb, fsb, rfl, q18 _ _ ixb, y5, _, rfl, xb, bkL (⟨fa, sa, fb, sb, n⟩ : LP), backF fa sa F, u, rfl, ldb.same q18, okb, on1, ?_⟩
              refine name_step (σ' := [some (.ref a), some (.ref d), some (.int (0 + (i : Nat))), some (.int n), some (.ref p), some (.ref ta), some (.ref tb), some (.ref tc), some (.ref Df), some (.ref Dh), some (.ref xb), some (.ref pn), some (.ref Dd), some (.ref rr), some (.int u), some (.int (backF fa sa F u)), v16, v17, v18, v19, v20, v21]) rfl ?_
              refine ⟨_, rfl, Df, _, rfl, dgetK (q18 _ _ hf0) w_made, xf, dxf, fsf, rfl, q18 _ _ ixf, x5, _, rfl, xf, (⟨fa, sa, fb, sb, n⟩ : LP), F, _, rfl, ldf.same q18, okf, bb.on, ?_⟩
              refine ⟨_, rfl, _, _, rfl, rfl, _, rfl, ?_⟩
              rw [decide_eq_true bb.le]
              refine iteT ?_
              refine ⟨_, rfl, Df, _, rfl, dgetK (q18 _ _ hf0) w_made, xf, dxf, fsf, rfl, q18 _ _ ixf, x5, _, rfl, _, rfl, ta, _, _, _, rfl, rfl, SqT.of (q18 _ _ ha), at1, _, _, rfl, rfl, xf, (⟨fa, sa, fb, sb, n⟩ : LP), F, _, rfl, ldf.same q18, okf, on_step bb.on, ?_⟩
              refine ⟨_, _, rfl, rfl, _, rfl, ?_⟩
              rw [decide_eq_true bb.lt]
              refine iteF ?_
              exact ⟨_, _, rfl, q18⟩
            rintro σ H18 ⟨w14, w15, rfl, q18⟩
            -- v by v
            have fewa : (n / sa).toNat ≤ 3600 := okf.few
            refine ⟨_, rfl, _, rfl, _, rfl, ta, fa, sa, nn, by rw [en]; rfl, q18 _ _ ha, sa0, sa1, by rw [← en]; exact sad, by omega, fun p9 H19 np9 q19 hp9 => ?_⟩
            rw [← en] at hp9
            have q := q18.trans q19
            have S18 := S17.same q18
            have S19 := S17.same q
            have ap9 := S18.away np9
            have g19 := sub_same (d := d) (c := c) q
            refine ⟨d, c, p9, nums fa sa n, rfl, S19, mask_at ap9 hp9, by rw [nums_len]; exact fewa, fun pm ys H20 S20 k20 mpm iny ly => ?_⟩
            have hpn9 := np9
            refine ⟨_, rfl, pm, _, rfl, SqL.of (mask_same _ _ mpm), fun ps nps => ?_⟩
            have K21 := k20.new (o := .lst (cutV (ys.map V.int) none (some 6))) nps
            have S21 := S20.new (o := .lst (cutV (ys.map V.int) none (some 6))) nps
            have hps := upd_same (H := H20) (a := ps) (o := .lst (cutV (ys.map V.int) none (some 6)))
            refine ⟨ps, rfl, ⟨_, SqL.of hps⟩, ?_⟩
            revert K21 S21 hps
            generalize upd H20 ps (.lst (cutV (ys.map V.int) none (some 6))) = H21
            intro K21 S21 hps
            have g21 := g19.trans (mask_keep K21)
            have dmf := dmf.same g21
            have dmh := dmh.same g21
            have mldb := mldb.same g21
            have mpn := g21 _ _ mpn
            have ma := g21 _ _ ma
            have mb := g21 _ _ mb
            have mf0 := g21 _ _ mf0
            have mldf := mldf.same g21
            clear K21 g21 g19 mpm k20 S20 nps q q19 np9 ap9 hp9 hpn9 S19 S18 S17 hf0 ldf ldb ha hb ixf ixb q18 x1 x2 x3 x4 x5 y1 y2 y3 y4 y5
            have hf0 := mask_same _ _ mf0
            have ldf := mldf.same mask_same
            have ldb := mldb.same mask_same
            have ha := mask_same _ _ ma
            have hb := mask_same _ _ mb
            obtain ⟨dxf, fsf, ixf, x1, x2, x3, x4, x5⟩ := ld_ins ldf
            obtain ⟨dxb, fsb, ixb, y1, y2, y3, y4, y5⟩ := ld_ins ldb
            refine for_it (walk_list (xs := cutV (ys.map V.int) none (some 6))) (fun j σ H22 => ∃ (z14 z15 : Option V), σ = [some (.ref a), some (.ref d), some (.int (0 + (i : Nat))), some (.int n), some (.ref p), some (.ref ta), some (.ref tb), some (.ref tc), some (.ref Df), some (.ref Dh), some (.ref xb), some (.ref pn), some (.ref Dd), some (.ref rr), z14, z15, v16, v17, v18, v19, v20, v21] ∧ Same H21 H22) ⟨_, _, rfl, fun _ _ z => z⟩ (fun j σ H22 _ ⟨_, _, _, z⟩ => SqL.of (z _ _ hps)) ?_ ?_
            · rintro j y σ H22x H22 hj ⟨z14, z15, rfl, q22⟩ ⟨rfl, hy⟩
              obtain ⟨v, hv, rfl⟩ : ∃ u, u ∈ ys ∧ y = V.int u := by
                have m := cut_mem (List.mem_of_getElem? hy)
                obtain ⟨u, hu, e⟩ := List.mem_map.mp m
                exact ⟨u, hu, e.symm⟩
              have on1 : (v - fa) % sa = 0 := nums_on sa0 sad (iny v hv)
              have on2 : (F v - fb) % sb = 0 := okf.sem.on v on1
              obtain ⟨bx1, bx2⟩ := okf.sem.back_box on1
              refine ⟨_, rfl, Df, _, rfl, dgetK (q22 _ _ hf0) w_made, xf, dxf, fsf, rfl, q22 _ _ ixf, x5, _, rfl, xf, (⟨fa, sa, fb, sb, n⟩ : LP), F, _, rfl, ldf.same q22, okf, on1, ?_⟩
              refine name_step (σ' := [some (.ref a), some (.ref d), some (.int (0 + (i : Nat))), some (.int n), some (.ref p), some (.ref ta), some (.ref tb), some (.ref tc), some (.ref Df), some (.ref Dh), some (.ref xb), some (.ref pn), some (.ref Dd), some (.ref rr), some (.int (F v)), some (.int v), v16, v17, v18, v19, v20, v21]) rfl ?_
              refine ⟨_, rfl, xb, dxb, fsb, rfl, q22 _ _ ixb, y5, _, rfl, _, rfl, tb, _, _, _, rfl, rfl, SqT.of (q22 _ _ hb), at1, _, _, rfl, rfl, xb, bkL (⟨fa, sa, fb, sb, n⟩ : LP), backF fa sa F, _, rfl, ldb.same q22, okb, on_sub on2, ?_⟩
              refine ⟨_, rfl, _, _, rfl, rfl, _, rfl, ?_⟩
              rw [decide_eq_true bx1]
              refine iteT ?_
              refine ⟨_, rfl, xb, dxb, fsb, rfl, q22 _ _ ixb, y5, _, rfl, xb, bkL (⟨fa, sa, fb, sb, n⟩ : LP), backF fa sa F, _, rfl, ldb.same q22, okb, on2, ?_⟩
              refine ⟨_, _, rfl, rfl, _, rfl, ?_⟩
              rw [decide_eq_true bx2]
              refine iteF ?_
              exact ⟨_, _, rfl, q22⟩
            rintro σ H22 ⟨z14, z15, rfl, q22⟩
            -- one and then another, back
            obtain ⟨sh2, eh2, rh2, xh, mh0, mh1, mh2, mh3, mldh⟩ := dmh.ex
            have hh0 := q22 _ _ (mask_same _ _ mh0)
            have ldh := (mldh.same mask_same).same q22
            have hf0 := q22 _ _ hf0
            have ldf := ldf.same q22
            have alb' : (fb - gb) % sb = 0 := by
              rw [show fb - gb = -(gb - fb) by omega]
              exact Int.emod_eq_zero_of_dvd (Int.dvd_neg.mpr (Int.dvd_of_emod_eq_zero alb))
            refine ⟨_, rfl, Df, _, rfl, dgetK hf0 w_made, _, rfl, Dh, _, rfl, dgetK hh0 w_made, xf, xh, (⟨fa, sa, fb, sb, n⟩ : LP), (⟨gb, sb, fc, sc, n⟩ : LP), F, G, rfl, ldf, ldh, okf, okh, rfl, rfl, alb, fun y1 H23 q23 ld1 => ?_⟩
            have okfh := okf.then okh (show (⟨gb, sb, fc, sc, n⟩ : LP).n = (⟨fa, sa, fb, sb, n⟩ : LP).n from rfl) (show (⟨gb, sb, fc, sc, n⟩ : LP).s = (⟨fa, sa, fb, sb, n⟩ : LP).r from rfl) alb
            refine ⟨y1, thenL (⟨fa, sa, fb, sb, n⟩ : LP) (⟨gb, sb, fc, sc, n⟩ : LP), _, rfl, ld1, okfh, fun y2 H24 q24 ld2 => ?_⟩
            have q2 := q23.trans q24
            refine ⟨_, rfl, Dh, _, rfl, dgetK (q2 _ _ hh0) w_made, xh, (⟨gb, sb, fc, sc, n⟩ : LP), G, rfl, ldh.same q2, okh, fun y3 H25 q25 ld3 => ?_⟩
            have q3 := q2.trans q25
            refine ⟨_, rfl, Df, _, rfl, dgetK (q3 _ _ hf0) w_made, xf, (⟨fa, sa, fb, sb, n⟩ : LP), F, rfl, ldf.same q3, okf, fun y4 H26 q26 ld4 => ?_⟩
            refine ⟨y3, y4, bkL (⟨gb, sb, fc, sc, n⟩ : LP), bkL (⟨fa, sa, fb, sb, n⟩ : LP), backF gb sb G, backF fa sa F, rfl, ld3.same q26, ld4, okh.bk, okb, rfl, rfl, alb', fun y5 H27 q27 ld5 => ?_⟩
            have ld2 := ld2.same ((q25.trans q26).trans q27)
            obtain ⟨dx2, fs2, ix2, _, _, _, _, _⟩ := ld_ins ld2
            obtain ⟨dx5, fs5, ix5, _, _, _, _, _⟩ := ld_ins ld5
            refine ⟨y2, y5, dx2, dx5, fs2, fs5, rfl, rfl, ix2, ix5, y2, y5, bkL (thenL (⟨fa, sa, fb, sb, n⟩ : LP) (⟨gb, sb, fc, sc, n⟩ : LP)), thenL (bkL (⟨gb, sb, fc, sc, n⟩ : LP)) (bkL (⟨fa, sa, fb, sb, n⟩ : LP)), _, _, rfl, ld2, ld5, sc0, sa0, ?_⟩
            rw [eqL_true (L := bkL (thenL (⟨fa, sa, fb, sb, n⟩ : LP) (⟨gb, sb, fc, sc, n⟩ : LP))) (M := thenL (bkL (⟨gb, sb, fc, sc, n⟩ : LP)) (bkL (⟨fa, sa, fb, sb, n⟩ : LP))) sc0 rfl (by show (fc - fc) % sc = 0; simp) rfl (by show (fa - fa) % sa = 0; simp) rfl (fun v _ => okf.sem.back_comp okh.sem alb' v)]
            refine ⟨_, rfl, _, rfl, iteF ?_⟩
            have q := (q22.trans ((q3.trans q26).trans q27))
            have S27 := S21.same q
            have g27 := sub_same (d := d) (c := c) q
            have dmf := dmf.same g27
            have mpn := g27 _ _ mpn
            have ma := g27 _ _ ma
            have mb := g27 _ _ mb
            clear ix2 ix5 ld1 ld2 ld3 ld4 ld5 q2 q3 q q22 q23 q24 q25 q26 q27 g27 mh0 mh1 mh2 mh3 mldh hh0 ldh hf0 ldf ldb ha hb ixf ixb x1 x2 x3 x4 x5 mldf mldb mf0 dmh hps hpn S21
            -- least
            refine ⟨_, rfl, _, rfl, d, c, 60, rfl, S27, (by decide), fun x H28 x0 x1 S28 k28 => ?_⟩
            refine ⟨_, _, rfl, rfl, _, _, rfl, rfl, ⟨by decide, by decide, by decide⟩, _, _, rfl, rfl, ⟨by decide, by decide, by decide⟩, _, rfl, (by show 3 ≤ sizeLine; decide), fun lp nlp => ?_⟩
            refine ⟨d, c, lp, _, rfl, S28.new nlp, upd_same, (S28.away nlp).2, (by show 0 < 3; decide), (by show 3 < 1000000000; decide), fun j v H29 hv S29 k29 => ?_⟩
            obtain ⟨least, rfl⟩ : ∃ z, v = V.int z := by
              have m := List.mem_of_getElem? hv
              simp only [List.mem_cons, List.not_mem_nil, or_false] at m
              rcases m with e | e | e
              · exact ⟨_, e⟩
              · exact ⟨_, e⟩
              · exact ⟨_, e⟩
            clear hv
            have g29 := mask_keep ((k28.new nlp).trans k29)
            have dmf := dmf.same g29
            have mpn := g29 _ _ mpn
            have ma := g29 _ _ ma
            have mb := g29 _ _ mb
            clear g29 k28 k29 nlp S28 S27 x0 x1
            refine name_step (σ' := [some (.ref a), some (.ref d), some (.int (0 + (i : Nat))), some (.int n), some (.ref p), some (.ref ta), some (.ref tb), some (.ref tc), some (.ref Df), some (.ref Dh), some (.ref xb), some (.ref pn), some (.ref Dd), some (.ref rr), z14, z15, some (.int least), v17, v18, v19, v20, v21]) rfl ?_
            have hpn := mask_same _ _ mpn
            have ha := mask_same _ _ ma
            have hb := mask_same _ _ mb
            have semR : Sem fa sa fb sb n (fun v => upv fb sb (v + least)) := sem_up sa0 sb0 n0 sad sbd
            have okR : LOk (⟨fa, sa, fb, sb, n⟩ : LP) (fun v => upv fb sb (v + least)) := ⟨semR, sa1, sb1, (by show n ≤ 3600; omega)⟩
            have okS : LOk (⟨fa, sa, fa, sa, n⟩ : LP) (fun v => v) := ⟨⟨sa0, sa0, n0, sad, sad, fun v h => h, fun v u _ _ le => le, fun v _ => rfl⟩, sa1, sa1, (by show n ≤ 3600; omega)⟩
            -- row
            refine ⟨_, rfl, pn, rfl, ⟨_, SqL.of hpn⟩, fun E2 nE2 => ?_⟩
            refine lc_it walk_list (fun i H30 => Same H29 H30 ∧ H30 E2 = some (.lst (((rowOf (bkL (⟨fa, sa, fb, sb, n⟩ : LP)) (backF fa sa (fun v => upv fb sb (v + least)))).take i).map V.int))) ⟨same_new nE2, upd_same⟩ (fun i H30 _ z => SqL.of (z.1 _ _ hpn)) ?_ ?_
            · rintro i y H30x H30 hi ⟨q30, hE⟩ ⟨rfl, hy⟩
              rw [lenp] at hi
              obtain rfl : V.int (fb % sb + (i : Nat) * sb) = y := by
                rw [List.getElem?_map, nums_at hi] at hy
                exact Option.some.inj hy
              have on1 : (fb % sb + (i : Nat) * sb - fb) % sb = 0 := okb.on_at hi
              have br : (backF fa sa (fun v => upv fb sb (v + least))) (fb % sb + (i : Nat) * sb) = _ := back_rule sa0 sb0 semR on1
              refine ⟨rfl, _, rfl, _, rfl, _, rfl, _, _, rfl, rfl, ta, fa, sa, _, rfl, q30 _ _ ha, sa0, True.intro, _, rfl, ?_⟩
              rw [show onB fa sa (V.int (fb % sb + (i : Nat) * sb - least)) = decide ((fb % sb + (i : Nat) * sb - least - fa) % sa = 0) from rfl]
              by_cases on2 : (fb % sb + (i : Nat) * sb - least - fa) % sa = 0
              · rw [decide_eq_true on2]
                rw [if_pos on2] at br
                refine iteT ?_
                refine ⟨_, rfl, _, rfl, _, rfl, _, _, rfl, rfl, ta, fa, sa, _, rfl, q30 _ _ ha, sa0, by omega, ?_⟩
                refine ⟨_, hE, big5000 (by rw [List.length_map, List.length_take]; omega), fun b o z => by rw [upd_ne (ne_of_none z nE2)]; exact q30 b o z, ?_⟩
                rw [upd_same, List.take_succ, row_at (L := bkL (⟨fa, sa, fb, sb, n⟩ : LP)) hi, List.map_append, ← br]
                rfl
              · rw [decide_eq_false on2]
                rw [if_neg on2] at br
                refine iteF ?_
                refine ⟨_, rfl, _, rfl, _, rfl, _, _, rfl, rfl, ta, fa, sa, _, rfl, q30 _ _ ha, sa0, by omega, ?_⟩
                refine ⟨_, rfl, ta, _, _, _, rfl, rfl, SqT.of (q30 _ _ ha), at1, _, _, rfl, rfl, ?_⟩
                refine ⟨_, hE, big5000 (by rw [List.length_map, List.length_take]; omega), fun b o z => by rw [upd_ne (ne_of_none z nE2)]; exact q30 b o z, ?_⟩
                rw [upd_same, List.take_succ, row_at (L := bkL (⟨fa, sa, fb, sb, n⟩ : LP)) hi, List.map_append]
                show some (HO.lst (_ ++ [V.int (upv fa sa (fb % sb + (i : Nat) * sb - least) - sa)])) = _
                rw [← br]
                rfl
            rintro H30 ⟨q30, hE⟩
            rw [List.take_of_length_le (by rw [row_len, lenp]; exact Nat.le_refl _)] at hE
            refine name_step (σ' := [some (.ref a), some (.ref d), some (.int (0 + (i : Nat))), some (.int n), some (.ref p), some (.ref ta), some (.ref tb), some (.ref tc), some (.ref Df), some (.ref Dh), some (.ref xb), some (.ref pn), some (.ref Dd), some (.ref E2), z14, z15, some (.int least), v17, v18, v19, v20, v21]) rfl ?_
            -- stay
            refine ⟨_, rfl, _, rfl, ta, fa, sa, n, rfl, q30 _ _ ha, okS, fun xs H31 q31 lds => ?_⟩
            refine name_step (σ' := [some (.ref a), some (.ref d), some (.int (0 + (i : Nat))), some (.int n), some (.ref p), some (.ref ta), some (.ref tb), some (.ref tc), some (.ref Df), some (.ref Dh), some (.ref xb), some (.ref pn), some (.ref Dd), some (.ref E2), z14, z15, some (.int least), some (.ref xs), v18, v19, v20, v21]) rfl ?_
            have q := q30.trans q31
            have hE := q31 _ _ hE
            refine ⟨_, rfl, _, rfl, _, rfl, _, rfl, ta, tb, (⟨fa, sa, fb, sb, n⟩ : LP), least, rfl, q _ _ ha, q _ _ hb, okR, fun y1 H32 q32 ld1 => ?_⟩
            refine ⟨y1, (⟨fa, sa, fb, sb, n⟩ : LP), _, rfl, ld1, okR, fun y2 H33 q33 ld2 => ?_⟩
            obtain ⟨dx2, fs2, ix2, _, _, _, w4, _⟩ := ld_ins ld2
            refine ⟨y2, dx2, fs2, rfl, ix2, w4, y2, bkL (⟨fa, sa, fb, sb, n⟩ : LP), (backF fa sa (fun v => upv fb sb (v + least))), rfl, ld2, fun pr npr => ?_⟩
            have q34 := same_new (H := H33) (o := .lst ((rowOf (bkL (⟨fa, sa, fb, sb, n⟩ : LP)) (backF fa sa (fun v => upv fb sb (v + least)))).map V.int)) npr
            have hpr := upd_same (H := H33) (a := pr) (o := .lst ((rowOf (bkL (⟨fa, sa, fb, sb, n⟩ : LP)) (backF fa sa (fun v => upv fb sb (v + least)))).map V.int))
            have q3 := (q32.trans q33).trans q34
            refine ⟨_, rfl, .list ((rowOf (bkL (⟨fa, sa, fb, sb, n⟩ : LP)) (backF fa sa (fun v => upv fb sb (v + least)))).map PyData.int), .list ((rowOf (bkL (⟨fa, sa, fb, sb, n⟩ : LP)) (backF fa sa (fun v => upv fb sb (v + least)))).map PyData.int), .lst (SqL.of hpr) (dpAll_ints _), .lst (SqL.of (q3 _ _ hE)) (dpAll_ints _), shaped_ints _, shaped_ints _, _, rfl, ?_⟩
            rw [eqv_ints, decide_eq_true rfl]
            refine iteF ?_
            have q := q.trans q3
            have lds := lds.same q3
            revert q lds
            generalize upd H33 pr (.lst ((rowOf (bkL (⟨fa, sa, fb, sb, n⟩ : LP)) (backF fa sa (fun v => upv fb sb (v + least)))).map V.int)) = H34
            intro q lds
            clear hpr npr q34 q3 q32 q33 ld1 ld2 ix2 hE q30 q31
            refine ⟨_, rfl, xs, (⟨fa, sa, fa, sa, n⟩ : LP), (fun v => v), rfl, lds, okS, fun y3 H35 q35 ld3 => ?_⟩
            have lds := lds.same q35
            obtain ⟨dx3, fs3, ix3, _, _, _, _, _⟩ := ld_ins ld3
            obtain ⟨dxs, fss, ixs, _, _, _, _, _⟩ := ld_ins lds
            refine ⟨_, rfl, y3, xs, dx3, dxs, fs3, fss, rfl, rfl, ix3, ixs, y3, xs, bkL (⟨fa, sa, fa, sa, n⟩ : LP), (⟨fa, sa, fa, sa, n⟩ : LP), _, _, rfl, ld3, lds, sa0, sa0, ?_⟩
            rw [eqL_true (L := bkL (⟨fa, sa, fa, sa, n⟩ : LP)) (M := (⟨fa, sa, fa, sa, n⟩ : LP)) sa0 rfl (by show (fa - fa) % sa = 0; simp) rfl (by show (fa - fa) % sa = 0; simp) rfl (fun v hv => back_stay sa0 okS.sem (nums_on sa0 sad hv))]
            refine ⟨_, rfl, _, rfl, iteF ?_⟩
            have q := q.trans q35
            have S35 := S29.same q
            have g35 := sub_same (d := d) (c := c) q
            have dmf := dmf.same g35
            have ma := g35 _ _ ma
            have mb := g35 _ _ mb
            clear q g35 q35 lds ld3 ix3 ixs hpn mpn ha hb S29
            -- g
            refine ⟨_, rfl, _, rfl, _, rfl, _, rfl, d, c, ta, tb, (⟨fa, sa, fb, sb, n⟩ : LP), rfl, S35, mask_same _ _ ma, mask_same _ _ mb, ⟨sa0, sa1, sb0, sb1, n0, n1, sad, sbd⟩, fun Dg G2 H36 dmg okg smlg S36 k36 => ?_⟩
            refine name_step (σ' := [some (.ref a), some (.ref d), some (.int (0 + (i : Nat))), some (.int n), some (.ref p), some (.ref ta), some (.ref tb), some (.ref tc), some (.ref Df), some (.ref Dh), some (.ref xb), some (.ref pn), some (.ref Dd), some (.ref E2), z14, z15, some (.int least), some (.ref xs), some (.ref Dg), v19, v20, v21]) rfl ?_
            have g36 := mask_keep k36
            have dmf := dmf.same g36
            obtain ⟨e1, e2, e3, xf, mf0, e4, e5, e6, mldf⟩ := dmf.ex
            obtain ⟨e7, e8, e9, xg, mg0, e10, e11, e12, mldg⟩ := dmg.ex
            have hf0 := mask_same _ _ mf0
            have hg0 := mask_same _ _ mg0
            have ldf := mldf.same mask_same
            have ldg := mldg.same mask_same
            clear e4 e5 e6 e10 e11 e12 g36 k36 mf0 mg0 mldf mldg ma mb dmf dmg S35
            have like1 : Like (⟨fa, sa, fb, sb, n⟩ : LP) (⟨fa, sa, fb, sb, n⟩ : LP) := ⟨rfl, rfl, rfl, by show (fa - fa) % sa = 0; simp, by show (fb - fb) % sb = 0; simp⟩
            have okm := like1.later okf okg
            -- both
            refine ⟨_, rfl, Df, _, rfl, dgetK hf0 w_made, xf, (⟨fa, sa, fb, sb, n⟩ : LP), F, rfl, ldf, okf, fun y1 H37 q37 ld1 => ?_⟩
            obtain ⟨dx1, fs1, ix1, _, _, _, w4, _⟩ := ld_ins ld1
            refine ⟨y1, dx1, fs1, rfl, ix1, w4, y1, bkL (⟨fa, sa, fb, sb, n⟩ : LP), (backF fa sa F), rfl, ld1, fun p1 np1 => ?_⟩
            have q38 := q37.trans (same_new (H := H37) (o := .lst ((rowOf (bkL (⟨fa, sa, fb, sb, n⟩ : LP)) (backF fa sa F)).map V.int)) np1)
            have hp1 := upd_same (H := H37) (a := p1) (o := .lst ((rowOf (bkL (⟨fa, sa, fb, sb, n⟩ : LP)) (backF fa sa F)).map V.int))
            revert q38 hp1
            generalize upd H37 p1 (.lst ((rowOf (bkL (⟨fa, sa, fb, sb, n⟩ : LP)) (backF fa sa F)).map V.int)) = H38
            intro q38 hp1
            clear q37 np1 ix1 ld1
            refine ⟨_, rfl, Dg, _, rfl, dgetK (q38 _ _ hg0) w_made, xg, (⟨fa, sa, fb, sb, n⟩ : LP), G2, rfl, ldg.same q38, okg, fun y2 H39 q39 ld2 => ?_⟩
            obtain ⟨dx2, fs2, ix2, _, _, _, w4, _⟩ := ld_ins ld2
            refine ⟨y2, dx2, fs2, rfl, ix2, w4, y2, bkL (⟨fa, sa, fb, sb, n⟩ : LP), (backF fa sa G2), rfl, ld2, fun p2 np2 => ?_⟩
            have q40' := same_new (H := H39) (o := .lst ((rowOf (bkL (⟨fa, sa, fb, sb, n⟩ : LP)) (backF fa sa G2)).map V.int)) np2
            have hp1 := q40' _ _ (q39 _ _ hp1)
            have q40 := (q38.trans q39).trans q40'
            have hp2 := upd_same (H := H39) (a := p2) (o := .lst ((rowOf (bkL (⟨fa, sa, fb, sb, n⟩ : LP)) (backF fa sa G2)).map V.int))
            revert q40 hp1 hp2
            generalize upd H39 p2 (.lst ((rowOf (bkL (⟨fa, sa, fb, sb, n⟩ : LP)) (backF fa sa G2)).map V.int)) = H40
            intro hp1 q40 hp2
            clear q40' q39 q38 ix2 ld2 np2
            have len1 : ((rowOf (bkL (⟨fa, sa, fb, sb, n⟩ : LP)) (backF fa sa F)).map V.int).length = (n / sb).toNat := by rw [List.length_map, row_len]
            have len2 : ((rowOf (bkL (⟨fa, sa, fb, sb, n⟩ : LP)) (backF fa sa G2)).map V.int).length = (n / sb).toNat := by rw [List.length_map, row_len]
            refine ⟨p1, p2, _, _, rfl, SqL.of hp1, SqL.of hp2, fun E3 nE3 => ?_⟩
            refine lc_it (walk_znl (len1.trans len2.symm)) (fun i H41 => Same H40 H41 ∧ H41 E3 = some (.lst (((rowOf (bkL (⟨fa, sa, fb, sb, n⟩ : LP)) (fun u => if backF fa sa G2 u < backF fa sa F u then backF fa sa G2 u else backF fa sa F u)).take i).map V.int))) ⟨same_new nE3, upd_same⟩ (fun i H41 _ z => ⟨SqL.of (z.1 _ _ hp1), SqL.of (z.1 _ _ hp2)⟩) ?_ ?_
            · rintro i y H41 H41b hi ⟨q41, hE⟩ ⟨t, x1, x2, rfl, nt, rfl, e1, e2⟩
              rw [len1] at hi
              obtain rfl : V.int ((backF fa sa F) (fb % sb + (i : Nat) * sb)) = x1 := by
                have e1 : ((rowOf (bkL (⟨fa, sa, fb, sb, n⟩ : LP)) (backF fa sa F)).map V.int)[i]? = some x1 := e1
                rw [List.getElem?_map, row_at (L := bkL (⟨fa, sa, fb, sb, n⟩ : LP)) hi] at e1
                exact Option.some.inj e1
              obtain rfl : V.int ((backF fa sa G2) (fb % sb + (i : Nat) * sb)) = x2 := by
                have e2 : ((rowOf (bkL (⟨fa, sa, fb, sb, n⟩ : LP)) (backF fa sa G2)).map V.int)[i]? = some x2 := e2
                rw [List.getElem?_map, row_at (L := bkL (⟨fa, sa, fb, sb, n⟩ : LP)) hi] at e2
                exact Option.some.inj e2
              have hE2 : (upd H41 t (.tup [.int ((backF fa sa F) (fb % sb + (i : Nat) * sb)), .int ((backF fa sa G2) (fb % sb + (i : Nat) * sb))])) E3 = some (.lst (((rowOf (bkL (⟨fa, sa, fb, sb, n⟩ : LP)) (fun u => if backF fa sa G2 u < backF fa sa F u then backF fa sa G2 u else backF fa sa F u)).take i).map V.int)) := by
                rw [upd_ne (ne_of_none hE nt)]
                exact hE
              refine ⟨rfl, _, rfl, t, _, _, rfl, SqT.of upd_same, _, hE2, big5000 (by rw [List.length_map, List.length_take]; omega), fun b o z => by rw [upd_ne (ne_of_none z nE3)]; exact (q41.trans (same_new nt)) b o z, ?_⟩
              rw [upd_same, List.take_succ, row_at (L := bkL (⟨fa, sa, fb, sb, n⟩ : LP)) hi, List.map_append]
              rfl
            rintro H41 ⟨q41, hE⟩
            rw [List.take_of_length_le (by rw [row_len, len1]; exact Nat.le_refl _)] at hE
            refine name_step (σ' := [some (.ref a), some (.ref d), some (.int (0 + (i : Nat))), some (.int n), some (.ref p), some (.ref ta), some (.ref tb), some (.ref tc), some (.ref Df), some (.ref Dh), some (.ref xb), some (.ref pn), some (.ref Dd), some (.ref E2), z14, z15, some (.int least), some (.ref xs), some (.ref Dg), some (.ref E3), v20, v21]) rfl ?_
            have q := q40.trans q41
            refine ⟨_, rfl, Df, _, rfl, dgetK (q _ _ hf0) w_made, _, rfl, Dg, _, rfl, dgetK (q _ _ hg0) w_made, xf, xg, (⟨fa, sa, fb, sb, n⟩ : LP), (⟨fa, sa, fb, sb, n⟩ : LP), F, G2, rfl, ldf.same q, ldg.same q, okf, okg, like1, fun y3 H42 q42 ld3 => ?_⟩
            refine ⟨y3, (⟨fa, sa, fb, sb, n⟩ : LP), maxF F G2, rfl, ld3, okm, fun y4 H43 q43 ld4 => ?_⟩
            obtain ⟨dx4, fs4, ix4, _, _, _, w4, _⟩ := ld_ins ld4
            refine ⟨y4, dx4, fs4, rfl, ix4, w4, y4, bkL (⟨fa, sa, fb, sb, n⟩ : LP), backF fa sa (maxF F G2), rfl, ld4, fun pr npr => ?_⟩
            have em : backF fa sa (maxF F G2) = (fun u => if backF fa sa G2 u < backF fa sa F u then backF fa sa G2 u else backF fa sa F u) := funext fun u => okf.sem.back_max okg.sem okm.sem u
            rw [em]
            have q44 := same_new (H := H43) (o := .lst ((rowOf (bkL (⟨fa, sa, fb, sb, n⟩ : LP)) (fun u => if backF fa sa G2 u < backF fa sa F u then backF fa sa G2 u else backF fa sa F u)).map V.int)) npr
            have hpr := upd_same (H := H43) (a := pr) (o := .lst ((rowOf (bkL (⟨fa, sa, fb, sb, n⟩ : LP)) (fun u => if backF fa sa G2 u < backF fa sa F u then backF fa sa G2 u else backF fa sa F u)).map V.int))
            have q3 := (q42.trans q43).trans q44
            refine ⟨_, rfl, .list ((rowOf (bkL (⟨fa, sa, fb, sb, n⟩ : LP)) (fun u => if backF fa sa G2 u < backF fa sa F u then backF fa sa G2 u else backF fa sa F u)).map PyData.int), .list ((rowOf (bkL (⟨fa, sa, fb, sb, n⟩ : LP)) (fun u => if backF fa sa G2 u < backF fa sa F u then backF fa sa G2 u else backF fa sa F u)).map PyData.int), .lst (SqL.of hpr) (dpAll_ints _), .lst (SqL.of (q3 _ _ hE)) (dpAll_ints _), shaped_ints _, shaped_ints _, _, rfl, ?_⟩
            rw [eqv_ints, decide_eq_true rfl]
            refine iteF ?_
            exact ⟨_, _, _, _, _, _, _, _, _, _, _, _, _, _, _, _, _, _, _, _, rfl, S36.same (q.trans q3)⟩
    · rintro σ H1 ⟨v2, v3, v4, v5, v6, v7, v8, v9, v10, v11, v12, v13, v14, v15, v16, v17, v18, v19, v20, v21, rfl, S1⟩
      clear S1
      refine ⟨(by show 2 ≤ sizeLine; decide), fun ta nta => ⟨(by show 2 ≤ sizeLine; decide), fun tb ntb => ⟨(by show 6 ≤ sizeLine; decide), fun rl nrl => ?_⟩⟩⟩
      have h1 : upd H1 ta (.tup [.int 0, .int 1]) ta = some (.tup [.int 0, .int 1]) := upd_same
      have h1 := same_new (o := .tup [.int 1, .int 2]) ntb _ _ h1
      have h2 : upd (upd H1 ta (.tup [.int 0, .int 1])) tb (.tup [.int 1, .int 2]) tb = some (.tup [.int 1, .int 2]) := upd_same
      have h1 := same_new (o := .lst [V.int 3, V.int 3, V.int 5, V.int 5, V.int 7, V.int 7]) nrl _ _ h1
      have h2 := same_new (o := .lst [V.int 3, V.int 3, V.int 5, V.int 5, V.int 7, V.int 7]) nrl _ _ h2
      have h3 : upd (upd (upd H1 ta (.tup [.int 0, .int 1])) tb (.tup [.int 1, .int 2])) rl (.lst [V.int 3, V.int 3, V.int 5, V.int 5, V.int 7, V.int 7]) rl = some (.lst ((rowOf L0 (valL 1 6 row1)).map V.int)) := by
        rw [show rowOf L0 (valL 1 6 row1) = row1 from rok1.sem.2]
        exact upd_same
      refine fun xl dxl nxl ndxl nel => ?_
      have sm := (same_new (o := .own xl) ndxl).trans (same_new (p := xl) (o := .ins C dxl []) (by rw [upd_ne nel.symm]; exact nxl))
      refine ⟨xl, dxl, rl, ta, tb, L0, valL 1 6 row1, rfl, upd_same, sm _ _ h3, sm _ _ h1, sm _ _ h2, ok1, fun H5 b5 ld => ⟨rfl, ?_⟩⟩
      refine ⟨xl, L0, valL 1 6 row1, rfl, ld, ok1, fun y2 H6 q6 ld2 => ?_⟩
      obtain ⟨dx2, fs2, ix2, _, _, _, w4, _⟩ := ld_ins ld2
      refine ⟨y2, dx2, fs2, rfl, ix2, w4, y2, bkL L0, backF 0 1 (valL 1 6 row1), rfl, ld2, fun pr npr => ?_⟩
      rw [back_row1]
      refine ⟨_, rfl, (by show 3 ≤ sizeLine; decide), fun e1 ne1 => ?_⟩
      have q7 := same_new (H := upd H6 pr (.lst (([-1, 1, 3] : List Int).map V.int))) (o := .lst (([-1, 1, 3] : List Int).map V.int)) ne1
      refine ⟨.list (([-1, 1, 3] : List Int).map PyData.int), .list (([-1, 1, 3] : List Int).map PyData.int), .lst (SqL.of (q7 _ _ upd_same)) (dpAll_ints _), .lst (SqL.of upd_same) (dpAll_ints ([-1, 1, 3] : List Int)), shaped_ints _, shaped_ints _, ?_⟩
      rw [eqv_ints, decide_eq_true rfl]
      exact kend _

end
end L18
namespace L18
open PySem PySem.Spec L2 Rt Rs Ld
open PyProof.Rows hiding St
structure DefsL (K : PySem.W.Frag) (mg : Str → Option Value) : Prop where
  isInt : At K mg "is_integer" sIsInt
  up : At K mg "up" sUp
  on : At K mg "is_on" sOn
  alike : At K mg "are_alike_clocks" sAlike
  rests : At K mg "rests" sRests
  isPer : At K mg "is_period" sIsPer
  isClk : At K mg "is_clock" sIsClk
  wRow : At K mg "wrong_in_row" sWRow
  wLead : At K mg "wrong_in_lead" sWLead
  rule : At K mg "rule_lead" sRuleL
  stay : At K mg "staying_lead" sStay
  later : At K mg "later_lead" sLater
  and_ : At K mg "and_then" sAnd
  back : At K mg "back_of" sBackOf
  with_ : At K mg "with_period" sWith
  source : At K mg "_law_source" sSource
  pick : At K mg "_law_pick" sPick
  of : At K mg "_law_of" sOf
  mixed : At K mg "_law_mixed" sMixed
  clock : At K mg "_law_clock" sClock
  lup : At K mg "_law_up" sLUp
  lInt : At K mg "_law_is_integer" sLInt
  lOn : At K mg "_law_is_on" sLOn
  value : At K mg "_law_value" sValue
  numbers : At K mg "_law_numbers" sNumbers
  lAlike : At K mg "_law_alike" sLAlike
  row : At K mg "_law_row" sRow
  lead : At K mg "_law_lead" sLead
  pas : At K mg "_law_period_and_steps" sPas
  like : At K mg "_law_is_like" sLike
  lback : At K mg "_law_back" sLBack
  law : At K mg "law" sLaw
structure NilL (mg : Str → Option Value) : Prop where
  zabs : mg "abs" = none
  zint : mg "int" = none
  zmax : mg "max" = none
  zlen : mg "len" = none
  zisinstance : mg "isinstance" = none
  zbool : mg "bool" = none
  zrange : mg "range" = none
  zlist : mg "list" = none
  ztuple : mg "tuple" = none
  zsorted : mg "sorted" = none
  zrepr : mg "repr" = none
  zzip : mg "zip" = none
  zall : mg "all" = none
  zmin : mg "min" = none
  zenumerate : mg "enumerate" = none
structure MsL (K : PySem.W.Frag) (C : Addr) : Prop where
  start : MAt K C "start" "Lead.start" sMStart
  end_ : MAt K C "end" "Lead.end" sMEnd
  period : MAt K C "period" "Lead.period" sMPeriod
  row : MAt K C "row" "Lead.row" sMRow
  at_ : MAt K C "at" "Lead.at" sMAt
  eq : MAt K C "__eq__" "Lead.__eq__" sEq
  ne : MAt K C "__ne__" "Lead.__ne__" sNe
section
variable {P : Program} {w : World} {K : PySem.W.Frag} {mg : Str → Option Value} {base : Heap} {C : Addr}
theorem wdsL (N : NilL mg) (gs : ∃ t, mg "GREATEST_STEP" = some (.int 60 t)) : Wds mg := ⟨N.zabs, N.zint, N.zmax, N.zlen, N.zisinstance, N.zbool, N.zrange, N.zlist, N.ztuple, N.zsorted, N.zrepr, N.zzip, N.zall, N.zmin, N.zenumerate, gs⟩
theorem the_law (A : DefsL K mg) (T : Wds mg) (cn : ClsL K C) (ic : C8.InsC K C) (hC : mg "Lead" = some (.ref C)) (mkA : MkAt K mg "Lead" C "Lead.__init__" sInit) (m : MsL K C) {fa : Addr} (ha : mg "law" = some (.ref fa)) :
    ∃ fd : FuncData, (∀ (s : Shared) (u : Value), BindsTo s fd ⟨[u], []⟩ [("script", u)]) ∧ ∀ base : Heap, FnG P w K mg base 8 fa fd ["script"] (spLaw K) := by
  obtain ⟨f, fd, F, mf⟩ := A.law.ex
  cases ha.symm.trans mf
  refine ⟨fd, ?_, fun base => ?_⟩
  · obtain ⟨oc, od, kV, doc, pm, an, cdv, ct, osl, rfl, lk, hcd⟩ := F.ex
    exact fun s u => .of_eq rfl
  have fInt : Cf P w K mg base 1 "is_integer" spIsInt := A.isInt.cf (fun f fd F => ok_isInt2 F T) fun f fd F => F.binds fun _ _ _ _ _ _ us hl => match us, hl with | [_], _ => rfl
  have fUp : Cf P w K mg base 1 "up" spUp := A.up.cf (fun f fd F => ok_up F) fun f fd F => F.binds fun _ _ _ _ _ _ us hl => match us, hl with | [_, _], _ => rfl
  have fOn : Cf P w K mg base 2 "is_on" spOn := A.on.cf (fun f fd F => ok_on F fInt) fun f fd F => F.binds fun _ _ _ _ _ _ us hl => match us, hl with | [_, _], _ => rfl
  have fAl : Cf P w K mg base 3 "are_alike_clocks" spAlike := A.alike.cf (fun f fd F => ok_alike F fOn) fun f fd F => F.binds fun _ _ _ _ _ _ us hl => match us, hl with | [_, _], _ => rfl
  have fRe : Cf P w K mg base 1 "rests" spRests := A.rests.cf (fun f fd F => ok_rests F T) fun f fd F => F.binds fun _ _ _ _ _ _ us hl => match us, hl with | [_, _], _ => rfl
  have fPer : Cf P w K mg base 2 "is_period" spIsPer := A.isPer.cf (fun f fd F => ok_isPer F T fInt) fun f fd F => F.binds fun _ _ _ _ _ _ us hl => match us, hl with | [_, _], _ => rfl
  have fClk : Cf P w K mg base 2 "is_clock" spIsClk := A.isClk.cf (fun f fd F => ok_isClk F T fInt) fun f fd F => F.binds fun _ _ _ _ _ _ us hl => match us, hl with | [_], _ => rfl
  have fWr : Cf P w K mg base 3 "wrong_in_row" spWRow := A.wRow.cf (fun f fd F => ok_wRow F T fOn) fun f fd F => F.binds fun _ _ _ _ _ _ us hl => match us, hl with | [_, _, _], _ => rfl
  have fWl : Cf P w K mg base 4 "wrong_in_lead" spWLead := A.wLead.cf (fun f fd F => ok_wLead F T fClk fPer fWr) fun f fd F => F.binds fun _ _ _ _ _ _ us hl => match us, hl with | [_, _, _, _], _ => rfl
  have mk : Mkr P w K mg base 5 C "Lead" (spInit C) := mkA.mkr (fun f fd F => ok_init F T cn fWl) (fun f fd F => F.binds fun _ _ _ _ _ _ us hl => match us, hl with | [_, _, _, _, _], _ => rfl)
  have mS : Md P w K mg base 1 C "start" (spMStart C) := m.start.md (fun f fd F => ok_mstart F T cn) (fun f fd F => F.binds fun _ _ _ _ _ _ us hl => match us, hl with | [_], _ => rfl)
  have mE : Md P w K mg base 1 C "end" (spMEnd C) := m.end_.md (fun f fd F => ok_mend F T cn) (fun f fd F => F.binds fun _ _ _ _ _ _ us hl => match us, hl with | [_], _ => rfl)
  have mP : Md P w K mg base 1 C "period" (spMPeriod C) := m.period.md (fun f fd F => ok_mperiod F T cn) (fun f fd F => F.binds fun _ _ _ _ _ _ us hl => match us, hl with | [_], _ => rfl)
  have mR : Md P w K mg base 1 C "row" (spMRow C) := m.row.md (fun f fd F => ok_mrow F T cn) (fun f fd F => F.binds fun _ _ _ _ _ _ us hl => match us, hl with | [_], _ => rfl)
  have mA : Md P w K mg base 3 C "at" (spMAt C) := m.at_.md (fun f fd F => ok_mat F T cn fOn) (fun f fd F => F.binds fun _ _ _ _ _ _ us hl => match us, hl with | [_, _], _ => rfl)
  have M : MethL P w K mg base C := ⟨mS, mE, mP, mR, mA⟩
  have mEq : Md P w K mg base 4 C "__eq__" (spEqM C) := m.eq.md (fun f fd F => ok_eq F T cn hC ic fAl) (fun f fd F => F.binds fun _ _ _ _ _ _ us hl => match us, hl with | [_, _], _ => rfl)
  have mNe : Md P w K mg base 5 C "__ne__" (spNeM C) := m.ne.md (fun f fd F => ok_ne F mEq) (fun f fd F => F.binds fun _ _ _ _ _ _ us hl => match us, hl with | [_, _], _ => rfl)
  have fRl : Cf P w K mg base 7 "rule_lead" (spRuleL C) := A.rule.cf (fun f fd F => ok_ruleL F mk fUp fRe) fun f fd F => F.binds fun _ _ _ _ _ _ us hl => match us, hl with | [_, _, _, _], _ => rfl
  have fSt : Cf P w K mg base 7 "staying_lead" (spStay C) := A.stay.cf (fun f fd F => ok_stay F mk fRe) fun f fd F => F.binds fun _ _ _ _ _ _ us hl => match us, hl with | [_, _], _ => rfl
  have fBo : Cf P w K mg base 7 "back_of" (spBackOf C) := A.back.cf (fun f fd F => ok_backOf F cn M mk fRe) fun f fd F => F.binds fun _ _ _ _ _ _ us hl => match us, hl with | [_], _ => rfl
  have fLt : Cf P w K mg base 7 "later_lead" (spLater C) := A.later.cf (fun f fd F => ok_later F T cn M mk fAl) fun f fd F => F.binds fun _ _ _ _ _ _ us hl => match us, hl with | [_, _], _ => rfl
  have fAn : Cf P w K mg base 7 "and_then" (spAnd C) := A.and_.cf (fun f fd F => ok_and F T cn M mk fAl) fun f fd F => F.binds fun _ _ _ _ _ _ us hl => match us, hl with | [_, _], _ => rfl
  have fWp : Cf P w K mg base 7 "with_period" (spWith C) := A.with_.cf (fun f fd F => ok_with F T cn M mk) fun f fd F => F.binds fun _ _ _ _ _ _ us hl => match us, hl with | [_, _], _ => rfl
  have cP : Cb P w K mg base 1 "_law_pick" spPick := A.pick.cb (fun f fd F => ok_pick F T.zlen T.zmax T.zint) fun f fd F => F.binds fun _ _ _ _ _ _ us hl => match us, hl with | [_, _], _ => rfl
  have cO : Cb P w K mg base 2 "_law_of" spOf := A.of.cb (fun f fd F => ok_of F T.zlen cP) fun f fd F => F.binds fun _ _ _ _ _ _ us hl => match us, hl with | [_, _], _ => rfl
  have cSrc : Cb P w K mg base 1 "_law_source" (spSource K) := A.source.cb (fun f fd F => ok_source F T.zabs T.zint) fun f fd F => F.binds fun _ _ _ _ _ _ us hl => match us, hl with | [_], _ => rfl
  have cMx : Cb P w K mg base 2 "_law_mixed" spMixed := A.mixed.cb (fun f fd F => ok_mixed F T cP) fun f fd F => F.binds fun _ _ _ _ _ _ us hl => match us, hl with | [_, _], _ => rfl
  have cCk : Cb P w K mg base 3 "_law_clock" spClock := A.clock.cb (fun f fd F => ok_clock F cP cO) fun f fd F => F.binds fun _ _ _ _ _ _ us hl => match us, hl with | [_, _], _ => rfl
  have cU : Cb P w K mg base 1 "_law_up" spLUp := A.lup.cb (fun f fd F => ok_lup F T) fun f fd F => F.binds fun _ _ _ _ _ _ us hl => match us, hl with | [_, _], _ => rfl
  have cI : Cb P w K mg base 1 "_law_is_integer" spIsInt := A.lInt.cb (fun f fd F => ok_lInt F T) fun f fd F => F.binds fun _ _ _ _ _ _ us hl => match us, hl with | [_], _ => rfl
  have cOn : Cb P w K mg base 2 "_law_is_on" spOn := A.lOn.cb (fun f fd F => ok_lOn F T cI) fun f fd F => F.binds fun _ _ _ _ _ _ us hl => match us, hl with | [_, _], _ => rfl
  have cV : Cb P w K mg base 1 "_law_value" spValue := A.value.cb (fun f fd F => ok_value F T) fun f fd F => F.binds fun _ _ _ _ _ _ us hl => match us, hl with | [_, _], _ => rfl
  have cN : Cb P w K mg base 1 "_law_numbers" spNumbers := A.numbers.cb (fun f fd F => ok_numbers F T) fun f fd F => F.binds fun _ _ _ _ _ _ us hl => match us, hl with | [_, _], _ => rfl
  have cAk : Cb P w K mg base 3 "_law_alike" spLAlike := A.lAlike.cb (fun f fd F => ok_lAlike F cO) fun f fd F => F.binds fun _ _ _ _ _ _ us hl => match us, hl with | [_, _], _ => rfl
  have cR : Cb P w K mg base 3 "_law_row" spRow := A.row.cb (fun f fd F => ok_row F T cP cO cN cU) fun f fd F => F.binds fun _ _ _ _ _ _ us hl => match us, hl with | [_, _, _, _], _ => rfl
  have cLd : Cb P w K mg base 7 "_law_lead" (spLead C) := A.lead.cb (fun f fd F => ok_lead F T mk cR) fun f fd F => F.binds fun _ _ _ _ _ _ us hl => match us, hl with | [_, _, _, _], _ => rfl
  have cPs : Cb P w K mg base 3 "_law_period_and_steps" spPas := A.pas.cb (fun f fd F => ok_pas F T cO) fun f fd F => F.binds fun _ _ _ _ _ _ us hl => match us, hl with | [_], _ => rfl
  have cLk : Cb P w K mg base 4 "_law_is_like" (spLike C) := A.like.cb (fun f fd F => ok_like F T cn M cN cV) fun f fd F => F.binds fun _ _ _ _ _ _ us hl => match us, hl with | [_, _], _ => rfl
  have cBk : Cb P w K mg base 2 "_law_back" spLBack := A.lback.cb (fun f fd F => ok_lBack F cU cV) fun f fd F => F.binds fun _ _ _ _ _ _ us hl => match us, hl with | [_, _], _ => rfl
  exact ok_law F T cn M mk mNe cSrc cP cO cCk cAk cLd cPs cN cV cLk cMx cBk cU cOn fBo.toB fRl.toB fSt.toB fWp.toB fAn.toB fLt.toB
theorem finish {h : Heap} {fa : Addr} (X : K.In h) (G : h.Ns mainGlobals mg) (mk : MkAt K mg "Lead" C "Lead.__init__" sInit) (hC : mg "Lead" = some (.ref C)) (cn : ClsL K C) (ic : C8.InsC K C) (m : MsL K C) (A : DefsL K mg) (N : NilL mg) (gs : ∃ t, mg "GREATEST_STEP" = some (.int 60 t)) (ha : mg "law" = some (.ref fa)) :
    ∃ fd : FuncData, (∀ (s : Shared) (u : Value), BindsTo s fd ⟨[u], []⟩ [("script", u)]) ∧ ∀ base : Heap, K.In base → base.Ns mainGlobals mg → FnG P w K mg base 8 fa fd ["script"] (spLaw K) := by
  obtain ⟨fd, b, F⟩ := the_law (P := P) (w := w) A (wdsL N gs) cn ic hC mk m ha
  exact ⟨fd, b, fun base _ _ => F base⟩
end
end L18

open PySem PySem.W PyProof.Rows
set_option maxRecDepth 100000 in
set_option maxHeartbeats 0 in
theorem PySem.Challenge.cw_roundticks_k18_whole_back_and_forth_holds : PySem.Challenge.rw_roundticks_k18_whole_back_and_forth.Holds := by
  w_on; o_law; k_head; (case hw => w_witness2)
  k_fill
  refine Rt.walk_g (l := PySem.Challenge.rw_roundticks_k18_whole_back_and_forth) (k := 8) (sp := L18.spLaw) (x := "script") rfl (by decide) rfl ⟨rfl, by decide, by decide⟩ (fun w h Y => PySem.W.kIn_of Y) ?F (fun K H a ns hl hS => ⟨a, ns, rfl, hS, hl, fun _ => rfl⟩)
  case F =>
    intro w mg fa h KX G hmg
    refine' L18.finish KX G ?mk ?hC ?cn ?ic ?ms ?defs ?nils ?gs hmg
    case mk =>
      refine' Rt.mkat_mk KX G ?n ?mk ?kc ?a ?i ?l ?c ?k
      (case n => k_is)
      (case mk => k_is)
      (case kc => k_is)
      (case a => k_is)
      (case i => k_is)
      (case l => k_is)
      (case c => k_is)
      (case k => k_is)
    case hC => exact PySem.W.mg_of KX G (by k_is)
    case cn => (constructor; (constructor <;> k_is); all_goals (unfold L2.NoAttr; k_is))
    case ic => (constructor; (constructor <;> k_is); (case me => exact if_pos (beq_self_eq_true _)); all_goals k_is)
    case ms =>
      constructor
      all_goals
        refine' Rt.mat_mk ?a ?i ?l ?c ?k
        (case a => k_is)
        (case i => k_is)
        (case l => k_is)
        (case c => k_is)
        (case k => k_is)
    case defs =>
      constructor
      all_goals
        refine' Rt.at_mk KX G ?a ?l ?c ?k
        (case a => k_is)
        (case l => k_is)
        (case c => k_is)
        (case k => k_is)
    case nils =>
      constructor
      all_goals
        refine' PySem.W.mg_none_of KX G ?z
        (case z => k_is)
    case gs => exact ⟨_, PySem.W.mg_of KX G (by k_is)⟩
