import PyProof.Rows.All
import Wide.All
import OpenK.AllK
import Wide.FinOn
import PyProof.LongRange
import PyProof.ReprRoads
import HandS.Base
import HandS.Call
import HandS.List
import HandS.Words
import HandS.WordsList
import HandS.Ends
import HandS.WordsDict
import HandS.Wide
import HandS.Comp
import HandS.Dict
import HandS.Style
import HandS.Text
import HandS.Walk
import HandS.DictComp
import HandS.IsInst
import HandS.Steps
import KE.KMathG
import HandS.ExcInit
import HandS.ExcValue
import HandS.ExcField
import HandS.ExcIs
import KE.KExcIs
import KE.KExcInit
import HandS.TupAny
import KE.DataMinMax
import HandS.Zip
import KE.KDictZip
import PySem.Challenge.RW_roundticks_k06_whole_timetables
set_option Elab.async false
set_option linter.all false
set_option maxRecDepth 100000
set_option maxHeartbeats 8000000
/-! own rules: far ranges, repr of data, promises under known guards -/
namespace Rt
open PySem PySem.Spec L2
open PyProof.Rows hiding St
/-! ### a range between any two ints -/
theorem turn_far {P : Program} {w : World} {K : PySem.W.Frag} {tg : Expr} (c : Addr) (lo : Int) (n : Nat) :
    Turn P w K tg (Itr lo n) [c] c (fun i h => IsLongIter h c (lo + ((i : Nat) : Int) * 1) ((n : Int) - ((i : Nat) : Int)) 1) := by
  constructor
  · exact List.mem_singleton.mpr rfl
  · intro i h st b hb
    cases List.mem_singleton.mp hb
    exact ⟨_, st, fun v z => by injection z⟩
  · intro i h h' st kp
    exact kp c (List.mem_singleton.mpr rfl) _ st
  · rintro X rfl rfl rfl calm i pins s σ H E I fresh st more
    obtain ⟨g0, g1, g2, g3, g4, g5⟩ := fresh c (List.mem_singleton.mpr rfl)
    refine (Walks.longrange (prog := X.prog) (w := X.w) (I.ok.hd calm) c lo 1 n).item i s _ _ more st fun v h' tk hv st' kp => ?_
    obtain ⟨t, rfl⟩ := hv
    have J : Inv X pins σ H { s with heap := h', toks := tk } :=
      I.turned (fun b o nb e => kp b o (fun z => nb (List.mem_singleton.mp z)) e) g0 g1 g3 g4 g5
    refine ⟨_, rfl, go_of (n := "longrange_iterator") (s := { s with heap := h', toks := tk }) st' rfl rfl (by decide) ?_⟩
    refine ⟨.int (lo + (i : Int)), H, J, ⟨t, by rw [Int.mul_one]⟩, ⟨rfl, rfl⟩, st', fun b hb => (fresh b hb).1⟩
  · rintro X rfl rfl rfl calm i pins s σ H E I fresh st over
    obtain ⟨g0, g1, g2, g3, g4, g5⟩ := fresh c (List.mem_singleton.mpr rfl)
    have le : (n : Int) - (i : Int) ≤ 0 := by have q : n ≤ i := over; omega
    exact wpAny_pyNext_long_end (I.ok.hd calm) st le fun h' kp =>
      ⟨rfl, I.turned (t' := s.toks) (fun b o nb e => kp b o nb e) g0 g1 g3 g4 g5⟩
  · intro A i s Q E st q
    exact wpAny_pyIter_longiter st q
section
variable {X : Cx} {tg : Expr}
theorem far_it {pins : List (Addr × Obj)} {σ : St} {H : Hp} {s : Shared} {R : It → Hp → Prop} {E : Value → Shared → Prop} {lo hi : Int} {t u v : Tok} {tk : Nat}
    (I : Inv X pins σ H s) (q : R (Itr lo (hi - lo).toNat) H) :
    wpAny (model X.prog X.w) X.A (pyIter (.ref s.heap.objs.size)) (PIE X pins σ tg R) E
      { s with heap := s.heap.push { cls := .type "range", data := .fields #[.int lo t, .int hi u, .int 1 v] }, toks := tk } := by
  have J : Inv X pins σ H { s with heap := s.heap.push { cls := .type "range", data := .fields #[.int lo t, .int hi u, .int 1 v] }, toks := tk } :=
    I.kept fun b o e => Heap.get?_push_of_some _ e
  have ez : lo + (((0 : Nat)) : Int) * 1 = lo := by simp
  have en : (((hi - lo).toNat : Nat) : Int) - ((0 : Nat) : Int) = Builtin.Range.rangeSize lo hi 1 := by
    rw [rangeSize_one]
    split <;> omega
  have fr : ∀ (h2 : Heap) (tk2 : Nat) (b : Addr), Inv X pins σ H { s with heap := h2, toks := tk2 } → b = h2.objs.size → FpOk X pins H b := fun h2 tk2 b J2 e => by
    subst e
    exact J2.fpOk (Nat.le_refl _) (J2.hok.fresh (Nat.le_refl _))
  cases sm : Builtin.Range.small lo hi 1 with
  | true =>
    refine wpAny_pyIter_range (IsRange.new ..) sm ?_
    refine ⟨_, [_], _, Itr lo (hi - lo).toNat, H, rfl, J.kept (t' := tk) fun b o e => Heap.get?_push_of_some _ e, turn_range _ lo (hi - lo).toNat, ?_, fun b hb => fr _ tk b J (List.mem_singleton.mp hb), q⟩
    show IsRangeIter _ _ (lo + (((0 : Nat)) : Int) * 1) ((((hi - lo).toNat : Nat) : Int) - ((0 : Nat) : Int)) 1
    rw [ez, en]
    exact Heap.get?_push_size _ rfl
  | false =>
    refine wpAny_pyIter_longrange (IsRange.new ..) sm ?_
    refine ⟨_, [_], _, Itr lo (hi - lo).toNat, H, rfl, J.kept (t' := tk) fun b o e => Heap.get?_push_of_some _ e, turn_far _ lo (hi - lo).toNat, ?_, fun b hb => fr _ tk b J (List.mem_singleton.mp hb), q⟩
    show IsLongIter _ _ (lo + (((0 : Nat)) : Int) * 1) ((((hi - lo).toNat : Nat) : Int) - ((0 : Nat) : Int)) 1
    rw [ez, en]
    exact Heap.get?_push_size _ rfl
def iFar (ta : TA) : TI := fun σ H R => ta σ H fun vs H1 => ∃ i j : Int, vs = [.int i, .int j] ∧ R (Itr i (j - i).toNat) H1
/-- for x in range(a, b), of ints of any size -/
theorem pi_far {a b : Expr} {ta : TA} {p pos : Pos} (hg : Gl X "range") (hm : X.mg "range" = none) (ha : PA X [a, b] ta)
    (h1 : starEach [a, b] X.env = [(false, eval a X.env), (false, eval b X.env)] := by rfl) (h2 : starEach [b] X.env = [(false, eval b X.env)] := by rfl) :
    PI X tg (.Call (.Name "range" p) [a, b] [] pos) (iFar ta) := by
  constructor
  intro pins s σ H R I h
  have two := thn (ha.run pos pins s σ H _ I h) (Q' := fun us s1 => wpAny (model X.prog X.w) X.A (call (.type "range") us) (fun v s2 => wpAny (model X.prog X.w) X.A (pyIter v) (PIE X pins σ tg R) X.xe s2) X.xe s1)
    fun us s1 ⟨vs, H1, I1, r1, i, j, e, q⟩ => by
      subst e
      obtain ⟨u1, u2, rfl, ⟨t1, rfl⟩, ⟨t2, rfl⟩⟩ := vals2 r1
      exact call_range_2 (far_it I1 q)
  refine PyProof.Rows.Call_ (ld_blt I hg hm boot_range (PyProof.Rows.callWith_type1 two ?_ ?_))
  · rw [h1, h2]
  · rw [h2]; rfl
end
end Rt
namespace Rt
open PySem PySem.Spec L2
open PyProof.Rows hiding St
/-! ### promises of defs that are called where no guard stands -/
structure FnG (P : Program) (w : World) (K : PySem.W.Frag) (mg : Str → Option Value) (base : Heap) (k : Nat) (f : Addr) (fd : FuncData) (ps : List Str) (sp : Sp) : Prop where
  many : ∀ vs H Q E, sp vs H Q E → vs.length = ps.length
  go : ∀ (A : Around), A.guards = some [] → Room k A → ∀ (outer : List Env) (s : Shared) (H : Hp) (args : Args) (us : List Value) (vs : List V) (Q : VK) (E : XK), Env0 P w K mg base A outer s H →
    BindsTo s fd args (ps.zip us) → Vals vs us → sp vs H Q E → codeAny (model P w) A (.call (.ref f) args) (CR CX0 outer P w H s Q E) s
section
variable {P : Program} {w : World} {K : PySem.W.Frag} {mg : Str → Option Value} {base : Heap}
theorem okG {x qual : Str} {st : Stmt} {f : Addr} {fd : FuncData} {N ps : List Str} {k : Nat} {sp : Sp} (F : Fun K x qual st f fd) (S : FnScope N ps (defScope st))
    (many : ∀ vs H Q E, sp vs H Q E → vs.length = ps.length)
    (body : ∀ (cdv : Value) (A : Around) (outer : List Env) (s : Shared) (H : Hp) (vs : List V) (Q : VK) (E : XK), A.guards = some [] →
      Room k (A.deeper (envOfC qual (defScope st) s.heap.objs.size f cdv)) → sp vs H Q E →
      ∃ t, PSs (cxOf CX0 P w K mg base N qual (defScope st) f cdv A outer s H E).nox (defBody st) t ∧ t { nx := fun _ H' => Q .non H', rt := Q } (start N vs) H) :
    FnG P w K mg base (k + 1) f fd ps sp := by
  obtain ⟨oc, od, kV, doc, pm, an, cdv, ct, osl, rfl, lk, hcd⟩ := F.ex
  refine ⟨many, ?_⟩
  intro A hg room outer s H args us vs Q E e0 bt rv want
  have size := many vs H Q E want
  have kin : K.In s.heap := e0.mod.kin.keeps fun b o e => (e0.bs b o e).1
  have noLim : s.heap.NoLimit := e0.mod.nolimit.keeps fun b o e => (e0.bs b o e).1
  refine codeAny_call_function room.depth (kin _ _ lk) rfl S.co S.gen rfl (PySem.W.codeRec_of kin hcd) (bt _ _ _ _ ?_)
  refine wpAny_newFunctionEnv_cells S.kind ?_ ?_
  · rintro ⟨nm, val⟩ mem
    exact (S.par nm (List.of_mem_zip mem).1).imp id fun c => ⟨c, PySem.W.cellsFrom_some _ _ _ (.inl c)⟩
  · rintro env rfl s1 entry
    refine ⟨noLim.keeps entry.toInCall.keep, codeAny_func ?_⟩
    obtain ⟨t, ht, now⟩ := body cdv A outer s H vs Q E hg (room.deeper _) want
    have J := inv_start (CX := CX0) (E := E) S room.hd e0 size rv entry
    refine wpAny_mono (ht.nox.run [] s1 (start N vs) H _ J now) (fun way s2 out => ?_) fun _ _ z => z
    cases way with
    | ret u =>
      obtain ⟨v, σ2, H2, J2, ru, q2⟩ := out
      exact ⟨v, H2, J2.os, J2.bare, J2.base, J2.hok, ru, q2⟩
    | next =>
      obtain ⟨σ2, H2, J2, q2⟩ := out
      exact ⟨V.non, H2, J2.os, J2.bare, J2.base, J2.hok, rfl, q2⟩
    | brk => exact out.elim fun _ z => z.elim fun _ y => y.2.elim
    | cont => exact out.elim fun _ z => z.elim fun _ y => y.2.elim
end
/-- a def of the module that may be called by its name -/
structure Cb (P : Program) (w : World) (K : PySem.W.Frag) (mg : Str → Option Value) (base : Heap) (k : Nat) (x : Str) (sp : Sp) : Prop where
  ex : ∃ (f : Addr) (fd : FuncData) (ps : List Str), FnG P w K mg base k f fd ps sp ∧ mg x = some (.ref f) ∧ PySem.W.keepIn K (.ref f) = true ∧ Binds K fd ps []
section
variable {X : Cx} {k j : Nat} {x : Str} {sp : Sp} {p pos : Pos} {e : Expr} {es : List Expr} {t : TA}
theorem pe_k (c : Cb X.prog X.w X.K X.mg X.base k x sp) (hg : X.A.guards = some []) (hr : Room j X.A) (hk : k ≤ j) (hx : Gl X x) (ha : PA X (e :: es) t)
    (hdb : (x == ("__debug__" : Str)) = false := by decide) (he : starEach (e :: es) X.env = (false, eval e X.env) :: starEach es X.env := by rfl)
    (hpl : (backTo pos (starEach es X.env)).any (·.1) = false := by rfl) : PE X (.Call (.Name x p) (e :: es) [] pos) (tCall sp [] E0 t) := by
  obtain ⟨f, fd, ps, G, hm, kp, bd⟩ := c.ex
  constructor
  intro pins s σ H Q I want
  refine wpAny_Call_Name_kw (ld_glob I hx hm ?_ hdb)
  refine PySem.W.callWith_K (h₀ := X.base) I.ok.mod.kin kp (thn (ha.run pos pins s σ H _ I want) ?_) he hpl
  rintro us s1 ⟨vs, H1, J, rv, q⟩
  refine ⟨J.kIn, ?_⟩
  have q' : sp vs H1 Q E0 := by simpa using q
  have size : us.length = ps.length := by
    rw [← rv.length]
    exact G.many _ _ _ _ q'
  have b1 : BindsTo s1 fd ⟨us, []⟩ (ps.zip us) := by
    have z := bd s1 us J.kIn (by simpa using size)
    simpa using z
  refine wpAny_call (codeAny_mono (G.go X.A hg (hr.mono hk) X.stack s1 H1 ⟨us, []⟩ us vs Q E0 J.env0 b1 rv q') ?_)
  intro r s2 out
  match r, out with
  | .error _, z => exact False.elim z
  | .ok (.ret u), z => exact J.after z
  | .ok .next, z => exact False.elim z
  | .ok .brk, z => exact False.elim z
  | .ok .cont, z => exact False.elim z
end
end Rt
namespace Rt
open PySem PySem.Spec L2
open PyProof.Rows hiding St
/-! ### the law's own call -/
abbrev isTrue1 (s₁ : Shared) : Result → Shared → Prop := fun r s' => r = .ok (.ret (.bool true)) ∧ OldK s₁.heap s'.heap ∧ s'.os = s₁.os ∧ AllBare s'.gens
/-- nothing but the script is tracked, at most -/
structure Bare (H : Hp) (h : Heap) (K : PySem.W.Frag) (a : Addr) : Prop where
  only : Only H
  here : ∀ b, H b ≠ none → b = a
  notK : H a ≠ none → K.lookup a = none
section
variable {P : Program} {w : World} {K : PySem.W.Frag} {mg mb : Str → Option Value} {k : Nat} {fa a : Addr} {fd : FuncData} {x : Str} {sp : Sp} {s₁ : Shared} {vs : List Value} {ns : List Int}
theorem bare_call {H : Hp} (B : Bare H s₁.heap K a) (ok : HOk P w H s₁.heap) (KX : K.In s₁.heap) (hns : s₁.heap.Ns mainGlobals mg) (hb : s₁.heap.Ns builtinsNs mb) (hbb : ∀ x : Str, x ≠ "__name__" → mb x = bootBuiltins x)
    (lim : s₁.heap.NoLimit) (gens : s₁.gens = #[]) (ha : s₁.heap.get? a = some { cls := .type "list", data := .seq vs.toArray }) (room : Room k callerA)
    (F : ∀ base : Heap, K.In base → base.Ns mainGlobals mg → FnG P w K mg base k fa fd [x] sp) (bind : ∀ (s : Shared) (u : Value), BindsTo s fd ⟨[u], []⟩ [(x, u)])
    (want : sp [.ref a] H (fun v _ => v = .bl true) E0) : codeAny (model P w) callerA (.call (.ref fa) ⟨[.ref a], []⟩) (isTrue1 s₁) s₁ := by
  -- an object that is no list is untracked
  have dictFree : ∀ {b : Addr} {o : Obj} {es : Array DictEntry} {ep : Nat}, s₁.heap.get? b = some o → o.data = .dict es ep → H b = none := by
    intro b o es ep hb hd
    by_cases z : H b = none
    · exact z
    · exfalso
      cases B.here b z
      rw [ha] at hb
      cases hb
      exact nomatch hd
  have kFree : ∀ {b : Addr} {o : Obj}, K.lookup b = some o → H b = none := by
    intro b o hb
    by_cases z : H b = none
    · exact z
    · exfalso
      cases B.here b z
      rw [B.notK z] at hb
      cases hb
  have names : ∀ {b : Addr} {m : Str → Option Value}, s₁.heap.Ns b m → (hidT s₁.heap H).Ns b m := by
    rintro b m ⟨o, es, ep, e, d, r⟩
    exact ⟨o, es, ep, hidT_get e (dictFree e d), d, r⟩
  have inBase : K.In (hidT s₁.heap H) := fun b o e => hidT_get (KX b o e) (kFree e)
  have noLim : (hidT s₁.heap H).NoLimit := by
    obtain ⟨mc, z1, z2⟩ := lim
    exact ⟨mc, names z1, z2⟩
  have e0 : Env0 P w K mg (hidT s₁.heap H) callerA [] s₁ H := by
    constructor
    · rfl
    · exact ⟨inBase, names hns, ⟨mb, names hb, hbb⟩, noLim⟩
    · exact fun b o e => of_hidT e
    · exact Nat.le_of_eq (hidT_size _ _)
    · exact True.intro
    · exact fun b hb => nomatch (show b ∈ ([] : List Addr) from hb)
    · exact ok
    · exact .of_eq gens
  have run := (F _ inBase (names hns)).go callerA rfl room [] s₁ H ⟨[.ref a], []⟩ [.ref a] [.ref a] _ _ e0 (bind s₁ (.ref a)) (.cons rfl .nil) want
  refine codeAny_mono run ?_
  intro r s2 out
  match r, out with
  | .error _, z => exact False.elim z
  | .ok .next, z => exact False.elim z
  | .ok .brk, z => exact False.elim z
  | .ok .cont, z => exact False.elim z
  | .ok (.ret u), ⟨v, H2, os, bare, un, ok2, ru, q⟩ =>
    obtain rfl : v = .bl true := q
    obtain rfl : u = Value.bool true := ru
    refine ⟨rfl, OldK.of_keep ?_, os, bare⟩
    intro b o e
    by_cases z : H b = none
    · exact un.keep b o e z (fun y => nomatch (show b ∈ ([] : List Addr) from y)) (fun y => nomatch (show b ∈ ([] : List Addr) from y))
    · rcases B.only b with y | ⟨ob, xs, y⟩
      · exact absurd y z
      · have e1 := (ok b _ y).1
        have e2 := (ok2 b _ (un.frzs b ob _ y)).1
        rw [e] at e1
        cases e1
        exact e2
theorem law_g (KX : K.In s₁.heap) (hns : s₁.heap.Ns mainGlobals mg) (hb : s₁.heap.Ns builtinsNs mb) (hbb : ∀ x : Str, x ≠ "__name__" → mb x = bootBuiltins x) (lim : s₁.heap.NoLimit) (gens : s₁.gens = #[])
    (ha : s₁.heap.get? a = some { cls := .type "list", data := .seq vs.toArray }) (nums : IntsAre vs ns) (fit : ns.length ≤ sizeLine) (room : Room k callerA)
    (F : ∀ base : Heap, K.In base → base.Ns mainGlobals mg → FnG P w K mg base k fa fd [x] sp) (bind : ∀ (s : Shared) (u : Value), BindsTo s fd ⟨[u], []⟩ [(x, u)])
    (want : ∀ H : Hp, Only H → SqL K H a (ns.map V.int) → sp [.ref a] H (fun v _ => v = .bl true) E0) :
    codeAny (model P w) callerA (.call (.ref fa) ⟨[.ref a], []⟩) (isTrue1 s₁) s₁ := by
  have rv := vals_ints nums
  have lv := nums.length
  rcases hk : K.lookup a with _ | o
  · -- the script is no object of the module's own
    let H : Hp := fun b => if b = a then some (.frz { cls := .type "list", data := .seq vs.toArray } (.lst (ns.map V.int))) else none
    have Ha : H a = some (.frz { cls := .type "list", data := .seq vs.toArray } (.lst (ns.map V.int))) := if_pos rfl
    have Hn : ∀ b, b ≠ a → H b = none := fun b z => if_neg z
    have only : Only H := fun b => by
      by_cases z : b = a
      · subst z
        exact .inr ⟨_, _, Ha⟩
      · exact .inl (Hn b z)
    have here : ∀ b, H b ≠ none → b = a := fun b z => by
      by_cases y : b = a
      · exact y
      · exact absurd (Hn b y) z
    have ok : HOk P w H s₁.heap := fun b u e => by
      by_cases y : b = a
      · subst y
        rw [Ha] at e
        cases e
        refine ⟨ha, ?_, vs, _, rv, ha⟩
        rw [List.length_map]
        exact fit
      · rw [Hn b y] at e
        cases e
    exact bare_call ⟨only, here, fun _ => hk⟩ ok KX hns hb hbb lim gens ha room F bind (want H only (.inl (.inr ⟨_, Ha⟩)))
  · have e := KX a o hk
    rw [ha] at e
    cases e
    have only : Only (fun _ => none) := fun _ => .inl rfl
    refine bare_call (H := fun _ => none) ⟨only, fun b z => absurd rfl z, fun z => absurd rfl z⟩ (fun b u e => nomatch e) KX hns hb hbb lim gens ha room F bind ?_
    refine want _ only (.inr ⟨_, vs.toArray, _, hk, rfl, rfl, rfl, ?_, by simpa using rv⟩)
    rw [List.size_toArray, lv]
    exact fit
theorem walk_g {l : PySem.W.OpenLaw} {n k : Nat} {q : Program} {loose : List Str} {XP : (Str → Option Value) → Heap → Prop} {YP : World → Heap → Prop} {d : DefRec} {K : Params → PySem.W.Frag} {sp : PySem.W.Frag → Sp} {x : Str}
    (hn : l.most = some n) (le : n ≤ sizeLine) (noDf : d.params.defaults = []) (room : Room k callerA) (hY : ∀ (w : World) (h : Heap), YP w h → (K w.params).In h)
    (F : ∀ (w : World) (mg : Str → Option Value) (fa : Addr) (h : Heap), (K w.params).In h → h.Ns mainGlobals mg → mg d.name = some (.ref fa) →
      ∃ fd : FuncData, (∀ (s : Shared) (u : Value), BindsTo s fd ⟨[u], []⟩ [(x, u)]) ∧
        ∀ base : Heap, (K w.params).In base → base.Ns mainGlobals mg → FnG l.prog w (K w.params) mg base k fa fd [x] (sp (K w.params)))
    (want : ∀ (K : PySem.W.Frag) (H : Hp) (a : Addr) (ns : List Int), ns.length ≤ n → SqL K H a (ns.map V.int) → sp K [.ref a] H (fun v _ => v = .bl true) E0) :
    PySem.W.WalkO q loose XP YP l.row.toRowW d [] (fun f vs => PySem.call f vs) := by
  refine Att.attach_call hn noDf ?_
  intro w s₀ s₁ mg mb fa o pm cd doc a vs ns G Y ho hd hcd hmg hobj nums few gens
  obtain ⟨fd, bind, each⟩ := F w mg fa _ (hY w _ Y) G.T.g hmg
  exact law_g (hY w _ Y) G.T.g G.T.b G.T.builtins G.T.nolimit gens hobj nums (Nat.le_trans few le) room each bind fun H _ hS => want _ H a ns few hS
end
end Rt
namespace K06
open PySem PySem.Spec L2 Rt
open PyProof.Rows hiding St
def top (i : Nat) : Stmt := PySem.Challenge.pw_roundticks_k06_whole_timetables.main.body.getD i (.Pass ⟨0, 0, 0, 0⟩)
abbrev sSource : Stmt := top 28
abbrev sPick : Stmt := top 29
abbrev sOf : Stmt := top 30
/-! ### the source of numbers -/
theorem n_cl : ¬ (("cells" : Str) = "left") := by decide +kernel
theorem n_cm : ¬ (("cells" : Str) = "mixed") := by decide +kernel
theorem n_ct : ¬ (("cells" : Str) = "turn") := by decide +kernel
theorem n_lm : ¬ (("left" : Str) = "mixed") := by decide +kernel
theorem n_lt : ¬ (("left" : Str) = "turn") := by decide +kernel
theorem n_mt : ¬ (("mixed" : Str) = "turn") := by decide +kernel
def srcK (c : Addr) (l m t : Int) : List (Key × V) := [(Sum.inr "cells", .ref c), (Sum.inr "left", .int l), (Sum.inr "mixed", .int m), (Sum.inr "turn", .int t)]
theorem ne_inr {a b : Str} (h : ¬ a = b) : ¬ ((Sum.inr a : Key) = Sum.inr b) := fun e => h (Sum.inr.inj e)
theorem val_cells (c : Addr) (l m t : Int) : valV (srcK c l m t) (Sum.inr "cells") = some (.ref c) := valV_pos rfl
theorem val_left (c : Addr) (l m t : Int) : valV (srcK c l m t) (Sum.inr "left") = some (.int l) := by
  unfold srcK
  rw [valV_neg (ne_inr n_cl), valV_pos rfl]
theorem val_mixed (c : Addr) (l m t : Int) : valV (srcK c l m t) (Sum.inr "mixed") = some (.int m) := by
  unfold srcK
  rw [valV_neg (ne_inr n_cm), valV_neg (ne_inr n_lm), valV_pos rfl]
theorem val_turn (c : Addr) (l m t : Int) : valV (srcK c l m t) (Sum.inr "turn") = some (.int t) := by
  unfold srcK
  rw [valV_neg (ne_inr n_ct), valV_neg (ne_inr n_lt), valV_neg (ne_inr n_mt), valV_pos rfl]
theorem put_left (c : Addr) (l m t z : Int) : putK (srcK c l m t) (Sum.inr "left") (.int z) = srcK c z m t := by
  have h1 := ne_inr n_cl
  have h2 := ne_inr (fun e => n_lm e.symm)
  have h3 := ne_inr (fun e => n_lt e.symm)
  unfold putK srcK
  simp [h1, h2, h3]
theorem put_mixed (c : Addr) (l m t z : Int) : putK (srcK c l m t) (Sum.inr "mixed") (.int z) = srcK c l z t := by
  have h1 := ne_inr n_cm
  have h2 := ne_inr n_lm
  have h3 := ne_inr (fun e => n_mt e.symm)
  unfold putK srcK
  simp [h1, h2, h3]
theorem put_turn (c : Addr) (l m t z : Int) : putK (srcK c l m t) (Sum.inr "turn") (.int z) = srcK c l m z := by
  have h1 := ne_inr n_ct
  have h2 := ne_inr n_lt
  have h3 := ne_inr n_mt
  unfold putK srcK
  simp [h1, h2, h3]
section
variable {H : Hp} {d c : Addr} {l m t : Int}
theorem get_cells (h : H d = some (.dK (srcK c l m t))) : DGet H d (.str "cells") (some (.ref c)) := by
  have z := DGet.k (k := (Sum.inr "cells" : Key)) h
  rw [val_cells] at z
  exact z
theorem get_left (h : H d = some (.dK (srcK c l m t))) : DGet H d (.str "left") (some (.int l)) := by
  have z := DGet.k (k := (Sum.inr "left" : Key)) h
  rw [val_left] at z
  exact z
theorem get_mixed (h : H d = some (.dK (srcK c l m t))) : DGet H d (.str "mixed") (some (.int m)) := by
  have z := DGet.k (k := (Sum.inr "mixed" : Key)) h
  rw [val_mixed] at z
  exact z
theorem get_turn (h : H d = some (.dK (srcK c l m t))) : DGet H d (.str "turn") (some (.int t)) := by
  have z := DGet.k (k := (Sum.inr "turn" : Key)) h
  rw [val_turn] at z
  exact z
theorem few4 : (srcK c l m t).length < sizeLine := by show 4 < sizeLine; decide
theorem st_left (h : H d = some (.dK (srcK c l m t))) (z : Int) : DPut H d (.str "left") (.int z) (upd H d (.dK (srcK c z m t))) := by
  have q := DPut.k (k := (Sum.inr "left" : Key)) (v := .int z) h few4
  rw [put_left] at q
  exact q
theorem st_mixed (h : H d = some (.dK (srcK c l m t))) (z : Int) : DPut H d (.str "mixed") (.int z) (upd H d (.dK (srcK c l z t))) := by
  have q := DPut.k (k := (Sum.inr "mixed" : Key)) (v := .int z) h few4
  rw [put_mixed] at q
  exact q
theorem st_turn (h : H d = some (.dK (srcK c l m t))) (z : Int) : DPut H d (.str "turn") (.int z) (upd H d (.dK (srcK c l m z))) := by
  have q := DPut.k (k := (Sum.inr "turn" : Key)) (v := .int z) h few4
  rw [put_turn] at q
  exact q
end
/-- a source stands at d, its cells at c -/
structure Src (H : Hp) (d c : Addr) : Prop where
  ex : ∃ (ks : List Int) (l m t : Int), H d = some (.dK (srcK c l m t)) ∧ H c = some (.lst (ks.map V.int))
/-- all but the source stands as it was -/
def Keep (d c : Addr) (H H' : Hp) : Prop := ∀ b o, H b = some o → b ≠ d → b ≠ c → H' b = some o
theorem Keep.refl {d c : Addr} {H : Hp} : Keep d c H H := fun _ _ e _ _ => e
theorem Keep.trans {d c : Addr} {H H1 H2 : Hp} (a : Keep d c H H1) (b : Keep d c H1 H2) : Keep d c H H2 := fun x o e n1 n2 => b x o (a x o e n1 n2) n1 n2
theorem Keep.new {d c p : Addr} {o : HO} {H H1 : Hp} (a : Keep d c H H1) (n : H1 p = none) : Keep d c H (upd H1 p o) := fun x u e n1 n2 => by
  have z := a x u e n1 n2
  rw [upd_ne (ne_of_none z n)]
  exact z
theorem Keep.d {d c : Addr} {o : HO} {H H1 : Hp} (a : Keep d c H H1) : Keep d c H (upd H1 d o) := fun x u e n1 n2 => by
  rw [upd_ne n1]
  exact a x u e n1 n2
theorem Keep.c {d c : Addr} {o : HO} {H H1 : Hp} (a : Keep d c H H1) : Keep d c H (upd H1 c o) := fun x u e n1 n2 => by
  rw [upd_ne n2]
  exact a x u e n1 n2
theorem Src.new {d c p : Addr} {o : HO} {H : Hp} (S : Src H d c) (n : H p = none) : Src (upd H p o) d c := by
  obtain ⟨ks, l, m, t, h1, h2⟩ := S.ex
  exact ⟨ks, l, m, t, by rw [upd_ne (ne_of_none h1 n)]; exact h1, by rw [upd_ne (ne_of_none h2 n)]; exact h2⟩
theorem Src.nd {d c : Addr} {H : Hp} {b : Addr} {xs : List V} (S : Src H d c) (h : H b = some (.tup xs)) : b ≠ d ∧ b ≠ c := by
  obtain ⟨ks, l, m, t, h1, h2⟩ := S.ex
  exact ⟨ne_of h h1 (by intro z; cases z), ne_of h h2 (by intro z; cases z)⟩
theorem Keep.tup {d c : Addr} {H H1 : Hp} {b : Addr} {xs : List V} (a : Keep d c H H1) (S : Src H d c) (h : H b = some (.tup xs)) : H1 b = some (.tup xs) := a b _ h (S.nd h).1 (S.nd h).2
/-! ### the promises -/
def spSource (K : PySem.W.Frag) : Sp := fun vs H Q _ => ∃ (a : Addr) (ns : List Int), vs = [.ref a] ∧ SqL K H a (ns.map V.int) ∧ ns.length ≤ 63 ∧
  ∀ (d c : Addr) (H' : Hp), H d = none → H c = none → Src H' d c → Same H H' → Q (.ref d) H'
def spPick : Sp := fun vs H Q _ => ∃ (d c : Addr) (n : Int), vs = [.ref d, .int n] ∧ Src H d c ∧ n < 1000000000 ∧
  ∀ (r : Int) (H' : Hp), 0 ≤ r → r < n ∨ r = 0 → Src H' d c → Keep d c H H' → Q (.int r) H'
def spOf : Sp := fun vs H Q _ => ∃ (d c p : Addr) (xs : List V), vs = [.ref d, .ref p] ∧ Src H d c ∧ H p = some (.lst xs) ∧ p ≠ c ∧ 0 < xs.length ∧ xs.length < 1000000000 ∧
  ∀ (i : Nat) (v : V) (H' : Hp), xs[i]? = some v → Src H' d c → Keep d c H H' → Q v H'
section
variable {P : Program} {w : World} {K : PySem.W.Frag} {mg : Str → Option Value} {base : Heap}
theorem scPick : FnScope ["source", "many", "left", "mixed"] ["source", "many"] (defScope sPick) := ⟨rfl, rfl, rfl, by decide +kernel, rfl, by decide +kernel, by decide +kernel⟩
theorem ok_pick {f : Addr} {fd : FuncData} (F : Fun K "_law_pick" "_law_pick" sPick f fd) (mL : mg "len" = none) (mM : mg "max" = none) (mI : mg "int" = none) : FnG P w K mg base 1 f fd ["source", "many"] spPick := by
  refine okG F scPick (fun vs H Q E h => ?_) (fun cdv A outer s H vs Q E hg hr h => ?_)
  · obtain ⟨d, c, n, rfl, _⟩ := h
    rfl
  · obtain ⟨d, c, n, rfl, S, hn, k⟩ := h
    have hu := hu_of hr
    refine ⟨_, pss_cons (ps_while PassesOwn.never
        (PW.pt (pw_and (pt_cmpR op_gt (pv 1) pe_int (nomark _)) (pw_and (pt_cmpR op_lt (pe_dget hu (pv 0) pe_str (fun _ _ => rfl)) pe_int (nomark _))
          (pw_and1 (pt_cmpR op_gt (pe_callB call_len_seq (by rfl) mL PySem.boot_len (pa_cons (pe_dget hu (pv 0) pe_str (fun _ _ => rfl)) pa_nil)) pe_int (nomark _))))))
        (pss_one (ps_dput hu (pv 0) pe_str (pe_bm0 PySem.F.plainAttrs_list PySem.F.slot_list_pop PySem.F.type_list_pop mt_pop (pe_dget hu (pv 0) pe_str (fun _ _ => rfl))) rfl)))
      (pss_cons (ps_set (i := 2) scPick.nd rfl (.inl rfl) (pe_dget hu (pv 0) pe_str (fun _ _ => rfl)))
      (pss_cons (ps_if (PW.pt (pw_or (pt_cmpR op_lt (pv 1) pe_int (nomark _)) (pw_or1 (pt_cmpR op_gt (pv 2) pe_int (nomark _)))))
        (pss_cons (ps_dput hu (pv 0) pe_str (pe_op op_fdivW (pv 2) (pe_callB (call_max2 rfl) (by rfl) mM (by decide +kernel) (pa_cons pe_int (pa_cons (pv 1) pa_nil)))) rfl)
          (pss_one (ps_ret (pe_op op_mod (pe_callTy call_int1 (by rfl) mI (by decide +kernel) (pa_cons (pv 2) pa_nil)) (pe_callB (call_max2 rfl) (by rfl) mM (by decide +kernel) (pa_cons pe_int (pa_cons (pv 1) pa_nil)))))))
        pss_nil)
      (pss_cons (ps_dput hu (pv 0) pe_str (pe_op op_add (pe_dget hu (pv 0) pe_str (fun _ _ => rfl)) pe_int) rfl)
      (pss_cons (ps_set (i := 3) scPick.nd rfl (.inl rfl) (pe_op op_mod (pe_callTy call_int1 (by rfl) mI (by decide +kernel) (pa_cons (pe_op op_add (pe_dget hu (pv 0) pe_str (fun _ _ => rfl)) (pe_op op_mul (pe_dget hu (pv 0) pe_str (fun _ _ => rfl)) pe_int)) pa_nil)) pe_int))
      (pss_cons (ps_set (i := 3) scPick.nd rfl (.inl rfl) (pe_op op_mod (pe_callTy call_int1 (by rfl) mI (by decide +kernel) (pa_cons (pe_op op_add (pe_op op_mul (pv 3) (pv 3)) (pe_op op_mul (pe_dget hu (pv 0) pe_str (fun _ _ => rfl)) pe_int)) pa_nil)) pe_int))
      (pss_cons (ps_dput hu (pv 0) pe_str (pv 3) rfl)
      (pss_one (ps_ret (pe_op op_mod (pe_callTy call_int1 (by rfl) mI (by decide +kernel) (pa_cons (pe_op op_fdiv (pv 3) pe_int) pa_nil)) (pv 1)))))))))), ?_⟩
    obtain ⟨ks0, l0, m0, t0, e1, e2⟩ := S.ex
    have dc : d ≠ c := ne_of e1 e2 (by intro z; cases z)
    -- while many > 1 and source['left'] < 2 and len(source['cells']) > 0
    refine ⟨fun m σ H1 => ∃ (ks : List Int) (l mx t : Int), m = ks.length ∧ σ = [some (.ref d), some (.int n), none, none] ∧ Keep d c H H1 ∧ H1 d = some (.dK (srcK c l mx t)) ∧ H1 c = some (.lst (ks.map V.int)),
      ⟨_, ks0, l0, m0, t0, rfl, rfl, Keep.refl, e1, e2⟩, ?_⟩
    rintro m σ H1 ⟨ks, l, mx, t, rfl, rfl, kp, hd, hc⟩
    refine ⟨_, rfl, _, _, rfl, rfl, _, rfl, ?_⟩
    by_cases g : 1 < n ∧ l < 2 ∧ 0 < ks.length
    · obtain ⟨g1, g2, g3⟩ := g
      rw [decide_eq_true g1]
      refine iteT ?_
      refine ⟨_, rfl, d, _, rfl, get_left hd, _, _, rfl, rfl, _, rfl, ?_⟩
      rw [decide_eq_true g2]
      refine iteT ?_
      refine ⟨_, rfl, d, _, rfl, get_cells hd, c, _, rfl, .inl (.inl (.inl hc)), _, _, rfl, rfl, _, rfl, ?_⟩
      rw [decide_eq_true (show (0 : Int) < ((ks.map V.int).length : Int) by rw [List.length_map]; omega)]
      refine iteT ?_
      obtain ⟨z, hz⟩ : ∃ z, ks[ks.length - 1]? = some z := ⟨ks[ks.length - 1], List.getElem?_eq_getElem (by omega)⟩
      refine ⟨fun σ2 H2 => σ2 = [some (.ref d), some (.int n), none, none] ∧ Keep d c H H2 ∧ H2 d = some (.dK (srcK c z mx t)) ∧ H2 c = some (.lst (ks.dropLast.map V.int)), ?_, ?_⟩
      · rintro σ2 H2 ⟨rfl, k2, d2, c2⟩
        refine ⟨ks.dropLast.length, ?_, ks.dropLast, z, mx, t, rfl, rfl, k2, d2, c2⟩
        rw [List.length_dropLast]
        omega
      · -- source['left'] = source['cells'].pop()
        have cd : d ≠ c := dc
        have hd2 : (upd H1 c (.lst (ks.map V.int).dropLast)) d = some (.dK (srcK c l mx t)) := by rw [upd_ne cd]; exact hd
        refine ⟨_, rfl, d, _, rfl, get_cells hd, .inl ⟨rfl, _, .inl (.inl hc)⟩, c, _, .int z, rfl, rfl, hc, ?_, _, rfl, d, _, rfl, st_left hd2 z, ?_⟩
        · rw [List.length_map, List.getElem?_map, hz]
          rfl
        · refine ⟨rfl, (kp.c).d, upd_same, ?_⟩
          rw [upd_ne cd.symm, upd_same, List.map_dropLast]
    · have nolen : 1 < n → l < 2 → ¬ (0 : Int) < ((ks.map V.int).length : Int) := fun g1 g2 g3 => g ⟨g1, g2, by rw [List.length_map] at g3; omega⟩
      refine (fun (fin : (?T : Prop)) => ?main) ?after
      case main =>
        by_cases g1 : 1 < n
        · rw [decide_eq_true g1]
          refine iteT ?_
          refine ⟨_, rfl, d, _, rfl, get_left hd, _, _, rfl, rfl, _, rfl, ?_⟩
          by_cases g2 : l < 2
          · rw [decide_eq_true g2]
            refine iteT ?_
            refine ⟨_, rfl, d, _, rfl, get_cells hd, c, _, rfl, .inl (.inl (.inl hc)), _, _, rfl, rfl, _, rfl, ?_⟩
            rw [decide_eq_false (nolen g1 g2)]
            refine iteF ?_
            exact fin
          · rw [decide_eq_false g2]
            exact iteF (iteF fin)
        · rw [decide_eq_false g1]
          exact iteF (iteF fin)
      case after =>
        -- left = source['left']
        refine ⟨_, rfl, d, _, rfl, get_left hd, ?_⟩
        have mx1 : ∀ n : Int, 0 < (if n > 1 then n else (1 : Int)) := fun n => by split <;> omega
        have mx2 : n < 1000000000 → (if n > 1 then n else (1 : Int)).natAbs < 2 ^ 60 := fun z => by split <;> omega
        -- if many < 2 or left > 1
        refine ⟨_, rfl, _, _, rfl, rfl, _, rfl, ?_⟩
        by_cases g : n < 2 ∨ 1 < l
        · by_cases g1 : n < 2
          all_goals first
            | (rw [decide_eq_true (show n < 2 by assumption)]
               refine iteT (iteT ?_))
            | (rw [decide_eq_false (show ¬ n < 2 by assumption)]
               refine iteF ?_
               refine ⟨_, rfl, _, _, rfl, rfl, _, rfl, ?_⟩
               rw [decide_eq_true (g.resolve_left g1)]
               refine iteT ?_)
          all_goals
            -- source['left'] = left // max(1, many); return int(left) % max(1, many)
            refine ⟨_, rfl, _, rfl, _, _, rfl, _, _, rfl, rfl, wide_div (mx1 n) (mx2 hn) (by decide) (by decide), _, rfl, d, _, rfl, st_left hd _, ?_⟩
            refine ⟨_, rfl, .inl ⟨_, rfl, _, rfl, _, _, rfl, _, _, rfl, rfl, mx1 n, ?_⟩⟩
            refine k _ _ (Int.emod_nonneg _ (Int.ne_of_gt (mx1 n))) ?_ ⟨ks, _, mx, t, upd_same, ?_⟩ kp.d
            · have z := Int.emod_lt_of_pos l (mx1 n)
              have z0 := Int.emod_nonneg l (Int.ne_of_gt (mx1 n))
              by_cases y : n > 1
              · rw [if_pos y] at z z0 ⊢
                exact .inl z
              · rw [if_neg y] at z z0 ⊢
                right
                omega
            · rw [upd_ne dc.symm]
              exact hc
        · rw [decide_eq_false (fun z => g (.inl z))]
          refine iteF ?_
          refine ⟨_, rfl, _, _, rfl, rfl, _, rfl, ?_⟩
          rw [decide_eq_false (fun z => g (.inr z))]
          refine iteF ?_
          have g1 : ¬ n < 2 := fun z => g (.inl z)
          -- source['turn'] = source['turn'] + 1
          refine ⟨_, rfl, d, _, rfl, get_turn hd, _, _, rfl, rfl, _, rfl, d, _, rfl, st_turn hd (t + 1), ?_⟩
          have hd2 : (upd H1 d (.dK (srcK c l mx (t + 1)))) d = some (.dK (srcK c l mx (t + 1))) := upd_same
          -- mixed = int(source['mixed'] + source['turn'] * 104729) % 998244353
          refine ⟨_, rfl, d, _, rfl, get_mixed hd2, _, rfl, d, _, rfl, get_turn hd2, _, _, rfl, rfl, .inr ⟨by decide, by decide⟩, _, _, rfl, rfl, .inl ⟨_, rfl, _, _, rfl, rfl, (by show (0 : Int) < 998244353; decide), ?_⟩⟩
          have b1 : 0 ≤ (mx + (t + 1) * 104729) % 998244353 := Int.emod_nonneg _ (by decide)
          have b2 : (mx + (t + 1) * 104729) % 998244353 < 998244353 := Int.emod_lt_of_pos _ (by decide)
          generalize (mx + (t + 1) * 104729) % 998244353 = y at b1 b2 ⊢
          -- mixed = int(mixed * mixed + source['turn'] * 17) % 2147483647
          refine ⟨_, rfl, _, rfl, _, _, rfl, rfl, .inl ⟨by omega, by omega⟩, _, rfl, d, _, rfl, get_turn hd2, _, _, rfl, rfl, .inr ⟨by decide, by decide⟩, _, _, rfl, rfl, .inl ⟨_, rfl, _, _, rfl, rfl, (by show (0 : Int) < 2147483647; decide), ?_⟩⟩
          -- source['mixed'] = mixed; return int(mixed // 16) % many
          refine ⟨_, rfl, _, rfl, d, _, rfl, st_mixed hd2 _, ?_⟩
          refine ⟨_, rfl, _, _, rfl, rfl, ⟨by decide, by decide⟩, .inl ⟨_, rfl, _, rfl, _, _, rfl, rfl, (by show (0 : Int) < n; omega), ?_⟩⟩
          refine k _ _ (Int.emod_nonneg _ (by omega)) (.inl (Int.emod_lt_of_pos _ (by omega))) ⟨ks, l, _, t + 1, upd_same, ?_⟩ (kp.d).d
          rw [upd_ne dc.symm, upd_ne dc.symm]
          exact hc
theorem scOf : FnScope ["source", "some"] ["source", "some"] (defScope sOf) := ⟨rfl, rfl, rfl, by decide +kernel, rfl, by decide +kernel, by decide +kernel⟩
theorem ok_of {f : Addr} {fd : FuncData} (F : Fun K "_law_of" "_law_of" sOf f fd) (mL : mg "len" = none) (CP : Cb P w K mg base 1 "_law_pick" spPick) : FnG P w K mg base 2 f fd ["source", "some"] spOf := by
  refine okG F scOf (fun vs H Q E h => ?_) (fun cdv A outer s H vs Q E hg hr h => ?_)
  · obtain ⟨d, c, p, xs, rfl, _⟩ := h
    rfl
  · obtain ⟨d, c, p, xs, rfl, S, hp, pc, h0, hl, k⟩ := h
    refine ⟨_, pss_one (ps_ret (pe_ix ix_list (pv 1) (pe_k CP hg hr (by decide) (by rfl) (pa_cons (pv 0) (pa_cons (pe_callB call_len_seq (by rfl) mL PySem.boot_len (pa_cons (pv 1) pa_nil)) pa_nil))) (fun _ _ => rfl))), ?_⟩
    refine ⟨_, rfl, _, rfl, _, rfl, p, _, rfl, .inl (.inl (.inl hp)), d, c, _, rfl, S, (by omega), ?_⟩
    intro r H1 r0 r1 S1 kp
    have rn : r < xs.length := by omega
    obtain ⟨j, ej⟩ : ∃ j : Nat, r = (j : Int) := ⟨r.toNat, by omega⟩
    have hj : j < xs.length := by omega
    have pd : p ≠ d := by
      obtain ⟨ks, l, m, t, q1, q2⟩ := S.ex
      exact ne_of hp q1 (by intro z; cases z)
    refine ⟨p, xs, r, xs[j], rfl, rfl, .inl (.inl (kp p _ hp pd pc)), at_of (j := j) ej (List.getElem?_eq_getElem hj), ?_⟩
    exact k j xs[j] H1 (List.getElem?_eq_getElem hj) S1 kp
end
end K06
namespace K06
open PySem PySem.Spec L2 Rt
open PyProof.Rows hiding St
theorem merge_src (c : Addr) (l m t : Int) : mergeK [] (srcK c l m t) = srcK c l m t := by
  have h1 := ne_inr n_cl
  have h2 := ne_inr n_cm
  have h3 := ne_inr n_ct
  have h4 := ne_inr n_lm
  have h5 := ne_inr n_lt
  have h6 := ne_inr n_mt
  unfold mergeK srcK putK
  simp [h1, h2, h3, h4, h5, h6]
/-- an item of a list of ints -/
theorem int_at {ns : List Int} {i : Nat} {y : V} (h : (ns.map V.int)[i]? = some y) : ∃ z, ns[i]? = some z ∧ y = V.int z := by
  rw [List.getElem?_map] at h
  cases e : ns[i]? with
  | none => rw [e] at h; cases h
  | some z => rw [e] at h; exact ⟨z, rfl, (Option.some.inj h).symm⟩
theorem same_new {H : Hp} {p : Addr} {o : HO} (n : H p = none) : Same H (upd H p o) := fun b u e => by
  rw [upd_ne (ne_of_none e n)]
  exact e
section
variable {P : Program} {w : World} {K : PySem.W.Frag} {mg : Str → Option Value} {base : Heap}
theorem scSource : FnScope ["script", "mixed", "cell"] ["script"] (defScope sSource) := ⟨rfl, rfl, rfl, by decide +kernel, rfl, by decide +kernel, by decide +kernel⟩
theorem ok_source {f : Addr} {fd : FuncData} (F : Fun K "_law_source" "_law_source" sSource f fd) (mA : mg "abs" = none) (mI : mg "int" = none) : FnG P w K mg base 1 f fd ["script"] (spSource K) := by
  refine okG F scSource (fun vs H Q E h => ?_) (fun cdv A outer s H vs Q E hg hr h => ?_)
  · obtain ⟨a, ns, rfl, _⟩ := h
    rfl
  · obtain ⟨a, ns, rfl, hS, hl, k⟩ := h
    refine ⟨_, pss_cons (ps_set (i := 1) scSource.nd rfl (.inl rfl) pe_int)
      (pss_cons (ps_for PassesOwn.never rfl (pi_list (pv 0)) (pg_name (i := 2) scSource.nd rfl (.inl rfl))
        (pss_one (ps_set (i := 1) scSource.nd rfl (.inl rfl) (pe_op op_mod (pe_callTy call_int1 (by rfl) mI (by decide +kernel)
          (pa_cons (pe_op op_add (pe_op op_add (pe_op op_mul (pv 1) pe_int) (pe_op op_mul (pv 2) pe_int)) pe_int) pa_nil)) pe_int))))
      (pss_one (ps_ret (pe_disp (pps_cons pe_str (pe_revL (pe_lc (own := [("cell", 2)]) (g := gName 2) (tt := tYes) rfl scSource.nd (pi_list (pv 0))
          (blkOk_by (N := ["script", "mixed", "cell"]) (sc := defScope sSource) (by decide +kernel)) (fun _ _ _ _ _ => pg_name (i := 2) scSource.nd rfl (Or.inl rfl)) (fun _ _ _ _ _ => pts_nil)
          (fun _ _ _ _ _ => pe_callB call_abs (by rfl) mA (by decide +kernel) (pa_cons (pv 2) pa_nil))))
        (pps_cons pe_str pe_int (pps_cons pe_str (pv 1) (pps_cons pe_str pe_int pps_nil)))) (by rfl) (by rfl) (fun z => by cases z) (by decide))))), ?_⟩
    refine ⟨_, rfl, a, rfl, ⟨_, hS⟩, for_list (K := K) (a := a) (xs := ns.map V.int) (fun i σ H2 => ∃ (m : Int) (v : Option V), σ = [some (.ref a), some (.int m), v] ∧ H2 = H)
      ⟨11, none, rfl, rfl⟩ (fun i σ H2 _ ⟨_, _, _, e⟩ => by rw [e]; exact hS) ?_ ?_⟩
    · rintro i y σ H2 hi ⟨m, v, rfl, rfl⟩
      obtain ⟨z, hz, rfl⟩ := int_at hi
      refine ⟨_, rfl, _, _, rfl, rfl, .inr ⟨by decide, by decide⟩, _, rfl, _, _, rfl, rfl, .inr ⟨by decide, by decide⟩, _, _, rfl, rfl, _, _, rfl, rfl, .inl ⟨_, rfl, _, _, rfl, rfl, (by show (0 : Int) < 2147483629; decide), ?_⟩⟩
      exact ⟨_, _, rfl, rfl⟩
    · rintro σ H2 ⟨m, v, rfl, rfl⟩
      intro p np
      have s1 := same_new (o := .dK []) np
      refine ⟨_, rfl, a, rfl, ⟨_, s1.seq hS⟩, fun D nD => ?_⟩
      have s2 := s1.trans (same_new (o := .lst []) nD)
      have npD : p ≠ D := ne_of_none upd_same nD
      refine lc_list (K := K) (a := a) (xs := ns.map V.int) (fun i H3 => Same H2 H3 ∧ H3 p = some (.dK []) ∧ ∃ ks : List Int, ks.length = i ∧ H3 D = some (.lst (ks.map V.int)))
        ⟨s2, by rw [upd_ne npD]; exact upd_same, [], rfl, upd_same⟩ (fun i H3 _ ⟨s3, _⟩ => s3.seq hS) ?_ ?_
      · rintro i y H3 hi ⟨s3, hp, ks, rfl, hD⟩
        obtain ⟨z, hz, rfl⟩ := int_at hi
        have il : ks.length < ns.length := (List.getElem?_eq_some_iff.mp hz).1
        refine ⟨rfl, _, rfl, _, rfl, _, hD, ?_, ?_⟩
        · rw [List.length_map]
          exact small1000 (by omega)
        · have nD2 : H2 D = none := s1.free nD
          refine ⟨fun b o e => by rw [upd_ne (ne_of_none e nD2)]; exact s3 b o e, by rw [upd_ne npD]; exact hp, ks ++ [if z < 0 then -z else z], by simp, ?_⟩
          rw [upd_same, List.map_append]
          rfl
      · rintro H3 ⟨s3, hp, ks, ek, hD⟩
        refine ⟨D, _, rfl, .inl (.inl hD), fun c nc => ?_⟩
        refine ⟨_, rfl, ?_, srcK c 1 m 0, rfl, (by show 4 ≤ 15; decide), ?_⟩
        · rw [upd_ne (ne_of_none hp nc)]
          exact hp
        · rw [merge_src]
          have pc : p ≠ c := ne_of_none hp nc
          refine k p c _ np (s3.free nc) ⟨ks.reverse, 1, m, 0, upd_same, ?_⟩ fun b o e => ?_
          · rw [upd_ne pc.symm, upd_same, List.map_reverse]
          · have z := s3 b o e
            rw [upd_ne (ne_of_none e np), upd_ne (ne_of_none z nc)]
            exact z
end
end K06
namespace K06
open PySem PySem.Spec L2 Rt
open PyProof.Rows hiding St
/-! ### words -/
abbrev LET : Str := "abcdefghijklmnopqrstuvwxyz"
abbrev SGN : Str := "abcdefghijklmnopqrstuvwxyz0123456789"
def digs (i : Int) : Str := cutS (Str.ofString (toString (100 + i))) (some 1) none
theorem digs_tab : ∀ n : Nat, n < 100 → (digs (n : Int)).cps.toList = [48 + n / 10, 48 + n % 10] := by decide +kernel
theorem app_list (a b : Str) : (a ++ b).cps.toList = a.cps.toList ++ b.cps.toList := by
  show (a.cps ++ b.cps).toList = _
  simp
structure Word (w : Str) : Prop where
  le : w.length ≤ 12
  hd : ∃ c r, w.cps.toList = c :: r ∧ c ∈ LET.cps.toList
  sg : ∀ x, x ∈ w.cps.toList → x ∈ SGN.cps.toList
def key (w : Str) : Nat := (w.cps.toList.getD 1 0 - 48) * 10 + (w.cps.toList.getD 2 0 - 48)
theorem let_sgn : ∀ x, x ∈ LET.cps.toList → x ∈ SGN.cps.toList := by decide +kernel
theorem dig_sgn : ∀ n : Nat, n < 10 → 48 + n ∈ SGN.cps.toList := by decide +kernel
def tailOk (t : Str) : Prop := t.length ≤ 9 ∧ ∀ x, x ∈ t.cps.toList → x ∈ SGN.cps.toList
theorem word_mk {c : Nat} {n : Nat} {t : Str} (hc : c ∈ LET.cps.toList) (hn : n < 100) (ht : tailOk t) : Word ((⟨#[c]⟩ ++ digs (n : Int)) ++ t) ∧ key ((⟨#[c]⟩ ++ digs (n : Int)) ++ t) = n := by
  have e : ((⟨#[c]⟩ ++ digs (n : Int)) ++ t : Str).cps.toList = c :: (48 + n / 10) :: (48 + n % 10) :: t.cps.toList := by
    rw [app_list, app_list, digs_tab n hn]
    rfl
  refine ⟨⟨?_, ⟨c, _, e, hc⟩, fun x hx => ?_⟩, ?_⟩
  · have l : ((⟨#[c]⟩ ++ digs (n : Int)) ++ t : Str).length = t.length + 3 := by
      show Array.size _ = _
      rw [← Array.length_toList, e]
      show t.cps.toList.length + 1 + 1 + 1 = t.cps.size + 3
      rw [Array.length_toList]
    rw [l]
    have := ht.1
    omega
  · rw [e] at hx
    rcases List.mem_cons.mp hx with rfl | hx
    · exact let_sgn _ hc
    · rcases List.mem_cons.mp hx with rfl | hx
      · exact dig_sgn _ (by omega)
      · rcases List.mem_cons.mp hx with rfl | hx
        · exact dig_sgn _ (by omega)
        · exact ht.2 _ hx
  · unfold key
    rw [e]
    show (48 + n / 10 - 48) * 10 + (48 + n % 10 - 48) = n
    omega
def place (s : Int) (k : Nat) : Nat := ((s + 37 * (k : Int)) % 100).toNat
theorem place_ne {s : Int} {a b : Nat} (h : a < b) (hb : b < 100) : place s a ≠ place s b := by
  unfold place
  omega
theorem nodup_of {s : Int} {ws : List Str} {n : Nat} (hn : n ≤ 100) (h : ws.map key = (List.range n).map (place s)) : ws.Nodup := by
  have h1 : ((List.range n).map (place s)).Pairwise (· ≠ ·) := by
    rw [List.pairwise_map]
    refine List.Pairwise.imp_of_mem (fun {a b} _ hb lt => ?_) (List.pairwise_lt_range (n := n))
    exact place_ne lt (Nat.lt_of_lt_of_le (List.mem_range.mp hb) hn)
  rw [← h] at h1
  exact List.Pairwise.of_map key (fun a b ne e => ne (congrArg key e)) h1
end K06
namespace K06
open PySem PySem.Spec L2 Rt
open PyProof.Rows hiding St
abbrev sNames : Stmt := top 31
def spNames : Sp := fun vs H Q _ => ∃ (d c : Addr) (n : Nat), vs = [.ref d, .int n] ∧ Src H d c ∧ n ≤ 100 ∧
  ∀ (L : Addr) (ws : List Str) (H' : Hp), H L = none → Src H' d c → Keep d c H H' → H' L = some (.lst (ws.map V.str)) → ws.length = n → (∀ w, w ∈ ws → Word w) → ws.Nodup → Q (.ref L) H'
theorem pick_at {α : Type} {xs : List α} {r : Int} (h0 : 0 ≤ r) (h1 : r < xs.length) : ∃ v, atI xs r = some v ∧ v ∈ xs := by
  obtain ⟨j, ej⟩ : ∃ j : Nat, r = (j : Int) := ⟨r.toNat, by omega⟩
  have hj : j < xs.length := by omega
  refine ⟨xs[j], ?_, List.getElem_mem hj⟩
  subst ej
  unfold atI ixN
  rw [if_pos h0, if_pos h1]
  show xs[((j : Int)).toNat]? = _
  rw [Int.toNat_natCast, List.getElem?_eq_getElem hj]
theorem Src.away {d c p : Addr} {H : Hp} (S : Src H d c) (n : H p = none) : p ≠ d ∧ p ≠ c := by
  obtain ⟨ks, l, m, u, h1, h2⟩ := S.ex
  exact ⟨(ne_of_none h1 n).symm, (ne_of_none h2 n).symm⟩
theorem Src.put {d c L : Addr} {o : HO} {H : Hp} (S : Src H d c) (a : L ≠ d ∧ L ≠ c) : Src (upd H L o) d c := by
  obtain ⟨ks, l, m, u, h1, h2⟩ := S.ex
  exact ⟨ks, l, m, u, by rw [upd_ne a.1.symm]; exact h1, by rw [upd_ne a.2.symm]; exact h2⟩
theorem Keep.put {d c L : Addr} {o : HO} {H H1 : Hp} (a : Keep d c H H1) (n : H L = none) : Keep d c H (upd H1 L o) := fun x u e n1 n2 => by
  rw [upd_ne (ne_of_none e n)]
  exact a x u e n1 n2
theorem tails_ok : ∀ v, v ∈ [V.str "", V.str "", V.str "", V.str "k", V.str "kkkkkkkkk"] → ∃ t : Str, v = .str t ∧ tailOk t := by
  intro v h
  have a : tailOk "" := ⟨by decide +kernel, by decide +kernel⟩
  have b : tailOk "k" := ⟨by decide +kernel, by decide +kernel⟩
  have c : tailOk "kkkkkkkkk" := ⟨by decide +kernel, by decide +kernel⟩
  rcases List.mem_cons.mp h with rfl | h
  · exact ⟨_, rfl, a⟩
  rcases List.mem_cons.mp h with rfl | h
  · exact ⟨_, rfl, a⟩
  rcases List.mem_cons.mp h with rfl | h
  · exact ⟨_, rfl, a⟩
  rcases List.mem_cons.mp h with rfl | h
  · exact ⟨_, rfl, b⟩
  rcases List.mem_cons.mp h with rfl | h
  · exact ⟨_, rfl, c⟩
  cases h
theorem str_small (n : Nat) (h : n < 100) : (100 + (n : Int)).natAbs.log2 < 1920 := by
  have e : (100 + (n : Int)).natAbs = 100 + n := by omega
  rw [e]
  refine Nat.lt_of_lt_of_le ((Nat.log2_lt (by omega)).mpr (show 100 + n < 2 ^ 8 by omega)) (by decide)
theorem str_short : ∀ n : Nat, n < 100 → (Str.ofString (toString (100 + (n : Int)))).length ≤ sizeLine := fun n h => Nat.le_trans ((by decide +kernel : ∀ n : Nat, n < 100 → (Str.ofString (toString (100 + (n : Int)))).length ≤ 3) n h) (by decide)
theorem digs_len (n : Nat) (h : n < 100) : (digs (n : Int)).length = 2 := by
  show Array.size _ = 2
  rw [← Array.length_toList, digs_tab n h]
  rfl
theorem two_le {c : Nat} (n : Nat) (h : n < 100) : (⟨#[c]⟩ : Str).length + (digs (n : Int)).length ≤ sizeLine := by
  rw [digs_len n h]
  show 1 + 2 ≤ sizeLine
  decide
theorem two3 (c : Nat) (n : Nat) (h : n < 100) : ((⟨#[c]⟩ : Str) ++ digs (n : Int)).length ≤ 3 := by
  show Array.size _ ≤ 3
  rw [← Array.length_toList, app_list, List.length_append, digs_tab n h]
  exact Nat.le_refl 3
section
variable {P : Program} {w : World} {K : PySem.W.Frag} {mg : Str → Option Value} {base : Heap}
theorem scNames : FnScope ["source", "many", "shift", "names", "tails", "k", "letter"] ["source", "many"] (defScope sNames) := ⟨rfl, rfl, rfl, by decide +kernel, rfl, by decide +kernel, by decide +kernel⟩
theorem ok_names {f : Addr} {fd : FuncData} (F : Fun K "_law_names" "_law_names" sNames f fd) (mrange : mg "range" = none) (mstr : mg "str" = none) (mint : mg "int" = none) (cP : Cb P w K mg base 1 "_law_pick" spPick) : FnG P w K mg base 2 f fd ["source", "many"] spNames := by
  refine okG F scNames (fun vs H Q E h => ?_) (fun cdv A outer s H vs Q E hg hr h => ?_)
  · obtain ⟨d, c, n, rfl, _⟩ := h
    rfl
  · obtain ⟨d, c, n, rfl, S, hn, k⟩ := h
    refine ⟨_, (pss_cons (ps_par3 (i := 2) (j := 3) (l := 4) (by rfl) scNames.nd rfl rfl rfl (by decide) (by decide) (by decide) rfl rfl rfl (pa_cons (pe_k cP hg hr (by decide) (by rfl) (pa_cons (pv 0) (pa_cons pe_int pa_nil))) (pa_cons (pe_lst pa_nil) (pa_cons (pe_lst (pa_cons pe_str (pa_cons pe_str (pa_cons pe_str (pa_cons pe_str (pa_cons pe_str pa_nil)))))) pa_nil))) (by rfl))
      (pss_cons (ps_for PassesOwn.never rfl (pi_range1 (by rfl) mrange (pa_cons (pv 1) pa_nil)) (pg_name (i := 5) scNames.nd rfl (.inl rfl))
        (pss_cons (ps_set (i := 6) scNames.nd rfl (.inl rfl) (pe_ix ix_str pe_str (pe_k cP hg hr (by decide) (by rfl) (pa_cons (pv 0) (pa_cons pe_int pa_nil))) (fun _ _ => rfl)))
        (pss_one (ps_expr (pe_bm PySem.F.plainAttrs_list PySem.F.slot_list_append PySem.F.type_list_append mt_append (pv 3) (pa_cons (pe_op op_add_str (pe_op op_add_str (pv 6) (pe_slice sl_str (pe_callTy call_str_int (by rfl) mstr (by decide +kernel) (pa_cons (pe_op op_add pe_int (pe_op op_mod (pe_callTy call_int1 (by rfl) mint (by decide +kernel) (pa_cons (pe_op op_add (pv 2) (pe_op op_mul pe_int (pv 5))) pa_nil)) pe_int)) pa_nil)) (po_some pe_int) po_none)) (pe_ix ix_list (pv 4) (pe_k cP hg hr (by decide) (by rfl) (pa_cons (pv 0) (pa_cons pe_int pa_nil))) (fun _ _ => rfl))) pa_nil))))))
      (pss_one (ps_ret (pv 3))))), ?_⟩
    refine ⟨_, rfl, d, c, _, rfl, S, (by decide), fun sh H1 r0 r1 S1 k1 => ?_⟩
    refine ⟨(by show 0 ≤ sizeLine; decide), fun L nL => ?_⟩
    have aL := S1.away nL
    have S2 := S1.new (o := .lst []) nL
    refine ⟨(by show 5 ≤ sizeLine; decide), fun T nT => ?_⟩
    have aT := S2.away nT
    have S3 := S2.new (o := .lst [V.str "", V.str "", V.str "", V.str "k", V.str "kkkkkkkkk"]) nT
    have LT : L ≠ T := ne_of_none upd_same nT
    have nL0 : H L = none := by
      cases e : H L with
      | none => rfl
      | some o => rw [k1 L o e aL.1 aL.2] at nL; cases nL
    have nT0 : H T = none := by
      cases e : H T with
      | none => rfl
      | some o =>
        have z := k1 T o e aT.1 aT.2
        rw [upd_ne (Ne.symm LT), z] at nT
        cases nT
    refine ⟨_, _, _, rfl, ?_⟩
    refine ⟨_, rfl, _, rfl, (by omega), (by omega), ?_⟩
    refine for_range (lo := 0) (Pv := fun i σ H2 => ∃ (v5 v6 : Option V) (ws : List Str), σ = [some (.ref d), some (.int n), some (.int sh), some (.ref L), some (.ref T), v5, v6] ∧ Src H2 d c ∧ Keep d c H H2 ∧
      H2 L = some (.lst (ws.map V.str)) ∧ H2 T = some (.lst [V.str "", V.str "", V.str "", V.str "k", V.str "kkkkkkkkk"]) ∧ ws.length = i ∧ (∀ w, w ∈ ws → Word w) ∧ ws.map key = (List.range i).map (place sh))
      ⟨_, _, [], rfl, S3, (k1.put nL0).put nT0, ?_, upd_same, rfl, (fun _ h => nomatch h), rfl⟩ ?_ ?_
    · rw [upd_ne LT]
      exact upd_same
    · rintro i σ H2 hi ⟨v5, v6, ws, rfl, S4, k4, hL, hT, rfl, wok, keys⟩
      refine ⟨_, rfl, d, c, _, rfl, S4, (by decide), fun r H5 q0 q1 S5 k5 => ?_⟩
      obtain ⟨ch, ech, mch⟩ := pick_at (xs := LET.cps.toList) q0 (by rw [show LET.cps.toList.length = 26 by decide +kernel]; omega)
      refine ⟨LET, r, ch, rfl, rfl, (by decide +kernel), ech, ?_⟩
      have hL5 := k5 L _ hL aL.1 aL.2
      have hT5 := k5 T _ hT aT.1 aT.2
      refine ⟨_, rfl, ?_⟩
      have pl : (sh + 37 * (0 + (ws.length : Int))) % 100 = ((place sh ws.length : Nat) : Int) := by
        unfold place
        rw [Int.zero_add, Int.toNat_of_nonneg (Int.emod_nonneg _ (by decide))]
      have lt : place sh ws.length < 100 := by
        unfold place
        omega
      refine ⟨.inl ⟨rfl, _, SqL.of hL5⟩, _, rfl, _, rfl, _, rfl, _, _, rfl, rfl, .inl ⟨by decide, by decide⟩, _, _, rfl, rfl, .inl ⟨_, rfl, _, _, rfl, rfl, (by decide : (0 : Int) < 100), _, _, rfl, rfl, ?_⟩⟩
      rw [pl]
      refine ⟨_, rfl, str_small _ lt, ?_⟩
      refine ⟨_, rfl, _, rfl, str_short _ lt, _, _, rfl, rfl, ?_, ?_⟩
      · exact two_le _ lt
      refine ⟨_, rfl, _, rfl, d, c, _, rfl, S5, (by decide), fun r2 H6 q2 q3 S6 k6 => ?_⟩
      obtain ⟨tv, etv, mtv⟩ := pick_at (xs := [V.str "", V.str "", V.str "", V.str "k", V.str "kkkkkkkkk"]) q2 (by show r2 < 5; omega)
      have hL6 := k6 L _ hL5 aL.1 aL.2
      have hT6 := k6 T _ hT5 aT.1 aT.2
      refine ⟨T, _, r2, tv, rfl, rfl, SqL.of hT6, etv, ?_⟩
      obtain ⟨t, rfl, tok⟩ := tails_ok tv mtv
      obtain ⟨w1, w2⟩ := word_mk mch lt tok
      refine ⟨_, _, rfl, rfl, Nat.le_trans (Nat.add_le_add (two3 ch _ lt) tok.1) (by decide), ?_⟩
      refine ⟨L, _, _, rfl, rfl, hL6, small1000 (by rw [List.length_map]; omega), ?_⟩
      refine ⟨_, _, ws ++ [((⟨#[ch]⟩ ++ digs ((place sh ws.length : Nat) : Int)) ++ t : Str)], rfl, S6.put aL, ((k4.trans k5).trans k6).put nL0, ?_, ?_, ?_, ?_, ?_⟩
      · rw [upd_same, List.map_append]
        rfl
      · rw [upd_ne (Ne.symm LT)]
        exact hT6
      · rw [List.length_append]
        rfl
      · intro w hw
        rcases List.mem_append.mp hw with h | h
        · exact wok w h
        · cases List.mem_singleton.mp h
          exact w1
      · rw [List.map_append, keys, List.range_succ, List.map_append]
        show _ ++ [key _] = _ ++ [_]
        rw [show key _ = _ from w2]
    · rintro σ H2 ⟨v5, v6, ws, rfl, S4, k4, hL, hT, e, wok, keys⟩
      have e2 : ws.length = n := by omega
      refine ⟨_, rfl, k L ws H2 nL0 S4 k4 hL e2 wok (nodup_of (s := sh) (n := n) hn ?_)⟩
      rw [keys]
      rfl
end
end K06
namespace Rt
open PySem PySem.Spec L2
open PyProof.Rows hiding St
/-! ### the defs as the top has left them -/
structure At (K : PySem.W.Frag) (mg : Str → Option Value) (x : Str) (st : Stmt) : Prop where
  ex : ∃ (f : Addr) (fd : FuncData), Fun K x x st f fd ∧ mg x = some (.ref f)
section
variable {P : Program} {w : World} {K : PySem.W.Frag} {mg : Str → Option Value} {base h : Heap} {x : Str} {st : Stmt}
theorem at_mk {f : Addr} {oc kV dc pm cd ct : Value} {od an : Option Addr} {sl : Array (Option Value)} (X : K.In h) (G : h.Ns mainGlobals mg) (a : PySem.W.nsIn K mainGlobals x = some (some (.ref f)))
    (l : K.lookup f = some ⟨oc, od, .func (PySem.W.fnOf x x (defArgs st) (defBody st) (defScope st) .none kV dc pm an cd ct), sl⟩) (c : PySem.W.codeIn K cd x = true) (k : PySem.W.keepIn K (.ref f) = true) : At K mg x st :=
  ⟨f, _, fun_mk l c k, PySem.W.mg_of X G a⟩
theorem At.cb {k : Nat} {ps : List Str} {sp : Sp} (A : At K mg x st) (ok : ∀ (f : Addr) (fd : FuncData), Fun K x x st f fd → FnG P w K mg base k f fd ps sp)
    (bd : ∀ (f : Addr) (fd : FuncData), Fun K x x st f fd → Binds K fd ps []) : Cb P w K mg base k x sp := by
  obtain ⟨f, fd, F, m⟩ := A.ex
  exact ⟨f, fd, ps, ok f fd F, m, F.kp, bd f fd F⟩
end
end Rt
namespace Rt
open PySem PySem.Spec L2
open PyProof.Rows hiding St
/-! ### defs that may be called under any guards -/
structure Cf (P : Program) (w : World) (K : PySem.W.Frag) (mg : Str → Option Value) (base : Heap) (k : Nat) (x : Str) (sp : Sp) : Prop where
  ex : ∃ (f : Addr) (fd : FuncData) (ps : List Str), FnOk P w K mg base CX0 k f fd ps sp ∧ mg x = some (.ref f) ∧ PySem.W.keepIn K (.ref f) = true ∧ Binds K fd ps []
section
variable {P : Program} {w : World} {K : PySem.W.Frag} {mg : Str → Option Value} {base : Heap} {k : Nat} {x : Str} {sp : Sp} {st : Stmt}
theorem Cf.toB (c : Cf P w K mg base k x sp) : Cb P w K mg base k x sp := by
  obtain ⟨f, fd, ps, F, m, kp, b⟩ := c.ex
  exact ⟨f, fd, ps, ⟨F.len, fun A _ r o s H a us vs Q E => F.run A o s H a us vs Q E r⟩, m, kp, b⟩
theorem At.cf {ps : List Str} (A : At K mg x st) (ok : ∀ (f : Addr) (fd : FuncData), Fun K x x st f fd → FnOk P w K mg base CX0 k f fd ps sp)
    (bd : ∀ (f : Addr) (fd : FuncData), Fun K x x st f fd → Binds K fd ps []) : Cf P w K mg base k x sp := by
  obtain ⟨f, fd, F, m⟩ := A.ex
  exact ⟨f, fd, ps, ok f fd F, m, F.kp, bd f fd F⟩
end
section
variable {X : Cx} {k j : Nat} {x : Str} {sp : Sp} {p pos : Pos} {e : Expr} {es : List Expr} {t : TA}
theorem pe_f (c : Cf X.prog X.w X.K X.mg X.base k x sp) (hr : Room j X.A) (hk : k ≤ j) (hx : Gl X x) (ha : PA X (e :: es) t)
    (hdb : (x == ("__debug__" : Str)) = false := by decide) (he : starEach (e :: es) X.env = (false, eval e X.env) :: starEach es X.env := by rfl)
    (hpl : (backTo pos (starEach es X.env)).any (·.1) = false := by rfl) : PE X (.Call (.Name x p) (e :: es) [] pos) (tCall sp [] E0 t) := by
  obtain ⟨f, fd, ps, F, hm, kp, bd⟩ := c.ex
  exact pe_call F (hr.mono hk) hx hm kp bd .nil (fun _ _ _ _ _ _ _ z => z.elim) ha hdb he hpl
end
end Rt
namespace K06
open PySem PySem.Spec L2 Rt
open PyProof.Rows hiding St
abbrev sIsWord : Stmt := top 5
abbrev sIsInt : Stmt := top 6
abbrev sIsName : Stmt := top 21
abbrev sWip : Stmt := top 22
abbrev sWips : Stmt := top 23
abbrev sWir : Stmt := top 24
abbrev sWirs : Stmt := top 25
structure Wds (mg : Str → Option Value) : Prop where
  zisinstance : mg "isinstance" = none
  zlen : mg "len" = none
  zall : mg "all" = none
  zint : mg "int" = none
  zbool : mg "bool" = none
  zstr : mg "str" = none
  ztuple : mg "tuple" = none
  zlist : mg "list" = none
  zenumerate : mg "enumerate" = none
  let_ : ∃ t, mg "LETTERS" = some (.str LET t)
  sgn : ∃ t, mg "WORD_SIGNS" = some (.str SGN t)
  lw : ∃ t, mg "LONGEST_WORD" = some (.int 12 t)
  gs : ∃ t, mg "GREATEST_STEP" = some (.int 60 t)
/-! ### points and rules -/
abbrev Pt := Str × Int × Int
abbrev Rl := Str × Str × Int
def ptV (p : Pt) : HO := .tup [.str p.1, .int p.2.1, .int p.2.2]
def rlV (r : Rl) : HO := .tup [.str r.1, .str r.2.1, .int r.2.2]
def PtOk (p : Pt) : Prop := Word p.1 ∧ 1 ≤ p.2.2 ∧ p.2.2 ≤ 60
def Row {α : Type} (f : α → HO) (H : Hp) (as : List Addr) (ps : List α) : Prop := as.length = ps.length ∧ ∀ (i : Nat) (a : Addr) (p : α), as[i]? = some a → ps[i]? = some p → H a = some (f p)
theorem Row.same {α : Type} {f : α → HO} {H H' : Hp} {as : List Addr} {ps : List α} (r : Row f H as ps) (s : Same H H') : Row f H' as ps := ⟨r.1, fun i a p h1 h2 => s _ _ (r.2 i a p h1 h2)⟩
theorem atI_0 {α : Type} {a : α} {xs : List α} : atI (a :: xs) 0 = some a := by
  unfold atI ixN
  rw [if_pos (Int.le_refl 0), if_pos (by simp)]
  rfl
def spInt1 : Sp := fun vs H Q _ => ∃ i : Int, vs = [.int i] ∧ Q (.bl true) H
def spWord1 : Sp := fun vs H Q _ => ∃ x : Str, vs = [.str x] ∧ Word x ∧ ∀ H', Same H H' → Q (.bl true) H'
def spIsName : Sp := fun vs H Q _ => ∃ (x : Str) (d : Addr) (kvs : List (Key × V)), vs = [.str x, .ref d] ∧ H d = some (.dK kvs) ∧ Q (.bl (valV kvs (Sum.inr x)).isSome) H
def spWip : Sp := fun vs H Q _ => ∃ (a e : Addr) (p : Pt) (kvs : List (Key × V)), vs = [.ref a, .ref e] ∧ H a = some (ptV p) ∧ PtOk p ∧ H e = some (.dK kvs) ∧ valV kvs (Sum.inr p.1) = none ∧ ∀ H', Same H H' → Q .non H'
def spWir : Sp := fun vs H Q _ => ∃ (a e : Addr) (r : Rl) (kvs : List (Key × V)), vs = [.ref a, .ref e] ∧ H a = some (rlV r) ∧ H e = some (.dK kvs) ∧ (valV kvs (Sum.inr r.1)).isSome = true ∧ (valV kvs (Sum.inr r.2.1)).isSome = true ∧ ∀ H', Same H H' → Q .non H'
section
variable {P : Program} {w : World} {K : PySem.W.Frag} {mg : Str → Option Value} {base : Heap}
theorem scIsInt : FnScope ["value"] ["value"] (defScope sIsInt) := ⟨rfl, rfl, rfl, by decide +kernel, rfl, by decide +kernel, by decide +kernel⟩
theorem ok_isInt {f : Addr} {fd : FuncData} (F : Fun K "is_integer" "is_integer" sIsInt f fd) (T : Wds mg) : FnOk P w K mg base CX0 1 f fd ["value"] spInt1 := by
  refine F.ok scIsInt (fun vs H Q E h => ?_) (fun cdv A outer s H vs Q E hr h => ?_)
  · obtain ⟨v, rfl, _⟩ := h
    rfl
  · obtain ⟨v, rfl, k⟩ := h
    refine ⟨_, (pss_one (ps_ret (pe_and (pe_callB call_isi (by rfl) T.zisinstance (by decide +kernel) (pa_cons (pv 0) (pa_cons (pe_bltn (v := .ty "int") (by rfl) T.zint (by decide +kernel) rfl) pa_nil))) (pe_one (pe_not (pe_callB call_isi (by rfl) T.zisinstance (by decide +kernel) (pa_cons (pv 0) (pa_cons (pe_bltn (v := .ty "bool") (by rfl) T.zbool (by decide +kernel) rfl) pa_nil)))))))), ?_⟩
    refine ⟨_, rfl, _, .ty "int", _, .type "int", true, rfl, .ty _, .base (.int _), kit_ty (by decide +kernel), true, rfl, iteT ?_⟩
    exact ⟨_, rfl, _, .ty "bool", _, .type "bool", false, rfl, .ty _, .base (.int _), kit_ty (by decide +kernel), false, rfl, k⟩
theorem scIsWord : FnScope ["value", "sign"] ["value"] (defScope sIsWord) := ⟨rfl, rfl, rfl, by decide +kernel, rfl, by decide +kernel, by decide +kernel⟩
theorem ok_isWord {f : Addr} {fd : FuncData} (F : Fun K "is_word" "is_word" sIsWord f fd) (T : Wds mg) : FnOk P w K mg base CX0 1 f fd ["value"] spWord1 := by
  refine F.ok scIsWord (fun vs H Q E h => ?_) (fun cdv A outer s H vs Q E hr h => ?_)
  · obtain ⟨v, rfl, _⟩ := h
    rfl
  · obtain ⟨x, rfl, ok, k⟩ := h
    obtain ⟨t1, hLET⟩ := T.let_
    obtain ⟨t2, hSGN⟩ := T.sgn
    obtain ⟨t3, hLW⟩ := T.lw
    refine ⟨_, (pss_cons (ps_if (PW.pt (pw_or (pt_not (pt_val (pe_callB call_isi (by rfl) T.zisinstance (by decide +kernel) (pa_cons (pv 0) (pa_cons (pe_bltn (v := .ty "str") (by rfl) T.zstr (by decide +kernel) rfl) pa_nil))))) (pw_or1 (pt_not (pt_chain op_le op_le pe_int (pe_callB call_len_str (by rfl) T.zlen (by decide +kernel) (pa_cons (pv 0) pa_nil)) (pe_glob (v := .int 12) (by rfl) hLW ⟨_, rfl⟩)))))) (pss_one (ps_ret pe_bl)) pss_nil)
      (pss_one (ps_ret (pe_and (pe_cmpR op_inS (pe_ix ix_str (pv 0) pe_int (fun _ _ => rfl)) (pe_glob (v := .str LET) (by rfl) hLET ⟨_, rfl⟩) rfl) (pe_one (pe_callB (cr_all (by rfl)) (by rfl) T.zall (by decide +kernel) (pa_cons (pe_lc (own := [("sign", 1)]) (by rfl) scIsWord.nd (pi_str (pv 0)) (blkOk_by (N := ["value", "sign"]) (sc := defScope sIsWord) (by decide +kernel)) (fun _ _ _ _ _ => (pg_name (i := 1) scIsWord.nd rfl (.inl rfl))) (fun _ _ _ _ _ => pts_nil) (fun _ _ _ _ _ => (pe_cmpR op_inS (pv 1) (pe_glob (v := .str SGN) (by rfl) hSGN ⟨_, rfl⟩) rfl))) pa_nil))))))), ?_⟩
    obtain ⟨c, r, e, hc⟩ := ok.hd
    have l1 : x.length = r.length + 1 := by
      show x.cps.size = _
      rw [← Array.length_toList, e]
      rfl
    have l12 := ok.le
    refine ⟨_, rfl, _, .ty "str", _, .type "str", true, rfl, .ty _, .base (.str _), kit_ty (by decide +kernel), true, rfl, iteF ?_⟩
    refine ⟨_, rfl, _, rfl, Nat.le_trans l12 (by decide), _, _, rfl, rfl, _, rfl, ?_⟩
    rw [decide_eq_true (show (1 : Int) ≤ (x.length : Int) by omega)]
    refine iteT ⟨_, _, rfl, rfl, _, rfl, ?_⟩
    rw [decide_eq_true (show (x.length : Int) ≤ 12 by omega)]
    refine iteF ?_
    refine ⟨_, rfl, x, 0, c, rfl, rfl, Nat.le_trans l12 (by decide), by rw [e]; exact atI_0, c, LET, rfl, rfl, true, by rw [decide_eq_true hc], iteT ?_⟩
    refine ⟨_, rfl, x, rfl, fun D nD => ?_⟩
    refine lc_it walk_str (fun i H' => Same H H' ∧ H' D = some (.lst ((List.replicate i true).map V.bl))) ⟨same_new nD, upd_same⟩ (fun _ _ _ _ => True.intro) ?_ ?_
    · rintro i y H1 H2 hi ⟨s1, h1⟩ ⟨rfl, z, hz, rfl⟩
      have mz : z ∈ SGN.cps.toList := ok.sg z (by
        have q := List.mem_of_getElem? (l := x.cps.toList) (i := i) (a := z) (by rw [Array.getElem?_toList]; exact hz)
        exact q)
      refine ⟨rfl, _, rfl, z, SGN, rfl, rfl, ?_⟩
      rw [decide_eq_true mz]
      refine ⟨_, h1, small1000 (by rw [List.length_map, List.length_replicate]; have : x.cps.size ≤ 12 := l12; omega), fun b o q => by rw [upd_ne (ne_of_none q nD)]; exact s1 b o q, ?_⟩
      rw [upd_same, List.replicate_succ', List.map_append]
      rfl
    · rintro H1 ⟨s1, h1⟩
      refine ⟨D, _, rfl, SqL.of h1, ?_⟩
      rw [show (List.replicate x.cps.size true).all id = true by simp]
      exact k H1 s1
end
end K06
namespace K06
open PySem PySem.Spec L2 Rt
open PyProof.Rows hiding St
theorem get_k {H : Hp} {d : Addr} {kvs : List (Key × V)} {x : Str} (h : H d = some (.dK kvs)) : DGet H d (.str x) (valV kvs (Sum.inr x)) := DGet.k (k := Sum.inr x) h
section
variable {P : Program} {w : World} {K : PySem.W.Frag} {mg : Str → Option Value} {base : Heap}
theorem scIsName : FnScope ["value", "names"] ["value", "names"] (defScope sIsName) := ⟨rfl, rfl, rfl, by decide +kernel, rfl, by decide +kernel, by decide +kernel⟩
theorem ok_isName {f : Addr} {fd : FuncData} (F : Fun K "is_name_of" "is_name_of" sIsName f fd) (T : Wds mg) : FnOk P w K mg base CX0 1 f fd ["value", "names"] spIsName := by
  refine F.ok scIsName (fun vs H Q E h => ?_) (fun cdv A outer s H vs Q E hr h => ?_)
  · obtain ⟨x, d, kvs, rfl, _⟩ := h
    rfl
  · obtain ⟨x, d, kvs, rfl, hd, k⟩ := h
    have hu := hu_of hr
    refine ⟨_, (pss_one (ps_ret (pe_and (pe_callB call_isi (by rfl) T.zisinstance (by decide +kernel) (pa_cons (pv 0) (pa_cons (pe_bltn (v := .ty "str") (by rfl) T.zstr (by decide +kernel) rfl) pa_nil))) (pe_one (pe_cmp (pc_din hu (pv 0) (pv 1))))))), ?_⟩
    exact ⟨_, rfl, _, .ty "str", _, .type "str", true, rfl, .ty _, .base (.str _), kit_ty (by decide +kernel), true, rfl, iteT ⟨_, rfl, _, rfl, d, _, rfl, get_k hd, k⟩⟩
theorem scWip : FnScope ["point", "earlier", "name", "first", "step"] ["point", "earlier"] (defScope sWip) := ⟨rfl, rfl, rfl, by decide +kernel, rfl, by decide +kernel, by decide +kernel⟩
theorem ok_wip {f : Addr} {fd : FuncData} (F : Fun K "wrong_in_point" "wrong_in_point" sWip f fd) (T : Wds mg) (isWord : Cf P w K mg base 1 "is_word" spWord1) (isInt : Cf P w K mg base 1 "is_integer" spInt1) : FnOk P w K mg base CX0 2 f fd ["point", "earlier"] spWip := by
  refine F.ok scWip (fun vs H Q E h => ?_) (fun cdv A outer s H vs Q E hr h => ?_)
  · obtain ⟨a, e, p, kvs, rfl, _⟩ := h
    rfl
  · obtain ⟨a, e, p, kvs, rfl, ha, ⟨ok, p1, p2⟩, he, no, k⟩ := h
    obtain ⟨t4, hGS⟩ := T.gs
    have hu := hu_of hr
    have ha : H a = some (.tup [.str p.1, .int p.2.1, .int p.2.2]) := ha
    refine ⟨_, (pss_cons (ps_if (PW.pt (pw_or (pt_not (pt_val (pe_callB call_isi (by rfl) T.zisinstance (by decide +kernel) (pa_cons (pv 0) (pa_cons (pe_bltn (v := .ty "tuple") (by rfl) T.ztuple (by decide +kernel) rfl) pa_nil))))) (pw_or1 (pt_cmpR op_ne (pe_callB call_len_seq (by rfl) T.zlen (by decide +kernel) (pa_cons (pv 0) pa_nil)) pe_int (nomark _))))) (pss_one (ps_ret (pe_tup pa_nil))) pss_nil)
      (pss_cons (ps_asg (pv 0) (pg_tup (by rfl) (pgs_cons (pg_name (i := 2) scWip.nd rfl (.inl rfl)) (pgs_cons (pg_name (i := 3) scWip.nd rfl (.inl rfl)) (pgs_cons (pg_name (i := 4) scWip.nd rfl (.inl rfl)) pgs_nil)))))
      (pss_cons (ps_if (PW.pt (pw_or (pt_not (pt_val (pe_f isWord hr (by decide) (by rfl) (pa_cons (pv 2) pa_nil)))) (pw_or1 (pt_cmp (pc_din hu (pv 2) (pv 1)))))) (pss_one (ps_ret (pe_tup (pa_cons pe_int pa_nil)))) pss_nil)
      (pss_cons (ps_if (pt_not (pt_val (pe_f isInt hr (by decide) (by rfl) (pa_cons (pv 3) pa_nil)))) (pss_one (ps_ret (pe_tup (pa_cons pe_int pa_nil)))) pss_nil)
      (pss_cons (ps_if (PW.pt (pw_or (pt_not (pt_val (pe_f isInt hr (by decide) (by rfl) (pa_cons (pv 4) pa_nil)))) (pw_or1 (pt_not (pt_chain op_le op_le pe_int (pv 4) (pe_glob (v := .int 60) (by rfl) hGS ⟨_, rfl⟩)))))) (pss_one (ps_ret (pe_tup (pa_cons pe_int pa_nil)))) pss_nil)
      (pss_one (ps_ret pe_non))))))), ?_⟩
    refine ⟨_, rfl, _, .ty "tuple", _, .type "tuple", true, rfl, .ty _, .base (.tup ha), kit_ty (by decide +kernel), true, rfl, iteF ?_⟩
    refine ⟨_, rfl, a, _, rfl, .inr (SqT.of ha), rfl, false, rfl, iteF ?_⟩
    refine ⟨_, rfl, a, _, rfl, SqT.of ha, rfl, _, _, rfl, _, _, rfl, _, _, rfl, rfl, ?_⟩
    refine ⟨_, rfl, p.1, rfl, ok, fun H1 s1 => ⟨true, rfl, iteF ?_⟩⟩
    refine ⟨_, rfl, _, rfl, e, _, rfl, get_k (s1 _ _ he), _, rfl, ?_⟩
    rw [no]
    refine iteF ?_
    refine ⟨_, rfl, _, rfl, true, rfl, iteF ?_⟩
    refine ⟨_, rfl, _, rfl, true, rfl, iteF ?_⟩
    refine ⟨_, rfl, _, _, rfl, rfl, _, rfl, ?_⟩
    rw [decide_eq_true p1]
    refine iteT ⟨_, _, rfl, rfl, _, rfl, ?_⟩
    rw [decide_eq_true p2]
    refine iteF ?_
    exact k H1 s1
theorem scWir : FnScope ["rule", "names", "start", "end", "least"] ["rule", "names"] (defScope sWir) := ⟨rfl, rfl, rfl, by decide +kernel, rfl, by decide +kernel, by decide +kernel⟩
theorem ok_wir {f : Addr} {fd : FuncData} (F : Fun K "wrong_in_rule" "wrong_in_rule" sWir f fd) (T : Wds mg) (isName : Cf P w K mg base 1 "is_name_of" spIsName) (isInt : Cf P w K mg base 1 "is_integer" spInt1) : FnOk P w K mg base CX0 2 f fd ["rule", "names"] spWir := by
  refine F.ok scWir (fun vs H Q E h => ?_) (fun cdv A outer s H vs Q E hr h => ?_)
  · obtain ⟨a, e, r, kvs, rfl, _⟩ := h
    rfl
  · obtain ⟨a, e, r, kvs, rfl, ha, he, i1, i2, k⟩ := h
    have ha : H a = some (.tup [.str r.1, .str r.2.1, .int r.2.2]) := ha
    refine ⟨_, (pss_cons (ps_if (PW.pt (pw_or (pt_not (pt_val (pe_callB call_isi (by rfl) T.zisinstance (by decide +kernel) (pa_cons (pv 0) (pa_cons (pe_bltn (v := .ty "tuple") (by rfl) T.ztuple (by decide +kernel) rfl) pa_nil))))) (pw_or1 (pt_cmpR op_ne (pe_callB call_len_seq (by rfl) T.zlen (by decide +kernel) (pa_cons (pv 0) pa_nil)) pe_int (nomark _))))) (pss_one (ps_ret (pe_tup pa_nil))) pss_nil)
      (pss_cons (ps_asg (pv 0) (pg_tup (by rfl) (pgs_cons (pg_name (i := 2) scWir.nd rfl (.inl rfl)) (pgs_cons (pg_name (i := 3) scWir.nd rfl (.inl rfl)) (pgs_cons (pg_name (i := 4) scWir.nd rfl (.inl rfl)) pgs_nil)))))
      (pss_cons (ps_if (pt_not (pt_val (pe_f isName hr (by decide) (by rfl) (pa_cons (pv 2) (pa_cons (pv 1) pa_nil))))) (pss_one (ps_ret (pe_tup (pa_cons pe_int pa_nil)))) pss_nil)
      (pss_cons (ps_if (pt_not (pt_val (pe_f isName hr (by decide) (by rfl) (pa_cons (pv 3) (pa_cons (pv 1) pa_nil))))) (pss_one (ps_ret (pe_tup (pa_cons pe_int pa_nil)))) pss_nil)
      (pss_cons (ps_if (pt_not (pt_val (pe_f isInt hr (by decide) (by rfl) (pa_cons (pv 4) pa_nil)))) (pss_one (ps_ret (pe_tup (pa_cons pe_int pa_nil)))) pss_nil)
      (pss_one (ps_ret pe_non))))))), ?_⟩
    refine ⟨_, rfl, _, .ty "tuple", _, .type "tuple", true, rfl, .ty _, .base (.tup ha), kit_ty (by decide +kernel), true, rfl, iteF ?_⟩
    refine ⟨_, rfl, a, _, rfl, .inr (SqT.of ha), rfl, false, rfl, iteF ?_⟩
    refine ⟨_, rfl, a, _, rfl, SqT.of ha, rfl, _, _, rfl, _, _, rfl, _, _, rfl, rfl, ?_⟩
    refine ⟨_, rfl, _, rfl, _, e, kvs, rfl, he, true, by rw [i1], iteF ?_⟩
    refine ⟨_, rfl, _, rfl, _, e, kvs, rfl, he, true, by rw [i2], iteF ?_⟩
    refine ⟨_, rfl, _, rfl, true, rfl, iteF ?_⟩
    exact k H (Same.refl H)
/-- the names in order, each with its place -/
def placesK (ns : List Str) : List (Key × V) := (ns.zipIdx).map fun x => (Sum.inr x.1, V.int x.2)
def spWips : Sp := fun vs H Q _ => ∃ (p : Addr) (as : List Addr) (ps : List Pt), vs = [.ref p] ∧ H p = some (.lst (as.map V.ref)) ∧ Row ptV H as ps ∧ (∀ x, x ∈ ps → PtOk x) ∧ (ps.map (·.1)).Nodup ∧ ps.length ≤ 100 ∧ ∀ H', Same H H' → Q .non H'
def spWirs : Sp := fun vs H Q _ => ∃ (p e : Addr) (as : List Addr) (rs : List Rl) (kvs : List (Key × V)), vs = [.ref p, .ref e] ∧ H p = some (.lst (as.map V.ref)) ∧ Row rlV H as rs ∧ H e = some (.dK kvs) ∧
  (∀ r, r ∈ rs → (valV kvs (Sum.inr r.1)).isSome = true ∧ (valV kvs (Sum.inr r.2.1)).isSome = true) ∧ ∀ H', Same H H' → Q .non H'
theorem kitLT {K : PySem.W.Frag} {t : Value} (h : t = .type "list" ∨ t = .type "tuple") : PySem.W.kitAny K t [.type "list", .type "tuple"] = some true := by
  rcases h with rfl | rfl
  · exact kitAny_cons (b := true) (kit_ty (by decide +kernel)) (fun z => nomatch z) (fun _ => rfl)
  · exact kitAny_cons (b := false) (kit_ty (by decide +kernel)) (fun _ => kitAny_cons (b := true) (kit_ty (by decide +kernel)) (fun z => nomatch z) (fun _ => rfl)) (fun z => nomatch z)
theorem nodup_at {ps : List Pt} {i : Nat} (nd : (ps.map (·.1)).Nodup) (h : i < ps.length) : ps[i].1 ∉ (ps.take i).map (·.1) := by
  intro m
  obtain ⟨j, hj, e⟩ := List.getElem_of_mem m
  rw [List.length_map, List.length_take] at hj
  rw [List.getElem_map, List.getElem_take] at e
  have q := List.pairwise_iff_getElem.mp nd j i (by rw [List.length_map]; omega) (by rw [List.length_map]; exact h) (by omega)
  rw [List.getElem_map, List.getElem_map] at q
  exact q e
theorem scWips : FnScope ["points", "earlier", "k", "point", "wrong"] ["points"] (defScope sWips) := ⟨rfl, rfl, rfl, by decide +kernel, rfl, by decide +kernel, by decide +kernel⟩
theorem ok_wips {f : Addr} {fd : FuncData} (F : Fun K "wrong_in_points" "wrong_in_points" sWips f fd) (T : Wds mg) (wip : Cf P w K mg base 2 "wrong_in_point" spWip) : FnOk P w K mg base CX0 3 f fd ["points"] spWips := by
  refine F.ok scWips (fun vs H Q E h => ?_) (fun cdv A outer s H vs Q E hr h => ?_)
  · obtain ⟨p, as, ps, rfl, _⟩ := h
    rfl
  · obtain ⟨p, as, ps, rfl, hp, row, oks, nod, few, k⟩ := h
    have hu := hu_of hr
    refine ⟨_, (pss_cons (ps_if (pt_not (pt_val (pe_callB call_isiT (by rfl) T.zisinstance (by decide +kernel) (pa_cons (pv 0) (pa_cons (pe_tup (pa_cons (pe_bltn (v := .ty "list") (by rfl) T.zlist (by decide +kernel) rfl) (pa_cons (pe_bltn (v := .ty "tuple") (by rfl) T.ztuple (by decide +kernel) rfl) pa_nil))) pa_nil))))) (pss_one (ps_ret (pe_tup (pa_cons pe_int pa_nil)))) pss_nil)
      (pss_cons (ps_set (i := 1) scWips.nd rfl (.inl rfl) pe_dnewK)
      (pss_cons (ps_for PassesOwn.never rfl (pi_enum (by rfl) T.zenumerate (pa_cons (pv 0) pa_nil)) (pg_tup (by rfl) (pgs_cons (pg_name (i := 2) scWips.nd rfl (.inl rfl)) (pgs_cons (pg_name (i := 3) scWips.nd rfl (.inl rfl)) pgs_nil)))
        (pss_cons (ps_set (i := 4) scWips.nd rfl (.inl rfl) (pe_f wip hr (by decide) (by rfl) (pa_cons (pv 3) (pa_cons (pv 1) pa_nil))))
        (pss_cons (ps_if (pt_cmpR op_notN (pv 4) pe_non (nomark _)) (pss_one (ps_ret (pe_op op_add (pe_tup (pa_cons pe_int (pa_cons (pv 2) pa_nil))) (pv 4)))) pss_nil)
        (pss_one (ps_dput hu (pv 1) (pe_ix ix_tup (pv 3) pe_int (fun _ _ => rfl)) pe_bl rfl)))))
      (pss_one (ps_ret pe_non))))), ?_⟩
    refine ⟨_, rfl, (by show 2 ≤ sizeLine; decide), fun tp nt => ?_⟩
    have s1 := same_new (o := .tup [.ty "list", .ty "tuple"]) nt
    refine ⟨_, tp, _, .type "list", _, true, rfl, upd_same, .cons (.ty _) (.cons (.ty _) .nil), .base (.lst (s1 _ _ hp)), kitLT (.inl rfl), true, rfl, iteF ?_⟩
    intro d nd
    have s2 := s1.trans (same_new (o := .dK []) nd)
    refine ⟨_, rfl, p, _, rfl, SqL.of (s2 _ _ hp), ?_⟩
    refine for_it walk_enum (fun i σ H2 => ∃ (v2 v3 v4 : Option V) (kvs : List (Key × V)), σ = [some (.ref p), some (.ref d), v2, v3, v4] ∧ Same H H2 ∧ H2 d = some (.dK kvs) ∧ kvs.length ≤ i ∧ ∀ x, valV kvs (Sum.inr x) ≠ none → x ∈ (ps.take i).map (·.1))
      ⟨_, _, _, [], rfl, s2, upd_same, Nat.le_refl _, fun x z => absurd rfl z⟩ (fun i σ H2 _ ⟨_, _, _, _, _, s3, _⟩ => SqL.of (s3 _ _ hp)) ?_ ?_
    · rintro i y σ H2 H3 hi ⟨v2, v3, v4, kvs, rfl, s3, hd, le, inn⟩ ⟨t, x1, x2, rfl, ht, rfl, h1, h2⟩
      obtain rfl : V.int (i : Nat) = x1 := Option.some.inj h1
      have hi' : i < as.length := by rw [List.length_map] at hi; exact hi
      have hip : i < ps.length := by rw [← row.1]; exact hi'
      obtain rfl : V.ref as[i] = x2 := by
        have h2 : (as.map V.ref)[i]? = some x2 := h2
        rw [List.getElem?_map, List.getElem?_eq_getElem hi'] at h2
        exact Option.some.inj h2
      have pa : H as[i] = some (ptV ps[i]) := row.2 i _ _ (List.getElem?_eq_getElem hi') (List.getElem?_eq_getElem hip)
      have s4 : Same H (upd H2 t (.tup [.int (i : Nat), .ref as[i]])) := s3.trans (same_new ht)
      have hd4 : (upd H2 t (.tup [.int (i : Nat), .ref as[i]])) d = some (.dK kvs) := by
        rw [upd_ne (ne_of_none hd ht)]
        exact hd
      refine ⟨t, _, rfl, SqT.of upd_same, rfl, _, _, rfl, _, _, rfl, rfl, ?_⟩
      have no : valV kvs (Sum.inr ps[i].1) = none := by
        cases e : valV kvs (Sum.inr ps[i].1) with
        | none => rfl
        | some z => exact absurd (inn ps[i].1 (by rw [e]; simp)) (nodup_at nod hip)
      refine ⟨_, rfl, _, rfl, as[i], d, ps[i], kvs, rfl, s4 _ _ pa, oks _ (List.getElem_mem hip), hd4, no, fun H5 s5 => ?_⟩
      refine ⟨_, rfl, rfl, false, rfl, iteF ?_⟩
      have pa5 : H5 as[i] = some (.tup [.str ps[i].1, .int ps[i].2.1, .int ps[i].2.2]) := s5 _ _ (s4 _ _ pa)
      have nd0 : H d = none := s1.free nd
      refine ⟨_, rfl, _, rfl, as[i], _, 0, _, rfl, rfl, SqT.of pa5, rfl, d, _, rfl, DPut.k (k := Sum.inr ps[i].1) (s5 _ _ hd4) (small1000 (by omega)), ?_⟩
      refine ⟨_, _, _, _, rfl, fun b o q => by rw [upd_ne (ne_of_none q nd0)]; exact (s4.trans s5) b o q, upd_same, Nat.le_trans (length_putK _ _ _) (Nat.succ_le_succ le), fun x hx => ?_⟩
      rw [valV_put] at hx
      rw [List.take_succ, List.getElem?_eq_getElem hip, List.map_append]
      by_cases e : (Sum.inr x : Key) = Sum.inr ps[i].1
      · rw [Sum.inr.inj e]
        exact List.mem_append.mpr (.inr (by simp))
      · rw [if_neg e] at hx
        exact List.mem_append.mpr (.inl (inn x hx))
    · rintro σ H2 ⟨v2, v3, v4, kvs, rfl, s3, hd, le, inn⟩
      exact k H2 s3
theorem scWirs : FnScope ["rules", "names", "k", "rule", "wrong"] ["rules", "names"] (defScope sWirs) := ⟨rfl, rfl, rfl, by decide +kernel, rfl, by decide +kernel, by decide +kernel⟩
theorem ok_wirs {f : Addr} {fd : FuncData} (F : Fun K "wrong_in_rules" "wrong_in_rules" sWirs f fd) (T : Wds mg) (wir : Cf P w K mg base 2 "wrong_in_rule" spWir) : FnOk P w K mg base CX0 3 f fd ["rules", "names"] spWirs := by
  refine F.ok scWirs (fun vs H Q E h => ?_) (fun cdv A outer s H vs Q E hr h => ?_)
  · obtain ⟨p, e, as, rs, kvs, rfl, _⟩ := h
    rfl
  · obtain ⟨p, e, as, rs, kvs, rfl, hp, row, he, oks, k⟩ := h
    refine ⟨_, (pss_cons (ps_if (pt_not (pt_val (pe_callB call_isiT (by rfl) T.zisinstance (by decide +kernel) (pa_cons (pv 0) (pa_cons (pe_tup (pa_cons (pe_bltn (v := .ty "list") (by rfl) T.zlist (by decide +kernel) rfl) (pa_cons (pe_bltn (v := .ty "tuple") (by rfl) T.ztuple (by decide +kernel) rfl) pa_nil))) pa_nil))))) (pss_one (ps_ret (pe_tup (pa_cons pe_int pa_nil)))) pss_nil)
      (pss_cons (ps_for PassesOwn.never rfl (pi_enum (by rfl) T.zenumerate (pa_cons (pv 0) pa_nil)) (pg_tup (by rfl) (pgs_cons (pg_name (i := 2) scWirs.nd rfl (.inl rfl)) (pgs_cons (pg_name (i := 3) scWirs.nd rfl (.inl rfl)) pgs_nil)))
        (pss_cons (ps_set (i := 4) scWirs.nd rfl (.inl rfl) (pe_f wir hr (by decide) (by rfl) (pa_cons (pv 3) (pa_cons (pv 1) pa_nil))))
        (pss_one (ps_if (pt_cmpR op_notN (pv 4) pe_non (nomark _)) (pss_one (ps_ret (pe_op op_add (pe_tup (pa_cons pe_int (pa_cons (pv 2) pa_nil))) (pv 4)))) pss_nil))))
      (pss_one (ps_ret pe_non)))), ?_⟩
    refine ⟨_, rfl, (by show 2 ≤ sizeLine; decide), fun tp nt => ?_⟩
    have s1 := same_new (o := .tup [.ty "list", .ty "tuple"]) nt
    refine ⟨_, tp, _, .type "list", _, true, rfl, upd_same, .cons (.ty _) (.cons (.ty _) .nil), .base (.lst (s1 _ _ hp)), kitLT (.inl rfl), true, rfl, iteF ?_⟩
    refine ⟨_, rfl, p, _, rfl, SqL.of (s1 _ _ hp), ?_⟩
    refine for_it walk_enum (fun i σ H2 => ∃ (v2 v3 v4 : Option V), σ = [some (.ref p), some (.ref e), v2, v3, v4] ∧ Same H H2)
      ⟨_, _, _, rfl, s1⟩ (fun i σ H2 _ ⟨_, _, _, _, s3⟩ => SqL.of (s3 _ _ hp)) ?_ ?_
    · rintro i y σ H2 H3 hi ⟨v2, v3, v4, rfl, s3⟩ ⟨t, x1, x2, rfl, ht, rfl, h1, h2⟩
      obtain rfl : V.int (i : Nat) = x1 := Option.some.inj h1
      have hi' : i < as.length := by rw [List.length_map] at hi; exact hi
      have hip : i < rs.length := by rw [← row.1]; exact hi'
      obtain rfl : V.ref as[i] = x2 := by
        have h2 : (as.map V.ref)[i]? = some x2 := h2
        rw [List.getElem?_map, List.getElem?_eq_getElem hi'] at h2
        exact Option.some.inj h2
      have pa : H as[i] = some (rlV rs[i]) := row.2 i _ _ (List.getElem?_eq_getElem hi') (List.getElem?_eq_getElem hip)
      have s4 : Same H (upd H2 t (.tup [.int (i : Nat), .ref as[i]])) := s3.trans (same_new ht)
      obtain ⟨i1, i2⟩ := oks _ (List.getElem_mem hip)
      refine ⟨t, _, rfl, SqT.of upd_same, rfl, _, _, rfl, _, _, rfl, rfl, ?_⟩
      refine ⟨_, rfl, _, rfl, as[i], e, rs[i], kvs, rfl, s4 _ _ pa, s4 _ _ he, i1, i2, fun H5 s5 => ?_⟩
      exact ⟨_, rfl, rfl, false, rfl, iteF ⟨_, _, _, rfl, s4.trans s5⟩⟩
    · rintro σ H2 ⟨v2, v3, v4, rfl, s3⟩
      exact k H2 s3

end
end K06
namespace Rt
open PySem PySem.Spec L2
open PyProof.Rows hiding St
/-! ### a dict comprehension over any walk -/
section
variable {J : It} {n : Nat} {G : Hp → Prop} {Y : Nat → Hp → V → Hp → Prop}
theorem dc_it (wk : Walk J n G Y) {g : TG} {tt : TT} {tk tv : TE} {vs : List Nat} {σ : L2.St} {H1 : Hp} {D : Addr} {Qd : Hp → Prop} (Pv : Nat → Hp → Prop) (start : Pv 0 (upd H1 D (.dK []))) (good : ∀ i H, i ≤ n → Pv i H → G H)
    (turn : ∀ i x H H', i < n → Pv i H → Y i H x H' → g x (wipe σ vs) H' fun σ2 H2 => wipe σ2 vs = wipe σ vs ∧ tt σ2 H2 fun b H3 =>
      if b = true then tk σ2 H3 fun y H4 => tv σ2 H4 fun z H5 => ∃ kvs k, y = kV k ∧ H5 D = some (.dK kvs) ∧ kvs.length < sizeLine ∧ Pv (i + 1) (upd H5 D (.dK (putK kvs k z))) else Pv (i + 1) H3) (fin : ∀ H, Pv n H → Qd H) :
    ∃ W : Nat → Nat → Hp → Prop, (∃ m, W 0 m (upd H1 D (.dK []))) ∧ ∀ i m H, W i m H →
      (J.stop i H ∧ Qd H) ∨ (J.go i H ∧ ∃ Nx : Hp → Prop, (∀ H', Nx H' → ∃ m', m' < m ∧ W (i + 1) m' H') ∧ ∀ x H', J.yld i H x H' → g x (wipe σ vs) H' fun σ2 H2 => wipe σ2 vs = wipe σ vs ∧ tt σ2 H2 fun b H3 =>
        if b = true then tk σ2 H3 fun y H4 => tv σ2 H4 fun z H5 => ∃ kvs k, y = kV k ∧ H5 D = some (.dK kvs) ∧ kvs.length < sizeLine ∧ Nx (upd H5 D (.dK (putK kvs k z))) else Nx H3) := by
  refine ⟨fun i m H => m + i = n ∧ Pv i H, ⟨n, rfl, start⟩, fun i m H ⟨e, p⟩ => ?_⟩
  have q := good i H (by omega) p
  rcases Nat.lt_or_ge i n with lt | ge
  · exact .inr ⟨wk.goes i H lt q, Pv (i + 1), fun H' p' => ⟨m - 1, by omega, by omega, p'⟩, fun x H' y => turn i x H H' lt p (wk.yields i H x H' lt q y)⟩
  · obtain rfl : i = n := by omega
    exact .inl ⟨wk.stops H q, fin H p⟩
end
/-! ### a tuple as a target within a comprehension -/
theorem pg_tk {X : Cx} {K : PySem.W.Frag} {es : List Expr} {k n : Nat} {t : TGs} {pos : Pos} (hK : X.K = K) (hc : X.calm = true) (h : PGs X es t) (hn : (assignEach es X.env).length = n) (hst : (assignEach es X.env).findIdx? (·.1) = none) : PG X (.Tuple es k pos) (gTup K n t) := by
  subst hK
  exact pg_tup hc h hn hst
/-! ### tuple(..) within a comprehension -/
def rTup (K : PySem.W.Frag) : List V → Hp → VK → Prop := fun vs H Q =>
  ∃ (b : Addr) (us : List V), vs = [.ref b] ∧ ((SqL K H b us ∧ ∀ n, H n = none → Q (.ref n) (upd H n (.tup us))) ∨ (SqT K H b us ∧ Q (.ref b) H))
theorem call_tupK {X : Cx} {K : PySem.W.Frag} (hK : X.K = K) : CallR X (.type "tuple") (rTup K) := by
  subst hK
  exact call_tuple_of
/-! ### name = {..: .. for ..} on one line -/
theorem sw_dict {a b : Expr} {gs : List Comprehension} {sc : Scope} {q qn : Pos} {n : Str} {line : Nat} {env : Env} (kind : env.scope.kind = .function) (loc : env.scope.names.lookup n = some .local) (same : (qn.line == q.line) = true)
    (other : (sc.names.any fun (m, k) => m == n && (k == .local || k == .cell)) = false) : swapsWith (.DictComp a b gs sc q) (some (.Name n qn)) line env = pure true := by
  have e1 : env.kindOf n = some .local := loc
  have e2 : env.blockKind = .function := by
    show env.blockKind = _
    unfold Env.blockKind
    rw [kind]
    rfl
  simp only [swapsWith, e1, e2, other, Expr.pos, same]
  rfl
theorem ps_setDc {X : Cx} {i : Nat} {n : Str} {qn q qs : Pos} {ke ve tg it : Expr} {cs : List Expr} {sc : Scope} {own : List (Str × Nat)} {wi : TI} {g : TG} {tt : TT} {tk tv : TE} (cm : X.calm = true) (nd : X.N.Nodup) (at_ : X.N[i]? = some n)
    (loc : X.env.scope.names.lookup n = some .local) (sw : swapsWith (.DictComp ke ve [⟨tg, it, cs, 0⟩] sc q) (some (.Name n qn)) qs.line X.env = pure true) (pi : PI X tg it wi) (bo : BlkOk X.N X.env.scope sc own)
    (pg : ∀ (s : Shared) (H : Hp) (C : Addr) (cl : List (Str × Addr)) (fp : List Addr), PG (X.blk s H sc (compEnvC sc cl C X.env) fp) tg g) (pt : ∀ (s : Shared) (H : Hp) (C : Addr) (cl : List (Str × Addr)) (fp : List Addr), PTs (X.blk s H sc (compEnvC sc cl C X.env) fp) cs tt)
    (pk : ∀ (s : Shared) (H : Hp) (C : Addr) (cl : List (Str × Addr)) (fp : List Addr), PE (X.blk s H sc (compEnvC sc cl C X.env) fp) ke tk)
    (pv : ∀ (s : Shared) (H : Hp) (C : Addr) (cl : List (Str × Addr)) (fp : List Addr), PE (X.blk s H sc (compEnvC sc cl C X.env) fp) ve tv) (fo : ∀ x, foldedSetIterable it X.env x = pure x := by intro _; rfl) :
    PS X (.Assign [.Name n qn] (.DictComp ke ve [⟨tg, it, cs, 0⟩] sc q) qs) (tAsg (tDc wi g tt tk tv (own.map (·.2))) (gName i)) := by
  constructor
  intro pins s σ H D I want
  rw [exec_Assign_Name_used _ _ _ _ sw]
  refine wpAny_bind (wpAny_standAt ?_)
  refine wpAny_bind ?_
  show wpAny _ X.A (do
    let _ ← comprehension (.DictComp ke ve [⟨tg, it, cs, 0⟩] sc q) sc X.env (firstIterPos [⟨tg, it, cs, 0⟩] q) newDict false (eval it X.env) (some (assign (.Name n qn) X.env))) _ _ s
  have want' : tDc wi g tt tk tv (own.map (·.2)) σ H (fun x H1 => gName i x σ H1 D.nx) := want
  refine wpAny_bind (thn (dc_core (Qf := fun _ z => SP X pins D .next z) cm nd I pi bo pg pt pk pv fo want' ?_) fun _ z y => wpAny_pure (wpAny_pure y))
  intro L C t m H' J now hn f
  show wpAny _ _ (assign (.Name n qn) X.env (.ref L)) _ _ _
  refine wpAny_assign_Name (store_ok2 (v := V.ref L) J nd at_ (.inl loc) rfl ?_ (.inr loc))
  intro u J2 ⟨b, only, hb⟩
  obtain ⟨f0, f1, f2, f3, f4, f5⟩ := f
  have away : C ≠ b := by
    rcases hb with z | z
    · exact z ▸ f1
    · exact fun e => f4 n b z e.symm
  refine ⟨m, hn.sameBut only away, fun h3 only3 => ⟨_, H', ?_, now⟩⟩
  exact J2.turned (t' := u.toks) (fun c o hc e => (only3.2 c hc).trans e) f0 f1 f3 f4 f5
/-! ### methods and makers that may be called under any guards -/
structure Md (P : Program) (w : World) (K : PySem.W.Frag) (mg : Str → Option Value) (base : Heap) (k : Nat) (C : Addr) (m : Str) (sp : Sp) : Prop where
  ex : ∃ (f : Addr) (fd : FuncData) (ps : List Str), Meth K C m f ∧ FnOk P w K mg base CX0 k f fd ps sp ∧ Binds K fd ps []
structure Mkr (P : Program) (w : World) (K : PySem.W.Frag) (mg : Str → Option Value) (base : Heap) (k : Nat) (C : Addr) (x : Str) (sp : Sp) : Prop where
  ex : ∃ (f : Addr) (fd : FuncData) (ps : List Str), L2.Mk K C f ∧ mg x = some (.ref C) ∧ FnOk P w K mg base CX0 k f fd ps sp ∧ Binds K fd ps []
section
variable {X : Cx} {k j : Nat} {C : Addr} {m x : Str} {sp : Sp} {p pos apos : Pos} {o e : Expr} {es : List Expr} {ta : TE} {t : TA}
theorem pe_m {pl : Sem Bool} (c : Cls X.K C) (M : Md X.prog X.w X.K X.mg X.base k C m sp) (hr : Room j X.A) (hk : k ≤ j) (he : PE X o ta) (ha : PA X (e :: es) t)
    (hst : starEach (e :: es) X.env = (false, eval e X.env) :: starEach es X.env := by rfl) (hpl : (backTo pos (starEach es X.env)).any (·.1) = false := by rfl)
    (ht : eval (.Call (.Attribute o m apos) (e :: es) [] pos) X.env = (do
      let ov ← eval o X.env
      standAt apos.atName
      let (f, first) ← holding [ov] (getMethod ov m pl)
      callWith pos f first (backTo pos (starEach (e :: es) X.env)) (backToKw pos (keywordEach [] X.env))) := by rfl) :
    PE X (.Call (.Attribute o m apos) (e :: es) [] pos) (tMeth C m sp [] E0 ta t) := by
  obtain ⟨f, fd, ps, hm, F, b⟩ := M.ex
  exact pe_meth he c hm F (hr.mono hk) b .nil (fun _ _ _ _ _ _ _ z => z.elim) ha hst hpl ht
theorem pe_m0' {pl : Sem Bool} (c : Cls X.K C) (M : Md X.prog X.w X.K X.mg X.base k C m sp) (hr : Room j X.A) (hk : k ≤ j) (he : PE X o ta)
    (ht : eval (.Call (.Attribute o m apos) [] [] pos) X.env = (do
      let ov ← eval o X.env
      standAt apos.atName
      let (f, first) ← holding [ov] (getMethod ov m pl)
      callWith pos f first (backTo pos (starEach [] X.env)) (backToKw pos (keywordEach [] X.env))) := by rfl) :
    PE X (.Call (.Attribute o m apos) [] [] pos) (tMeth C m sp [] E0 ta tNil) := by
  obtain ⟨f, fd, ps, hm, F, b⟩ := M.ex
  exact pe_meth0 he c hm F (hr.mono hk) b .nil (fun _ _ _ _ _ _ _ z => z.elim) ht
theorem pe_mkr (M : Mkr X.prog X.w X.K X.mg X.base k C x sp) (hr : Room j X.A) (hk : k + 1 ≤ j) (hg : Gl X x) (ha : PA X (e :: es) t)
    (hdb : (x == ("__debug__" : Str)) = false := by decide) (he : starEach (e :: es) X.env = (false, eval e X.env) :: starEach es X.env := by rfl) (hpl : (backTo pos (starEach es X.env)).any (·.1) = false := by rfl) :
    PE X (.Call (.Name x p) (e :: es) [] pos) (tMake C sp [] E0 t) := by
  obtain ⟨f, fd, ps, mk, hm, F, b⟩ := M.ex
  exact pe_make mk F (hr.mono hk) hg hm b .nil (fun _ _ _ _ _ _ _ z => z.elim) ha hdb he hpl
end
end Rt
namespace K06
open PySem PySem.Spec L2 Rt
open PyProof.Rows hiding St
abbrev sNet (j : Nat) : Stmt := inClass (top 26) j
abbrev sInit : Stmt := inClass (top 26) 0
/-! ### places -/
def placesFrom : Nat → List Str → List (Key × V)
  | _, [] => []
  | k, x :: r => (Sum.inr x, V.int (k : Nat)) :: placesFrom (k + 1) r
theorem places_len : ∀ (l : List Str) (k : Nat), (placesFrom k l).length = l.length
  | [], _ => rfl
  | _ :: l, k => congrArg (· + 1) (places_len l (k + 1))
theorem places_app (x : Str) : ∀ (l : List Str) (k : Nat), placesFrom k (l ++ [x]) = placesFrom k l ++ [(Sum.inr x, V.int ((k + l.length : Nat) : Int))]
  | [], k => rfl
  | y :: l, k => by
    show _ :: placesFrom (k + 1) (l ++ [x]) = _
    rw [places_app x l (k + 1)]
    show _ = (Sum.inr y, V.int (k : Nat)) :: (placesFrom (k + 1) l ++ [(Sum.inr x, V.int ((k + (l.length + 1) : Nat) : Int))])
    rw [show k + 1 + l.length = k + (l.length + 1) by omega]
theorem places_no {x : Str} : ∀ (l : List Str) (k : Nat), x ∉ l → valV (placesFrom k l) (Sum.inr x) = none
  | [], _, _ => rfl
  | y :: l, k, h => by
    show valV ((Sum.inr y, V.int (k : Nat)) :: placesFrom (k + 1) l) _ = _
    rw [valV_neg (fun e => h (by cases e; exact List.mem_cons_self))]
    exact places_no l (k + 1) fun m => h (List.mem_cons_of_mem _ m)
theorem places_at : ∀ (l : List Str) (k i : Nat) (h : i < l.length), l.Nodup → valV (placesFrom k l) (Sum.inr l[i]) = some (V.int ((k + i : Nat) : Int))
  | [], _, _, h, _ => absurd h (by simp)
  | y :: l, k, 0, _, _ => by
    show valV ((Sum.inr y, V.int (k : Nat)) :: placesFrom (k + 1) l) (Sum.inr y) = _
    rw [valV_pos rfl]
    rfl
  | y :: l, k, i + 1, h, nd => by
    have nd' := List.nodup_cons.mp nd
    have hi : i < l.length := Nat.lt_of_succ_lt_succ h
    show valV ((Sum.inr y, V.int (k : Nat)) :: placesFrom (k + 1) l) (Sum.inr l[i]) = _
    rw [valV_neg (fun e => nd'.1 (by cases e; exact List.getElem_mem hi)), places_at l (k + 1) i hi nd'.2]
    rw [show k + 1 + i = k + (i + 1) by omega]
theorem places_some {l : List Str} {x : Str} (nd : l.Nodup) (m : x ∈ l) : (valV (placesFrom 0 l) (Sum.inr x)).isSome = true := by
  obtain ⟨i, hi, e⟩ := List.getElem_of_mem m
  rw [← e, places_at l 0 i hi nd]
  rfl
/-! ### what a network is -/
abbrev namesOf (ps : List Pt) : List Str := ps.map (·.1)
structure Good (ps : List Pt) (rs : List Rl) : Prop where
  ok : ∀ x, x ∈ ps → PtOk x
  nd : (namesOf ps).Nodup
  few : ps.length ≤ 100
  ends : ∀ r, r ∈ rs → r.1 ∈ namesOf ps ∧ r.2.1 ∈ namesOf ps
  fewR : rs.length ≤ 1000
structure NetAt (H : Hp) (C a : Addr) (ps : List Pt) (rs : List Rl) : Prop where
  ex : ∃ (dx PA RA DA : Addr) (as bs : List Addr), H a = some (.ins C dx [("_points", .ref PA), ("_rules", .ref RA), ("_places", .ref DA)]) ∧ H PA = some (.tup (as.map V.ref)) ∧ H RA = some (.tup (bs.map V.ref)) ∧
    H DA = some (.dK (placesFrom 0 (namesOf ps))) ∧ Row ptV H as ps ∧ Row rlV H bs rs
theorem NetAt.same {H H' : Hp} {C a : Addr} {ps : List Pt} {rs : List Rl} (h : NetAt H C a ps rs) (s : Same H H') : NetAt H' C a ps rs := by
  obtain ⟨dx, PA, RA, DA, as, bs, h1, h2, h3, h4, h5, h6⟩ := h.ex
  exact ⟨dx, PA, RA, DA, as, bs, s _ _ h1, s _ _ h2, s _ _ h3, s _ _ h4, h5.same s, h6.same s⟩
def Sbut (a : Addr) (H H' : Hp) : Prop := ∀ b o, H b = some o → b ≠ a → H' b = some o
theorem Sbut.refl {a : Addr} {H : Hp} : Sbut a H H := fun _ _ e _ => e
theorem Sbut.trans {a : Addr} {H H1 H2 : Hp} (x : Sbut a H H1) (y : Sbut a H1 H2) : Sbut a H H2 := fun b o e n => y b o (x b o e n) n
theorem Sbut.of {a : Addr} {H H' : Hp} (s : Same H H') : Sbut a H H' := fun b o e _ => s b o e
theorem Sbut.put {a : Addr} {o : HO} {H : Hp} : Sbut a H (upd H a o) := fun b u e n => by
  rw [upd_ne n]
  exact e
theorem Row.but {α : Type} {f : α → HO} {a : Addr} {H H' : Hp} {as : List Addr} {ps : List α} (r : Row f H as ps) (s : Sbut a H H') (n : a ∉ as) : Row f H' as ps :=
  ⟨r.1, fun i b p h1 h2 => s _ _ (r.2 i b p h1 h2) fun e => n (e ▸ List.mem_of_getElem? h1)⟩
theorem row_not {α : Type} {f : α → HO} {a : Addr} {o : HO} {H : Hp} {as : List Addr} {ps : List α} (r : Row f H as ps) (h : H a = some o) (d : ∀ p, o ≠ f p) : a ∉ as := fun m => by
  obtain ⟨i, hi, e⟩ := List.getElem_of_mem m
  have hp : i < ps.length := by rw [← r.1]; exact hi
  have q := r.2 i a ps[i] (by rw [List.getElem?_eq_getElem hi, e]) (List.getElem?_eq_getElem hp)
  rw [h] at q
  exact d _ (Option.some.inj q)
def spInit (C : Addr) : Sp := fun vs H Q _ => ∃ (a dx p q : Addr) (as bs : List Addr) (ps : List Pt) (rs : List Rl), vs = [.ref a, .ref p, .ref q] ∧ H a = some (.ins C dx []) ∧ H p = some (.lst (as.map V.ref)) ∧ H q = some (.lst (bs.map V.ref)) ∧
  Row ptV H as ps ∧ Row rlV H bs rs ∧ Good ps rs ∧ ∀ H', Sbut a H H' → NetAt H' C a ps rs → Q .non H'
theorem putF_2 {x y : V} : putF "_rules" y [(("_points" : Str), x)] = [(("_points" : Str), x), (("_rules" : Str), y)] := by
  simp only [putF]
  rw [if_neg (by decide +kernel)]
theorem putF_3 {x y z : V} : putF "_places" z [(("_points" : Str), x), (("_rules" : Str), y)] = [(("_points" : Str), x), (("_rules" : Str), y), (("_places" : Str), z)] := by
  simp only [putF]
  rw [if_neg (by decide +kernel), if_neg (by decide +kernel)]
structure ClsN (K : PySem.W.Frag) (C : Addr) : Prop where
  cls : Cls K C
  n1 : NoAttr K C "_points"
  n2 : NoAttr K C "_rules"
  n3 : NoAttr K C "_places"
section
variable {P : Program} {w : World} {K : PySem.W.Frag} {mg : Str → Option Value} {base : Heap}
theorem scInit : FnScope ["self", "points", "rules", "wrong", "places", "k", "point", "rule"] ["self", "points", "rules"] (defScope sInit) := ⟨rfl, rfl, rfl, by decide +kernel, rfl, by decide +kernel, by decide +kernel⟩
theorem ok_init {f C : Addr} {fd : FuncData} (F : Fun K "__init__" "Network.__init__" sInit f fd) (T : Wds mg) (cn : ClsN K C) (wips : Cf P w K mg base 3 "wrong_in_points" spWips) (wirs : Cf P w K mg base 3 "wrong_in_rules" spWirs) : FnOk P w K mg base CX0 4 f fd ["self", "points", "rules"] (spInit C) := by
  refine F.ok scInit (fun vs H Q E h => ?_) (fun cdv A outer s H vs Q E hr h => ?_)
  · obtain ⟨a, dx, p, q, as, bs, ps, rs, rfl, _⟩ := h
    rfl
  · obtain ⟨a, dx, p, q, as, bs, ps, rs, rfl, ha, hp, hq, row, rowR, good, k⟩ := h
    refine ⟨_, (pss_cons (ps_set (i := 3) scInit.nd rfl (.inl rfl) (pe_f wips hr (by decide) (by rfl) (pa_cons (pv 1) pa_nil)))
      (pss_cons (ps_if (pt_cmpR op_notN (pv 3) pe_non (nomark _)) (pss_one ps_never) pss_nil)
      (pss_cons (ps_setDc (i := 4) (own := [("k", 5), ("point", 6)]) rfl scInit.nd rfl rfl (sw_dict rfl rfl rfl (by decide +kernel)) (pi_enum (by rfl) T.zenumerate (pa_cons (pv 1) pa_nil)) (blkOk_by (N := ["self", "points", "rules", "wrong", "places", "k", "point", "rule"]) (sc := defScope sInit) (by decide +kernel)) (fun _ _ _ _ _ => (pg_tk (K := K) (n := 2) rfl (by rfl) (pgs_cons (pg_name (i := 5) scInit.nd rfl (.inl rfl)) (pgs_cons (pg_name (i := 6) scInit.nd rfl (.inl rfl)) pgs_nil)) (by rfl) (by rfl))) (fun _ _ _ _ _ => pts_nil) (fun _ _ _ _ _ => (pe_ix (ix_tup : IxR _ (rIxT K)) (pv 6) pe_int (fun _ _ => rfl))) (fun _ _ _ _ _ => (pv 5)))
      (pss_cons (ps_set (i := 3) scInit.nd rfl (.inl rfl) (pe_f wirs hr (by decide) (by rfl) (pa_cons (pv 2) (pa_cons (pv 4) pa_nil))))
      (pss_cons (ps_if (pt_cmpR op_notN (pv 3) pe_non (nomark _)) (pss_one ps_never) pss_nil)
      (pss_cons (ps_fld (pv 0) (pe_callTy call_tuple_of (by rfl) T.ztuple (by decide +kernel) (pa_cons (pe_lc (own := [("point", 6)]) (by rfl) scInit.nd (pi_list (pv 1)) (blkOk_by (N := ["self", "points", "rules", "wrong", "places", "k", "point", "rule"]) (sc := defScope sInit) (by decide +kernel)) (fun _ _ _ _ _ => (pg_name (i := 6) scInit.nd rfl (.inl rfl))) (fun _ _ _ _ _ => pts_nil) (fun _ _ _ _ _ => (pe_callTy (call_tupK (K := K) rfl) (by rfl) T.ztuple (by decide +kernel) (pa_cons (pv 6) pa_nil)))) pa_nil)) (by rfl))
      (pss_cons (ps_fld (pv 0) (pe_callTy call_tuple_of (by rfl) T.ztuple (by decide +kernel) (pa_cons (pe_lc (own := [("rule", 7)]) (by rfl) scInit.nd (pi_list (pv 2)) (blkOk_by (N := ["self", "points", "rules", "wrong", "places", "k", "point", "rule"]) (sc := defScope sInit) (by decide +kernel)) (fun _ _ _ _ _ => (pg_name (i := 7) scInit.nd rfl (.inl rfl))) (fun _ _ _ _ _ => pts_nil) (fun _ _ _ _ _ => (pe_callTy (call_tupK (K := K) rfl) (by rfl) T.ztuple (by decide +kernel) (pa_cons (pv 7) pa_nil)))) pa_nil)) (by rfl))
      (pss_one (ps_fld (pv 0) (pv 4) (by rfl)))))))))), ?_⟩
    refine ⟨_, rfl, p, as, ps, rfl, hp, row, good.ok, good.nd, good.few, fun H1 s1 => ?_⟩
    refine ⟨_, rfl, rfl, false, rfl, iteF ?_⟩
    refine ⟨_, rfl, p, _, rfl, SqL.of (s1 _ _ hp), fun D nD => ?_⟩
    refine dc_it walk_enum (fun i H2 => Same H1 H2 ∧ H2 D = some (.dK (placesFrom 0 ((namesOf ps).take i)))) ⟨same_new nD, upd_same⟩ (fun i H2 _ z => SqL.of (z.1 _ _ (s1 _ _ hp))) ?_ ?_
    · rintro i y H2 H3 hi ⟨s2, hD⟩ ⟨t, x1, x2, rfl, ht, rfl, h1, h2⟩
      obtain rfl : V.int (i : Nat) = x1 := Option.some.inj h1
      have hi' : i < as.length := by rw [List.length_map] at hi; exact hi
      have hip : i < ps.length := by rw [← row.1]; exact hi'
      obtain rfl : V.ref as[i] = x2 := by
        have h2 : (as.map V.ref)[i]? = some x2 := h2
        rw [List.getElem?_map, List.getElem?_eq_getElem hi'] at h2
        exact Option.some.inj h2
      have pa : H as[i] = some (.tup [.str ps[i].1, .int ps[i].2.1, .int ps[i].2.2]) := row.2 i _ _ (List.getElem?_eq_getElem hi') (List.getElem?_eq_getElem hip)
      have s4 : Same H (upd H2 t (.tup [.int (i : Nat), .ref as[i]])) := (s1.trans s2).trans (same_new ht)
      have hD4 : (upd H2 t (.tup [.int (i : Nat), .ref as[i]])) D = some (.dK (placesFrom 0 ((namesOf ps).take i))) := by
        rw [upd_ne (ne_of_none hD ht)]
        exact hD
      refine ⟨t, _, rfl, SqT.of upd_same, rfl, _, _, rfl, _, _, rfl, rfl, ?_⟩
      refine ⟨rfl, _, rfl, as[i], _, 0, _, rfl, rfl, SqT.of (s4 _ _ pa), rfl, _, rfl, _, Sum.inr ps[i].1, rfl, hD4, small1000 (by rw [places_len, List.length_take]; have := good.few; omega), ?_, ?_⟩
      · exact fun b o z => by rw [upd_ne (ne_of_none z nD)]; exact (s2.trans (same_new ht)) b o z
      · have no : ps[i].1 ∉ (namesOf ps).take i := by
          rw [← List.map_take]
          exact nodup_at good.nd hip
        rw [upd_same, putK_new _ (places_no _ _ no), List.take_succ, show (namesOf ps)[i]? = some ps[i].1 by rw [List.getElem?_map, List.getElem?_eq_getElem hip]; rfl]
        show _ = some (HO.dK (placesFrom 0 ((namesOf ps).take i ++ [ps[i].1])))
        rw [places_app, List.length_take, Nat.zero_add, Nat.min_eq_left (by rw [List.length_map]; omega)]
    · rintro H2 ⟨s2, hD⟩
      have e1 : (namesOf ps).take (as.map V.ref).length = namesOf ps := List.take_of_length_le (by rw [List.length_map, List.length_map, row.1]; exact Nat.le_refl _)
      rw [e1] at hD
      have t2 := s1.trans s2
      refine ⟨_, rfl, _, rfl, q, D, bs, rs, _, rfl, t2 _ _ hq, rowR.same t2, hD, fun r hr => ?_, fun H3 s3 => ?_⟩
      · obtain ⟨m1, m2⟩ := good.ends r hr
        exact ⟨places_some good.nd m1, places_some good.nd m2⟩
      refine ⟨_, rfl, rfl, false, rfl, iteF ?_⟩
      have t3 := t2.trans s3
      -- tuple of the points
      refine ⟨_, rfl, p, rfl, ⟨_, SqL.of (t3 _ _ hp)⟩, fun D1 nD1 => ?_⟩
      refine lc_it walk_list (fun i H4 => Same H3 H4 ∧ H4 D1 = some (.lst ((as.map V.ref).take i))) ⟨same_new nD1, upd_same⟩ (fun i H4 _ z => SqL.of (z.1 _ _ (t3 _ _ hp))) ?_ ?_
      · rintro i y H4 H5 hi ⟨s4, h4⟩ ⟨rfl, hy⟩
        have hi' : i < as.length := by rw [List.length_map] at hi; exact hi
        have hip : i < ps.length := by rw [← row.1]; exact hi'
        obtain rfl : V.ref as[i] = y := by
          rw [List.getElem?_map, List.getElem?_eq_getElem hi'] at hy
          exact Option.some.inj hy
        have pa := (t3.trans s4) _ _ (row.2 i _ _ (List.getElem?_eq_getElem hi') (List.getElem?_eq_getElem hip))
        refine ⟨rfl, _, rfl, as[i], _, rfl, .inr ⟨SqT.of pa, ?_⟩⟩
        refine ⟨_, h4, small1000 (by rw [List.length_take, List.length_map]; have := good.few; have := row.1; omega), fun b o z => by rw [upd_ne (ne_of_none z nD1)]; exact s4 b o z, ?_⟩
        rw [upd_same, List.take_succ, List.getElem?_map, List.getElem?_eq_getElem hi']
        rfl
      · rintro H4 ⟨s4, h4⟩
        rw [List.take_of_length_le (Nat.le_refl _)] at h4
        refine ⟨D1, _, rfl, .inl ⟨SqL.of h4, fun PA nPA => ?_⟩⟩
        have s5 := s4.trans (same_new (o := .tup (as.map V.ref)) nPA)
        have t5 := t3.trans s5
        have hD5 := (s3.trans s5) _ _ hD
        have hPA5 : (upd H4 PA (.tup (as.map V.ref))) PA = some (.tup (as.map V.ref)) := upd_same
        revert hD5 hPA5 t5
        generalize upd H4 PA (.tup (as.map V.ref)) = H5
        intro t5 hD5 hPA5
        have ha5 := t5 _ _ ha
        have pa_a : PA ≠ a := ne_of hPA5 ha5 (by intro z; cases z)
        have d_a : D ≠ a := ne_of hD5 ha5 (by intro z; cases z)
        have q_a : q ≠ a := ne_of hq ha (by intro z; cases z)
        have na : a ∉ as := row_not row ha (fun p z => by cases z)
        have nb : a ∉ bs := row_not rowR ha (fun p z => by cases z)
        refine ⟨_, rfl, a, C, dx, [], rfl, ha5, cn.cls, cn.n1, (by decide : 0 < 1000), ?_⟩
        rw [show putF "_points" (V.ref PA) [] = [(("_points" : Str), V.ref PA)] from rfl]
        have b6 : Sbut a H (upd H5 a (.ins C dx [("_points", .ref PA)])) := (Sbut.of t5).trans Sbut.put
        have ha6 : (upd H5 a (.ins C dx [("_points", .ref PA)])) a = some (.ins C dx [("_points", .ref PA)]) := upd_same
        have hPA6 : (upd H5 a (.ins C dx [("_points", .ref PA)])) PA = some (.tup (as.map V.ref)) := by rw [upd_ne pa_a]; exact hPA5
        have hD6 : (upd H5 a (.ins C dx [("_points", .ref PA)])) D = some (.dK (placesFrom 0 (namesOf ps))) := by rw [upd_ne d_a]; exact hD5
        revert b6 ha6 hPA6 hD6
        generalize upd H5 a (.ins C dx [("_points", .ref PA)]) = H6
        intro b6 ha6 hPA6 hD6
        -- tuple of the rules
        refine ⟨_, rfl, q, rfl, ⟨_, SqL.of (b6 _ _ hq q_a)⟩, fun D2 nD2 => ?_⟩
        refine lc_it walk_list (fun i H7 => Same H6 H7 ∧ H7 D2 = some (.lst ((bs.map V.ref).take i))) ⟨same_new nD2, upd_same⟩ (fun i H7 _ z => SqL.of (z.1 _ _ (b6 _ _ hq q_a))) ?_ ?_
        · rintro i y H7 H8 hi ⟨s7, h7⟩ ⟨rfl, hy⟩
          have hi' : i < bs.length := by rw [List.length_map] at hi; exact hi
          have hip : i < rs.length := by rw [← rowR.1]; exact hi'
          obtain rfl : V.ref bs[i] = y := by
            rw [List.getElem?_map, List.getElem?_eq_getElem hi'] at hy
            exact Option.some.inj hy
          have pb := s7 _ _ ((rowR.but b6 nb).2 i _ _ (List.getElem?_eq_getElem hi') (List.getElem?_eq_getElem hip))
          refine ⟨rfl, _, rfl, bs[i], _, rfl, .inr ⟨SqT.of pb, ?_⟩⟩
          refine ⟨_, h7, small1000 (by rw [List.length_take, List.length_map]; have := good.fewR; have := rowR.1; omega), fun b o z => by rw [upd_ne (ne_of_none z nD2)]; exact s7 b o z, ?_⟩
          rw [upd_same, List.take_succ, List.getElem?_map, List.getElem?_eq_getElem hi']
          rfl
        · rintro H7 ⟨s7, h7⟩
          rw [List.take_of_length_le (Nat.le_refl _)] at h7
          refine ⟨D2, _, rfl, .inl ⟨SqL.of h7, fun RA nRA => ?_⟩⟩
          have s8 := s7.trans (same_new (o := .tup (bs.map V.ref)) nRA)
          have hRA8 : (upd H7 RA (.tup (bs.map V.ref))) RA = some (.tup (bs.map V.ref)) := upd_same
          revert s8 hRA8
          generalize upd H7 RA (.tup (bs.map V.ref)) = H8
          intro s8 hRA8
          have ha8 := s8 _ _ ha6
          have ra_a : RA ≠ a := ne_of hRA8 ha8 (by intro z; cases z)
          refine ⟨_, rfl, a, C, dx, _, rfl, ha8, cn.cls, cn.n2, (by decide : 1 < 1000), ?_⟩
          rw [show putF "_rules" (V.ref RA) [(("_points" : Str), V.ref PA)] = [(("_points" : Str), V.ref PA), (("_rules" : Str), V.ref RA)] from putF_2]
          refine ⟨_, rfl, _, rfl, a, C, dx, _, rfl, upd_same, cn.cls, cn.n3, (by decide : 2 < 1000), ?_⟩
          rw [upd_upd, show putF "_places" (V.ref D) [(("_points" : Str), V.ref PA), (("_rules" : Str), V.ref RA)] = [(("_points" : Str), V.ref PA), (("_rules" : Str), V.ref RA), (("_places" : Str), V.ref D)] from putF_3]
          have b9 : Sbut a H (upd H8 a (.ins C dx [("_points", .ref PA), ("_rules", .ref RA), ("_places", .ref D)])) := (b6.trans (Sbut.of s8)).trans Sbut.put
          refine k _ b9 ⟨dx, PA, RA, D, as, bs, upd_same, ?_, ?_, ?_, row.but b9 na, rowR.but b9 nb⟩
          · rw [upd_ne pa_a]
            exact s8 _ _ hPA6
          · rw [upd_ne ra_a]
            exact hRA8
          · rw [upd_ne d_a]
            exact s8 _ _ hD6
end
end K06
namespace Rt
open PySem PySem.Spec L2
open PyProof.Rows hiding St
/-! ### a built-in function that stands among the names of the module -/
theorem pe_bg {X : Cx} {x : Str} {p pos : Pos} {e : Expr} {es : List Expr} {t : TA} {id : String} {r : List V → Hp → VK → Prop} (c : CallR X (.builtin id) r) (hx : Gl X x) (m : X.mg x = some (.builtin id)) (a : PA X (e :: es) t)
    (nodbg : (x == ("__debug__" : Str)) = false := by decide) (st : starEach (e :: es) X.env = (false, eval e X.env) :: starEach es X.env := by rfl)
    (pl : (backTo pos (starEach es X.env)).any (·.1) = false := by rfl) : PE X (.Call (.Name x p) (e :: es) [] pos) (tCB r t) := by
  constructor
  intro pins s σ H Q I want
  refine wpAny_Call_Name_kw (ld_glob I hx m ?_ nodbg)
  refine PyProof.Rows.callWith_builtin1 (thn (a.run pos pins s σ H _ I want) ?_) st pl
  rintro us s1 ⟨vs, H1, J, rv, q⟩
  exact c pins s1 σ H1 vs us Q J rv q
def rLcm : List V → Hp → VK → Prop := fun vs H Q => ∃ a b : Nat, vs = [.int a, .int b] ∧ a < 2 ^ 60 ∧ b < 2 ^ 60 ∧ Nat.lcm a b < 2 ^ 60 ∧ Q (.int (Nat.lcm a b : Nat)) H
theorem call_lcm {X : Cx} : CallR X (.builtin "math.lcm") rLcm := by
  intro pins s σ H vs us Q I rv want
  obtain ⟨a, b, rfl, ha, hb, hl, q⟩ := want
  obtain ⟨u1, u2, rfl, ⟨t1, rfl⟩, ⟨t2, rfl⟩⟩ := vals2 rv
  have e : ((((Nat.lcm 1 (a : Int).natAbs).lcm (b : Int).natAbs : Nat) : Int)) = ((Nat.lcm a b : Nat) : Int) := by
    rw [Int.natAbs_natCast, Int.natAbs_natCast, Nat.lcm_one_left]
  refine PySem.W.mg_lcm_v (by rw [Int.natAbs_natCast]; omega) (by rw [Int.natAbs_natCast]; omega) e ?_ ⟨.int _, H, I.tok _, ⟨_, rfl⟩, q⟩
  rw [Int.natAbs_natCast]
  have : (Nat.lcm a b).log2 < 60 := by
    rcases Nat.eq_zero_or_pos (Nat.lcm a b) with z | z
    · rw [z]
      decide
    · exact (Nat.log2_lt (by omega)).mpr hl
  exact Nat.lt_trans this (by decide)
end Rt
namespace K06
open PySem PySem.Spec L2 Rt
open PyProof.Rows hiding St
abbrev sMPoints : Stmt := inClass (top 26) 1
abbrev sMRules : Stmt := inClass (top 26) 2
abbrev sMNames : Stmt := inClass (top 26) 3
abbrev sMHas : Stmt := inClass (top 26) 4
abbrev sMIndex : Stmt := inClass (top 26) 6
abbrev sMPeriod : Stmt := inClass (top 26) 7
def spPoints (C : Addr) : Sp := fun vs H Q _ => ∃ (a : Addr) (ps : List Pt) (rs : List Rl), vs = [.ref a] ∧ NetAt H C a ps rs ∧ ∀ (L : Addr) (as : List Addr) (H' : Hp), H L = none → Same H H' → H' L = some (.lst (as.map V.ref)) → Row ptV H' as ps → Q (.ref L) H'
def spRules (C : Addr) : Sp := fun vs H Q _ => ∃ (a : Addr) (ps : List Pt) (rs : List Rl), vs = [.ref a] ∧ NetAt H C a ps rs ∧ ∀ (L : Addr) (as : List Addr) (H' : Hp), H L = none → Same H H' → H' L = some (.lst (as.map V.ref)) → Row rlV H' as rs → Q (.ref L) H'
def spMNames (C : Addr) : Sp := fun vs H Q _ => ∃ (a : Addr) (ps : List Pt) (rs : List Rl), vs = [.ref a] ∧ NetAt H C a ps rs ∧ ps.length ≤ 100 ∧ ∀ (L : Addr) (H' : Hp), H L = none → Same H H' → H' L = some (.lst ((namesOf ps).map V.str)) → Q (.ref L) H'
def spMHas (C : Addr) : Sp := fun vs H Q _ => ∃ (a : Addr) (x : Str) (ps : List Pt) (rs : List Rl), vs = [.ref a, .str x] ∧ NetAt H C a ps rs ∧ Q (.bl (valV (placesFrom 0 (namesOf ps)) (Sum.inr x)).isSome) H
def spMIndex (C : Addr) : Sp := fun vs H Q _ => ∃ (a : Addr) (ps : List Pt) (rs : List Rl) (i : Nat) (x : Str), vs = [.ref a, .str x] ∧ NetAt H C a ps rs ∧ (namesOf ps).Nodup ∧ (namesOf ps)[i]? = some x ∧ Q (.int i) H
def lcmOf (ps : List Pt) : Nat := ps.foldl (fun l p => Nat.lcm l p.2.2.toNat) 1
def spMPeriod (C : Addr) : Sp := fun vs H Q _ => ∃ (a : Addr) (ps : List Pt) (rs : List Rl) (M : Nat), vs = [.ref a] ∧ NetAt H C a ps rs ∧ (∀ p, p ∈ ps → 1 ≤ p.2.2 ∧ p.2.2.toNat ∣ M) ∧ 0 < M ∧ M < 2 ^ 60 ∧ Q (.int (lcmOf ps)) H
section
variable {P : Program} {w : World} {K : PySem.W.Frag} {mg : Str → Option Value} {base : Heap} {f C : Addr} {fd : FuncData}
theorem look_p {x y z : V} : List.lookup ("_points" : Str) [(("_points" : Str), x), (("_rules" : Str), y), (("_places" : Str), z)] = some x := by simp [List.lookup]
theorem look_r {x y z : V} : List.lookup ("_rules" : Str) [(("_points" : Str), x), (("_rules" : Str), y), (("_places" : Str), z)] = some y := by
  have h : (("_rules" : Str) == ("_points" : Str)) = false := by decide +kernel
  simp only [List.lookup, h, beq_self_eq_true]
theorem look_l {x y z : V} : List.lookup ("_places" : Str) [(("_points" : Str), x), (("_rules" : Str), y), (("_places" : Str), z)] = some z := by
  have h : (("_places" : Str) == ("_points" : Str)) = false := by decide +kernel
  have h2 : (("_places" : Str) == ("_rules" : Str)) = false := by decide +kernel
  simp only [List.lookup, h, h2, beq_self_eq_true]
theorem look_no {m : Str} {x y z : V} (n1 : (m == ("_points" : Str)) = false) (n2 : (m == ("_rules" : Str)) = false) (n3 : (m == ("_places" : Str)) = false) : List.lookup m [(("_points" : Str), x), (("_rules" : Str), y), (("_places" : Str), z)] = none := by
  simp only [List.lookup, n1, n2, n3]
theorem scMPoints : FnScope ["self"] ["self"] (defScope sMPoints) := ⟨rfl, rfl, rfl, by decide +kernel, rfl, by decide +kernel, by decide +kernel⟩
theorem ok_mpoints (F : Fun K "points" "Network.points" sMPoints f fd) (T : Wds mg) (cn : ClsN K C) : FnOk P w K mg base CX0 1 f fd ["self"] (spPoints C) := by
  refine F.ok scMPoints (fun vs H Q E h => ?_) (fun cdv A outer s H vs Q E hr h => ?_)
  · obtain ⟨a, ps, rs, rfl, _⟩ := h
    rfl
  · obtain ⟨a, ps, rs, rfl, net, k⟩ := h
    refine ⟨_, (pss_one (ps_ret (pe_callTy call_list_of (by rfl) T.zlist (by decide +kernel) (pa_cons (pe_fld (pv 0) (by rfl)) pa_nil)))), ?_⟩
    obtain ⟨dx, PA, RA, DA, as, bs, h1, h2, h3, h4, h5, h6⟩ := net.ex
    refine ⟨_, rfl, a, C, dx, _, _, rfl, h1, cn.cls, cn.n1, look_p, ?_⟩
    exact ⟨PA, _, rfl, .inr (SqT.of h2), fun L nL => k L as _ nL (same_new nL) upd_same (h5.same (same_new nL))⟩
theorem scMRules : FnScope ["self"] ["self"] (defScope sMRules) := ⟨rfl, rfl, rfl, by decide +kernel, rfl, by decide +kernel, by decide +kernel⟩
theorem ok_mrules (F : Fun K "rules" "Network.rules" sMRules f fd) (T : Wds mg) (cn : ClsN K C) : FnOk P w K mg base CX0 1 f fd ["self"] (spRules C) := by
  refine F.ok scMRules (fun vs H Q E h => ?_) (fun cdv A outer s H vs Q E hr h => ?_)
  · obtain ⟨a, ps, rs, rfl, _⟩ := h
    rfl
  · obtain ⟨a, ps, rs, rfl, net, k⟩ := h
    refine ⟨_, (pss_one (ps_ret (pe_callTy call_list_of (by rfl) T.zlist (by decide +kernel) (pa_cons (pe_fld (pv 0) (by rfl)) pa_nil)))), ?_⟩
    obtain ⟨dx, PA, RA, DA, as, bs, h1, h2, h3, h4, h5, h6⟩ := net.ex
    refine ⟨_, rfl, a, C, dx, _, _, rfl, h1, cn.cls, cn.n2, look_r, ?_⟩
    exact ⟨RA, _, rfl, .inr (SqT.of h3), fun L nL => k L bs _ nL (same_new nL) upd_same (h6.same (same_new nL))⟩
theorem scMNames : FnScope ["self", "point"] ["self"] (defScope sMNames) := ⟨rfl, rfl, rfl, by decide +kernel, rfl, by decide +kernel, by decide +kernel⟩
theorem ok_mnames (F : Fun K "names" "Network.names" sMNames f fd) (cn : ClsN K C) : FnOk P w K mg base CX0 1 f fd ["self"] (spMNames C) := by
  refine F.ok scMNames (fun vs H Q E h => ?_) (fun cdv A outer s H vs Q E hr h => ?_)
  · obtain ⟨a, ps, rs, rfl, _⟩ := h
    rfl
  · obtain ⟨a, ps, rs, rfl, net, few, k⟩ := h
    refine ⟨_, (pss_one (ps_ret (pe_lc (own := [("point", 1)]) (by rfl) scMNames.nd (pi_tup (pe_fld (pv 0) (by rfl))) (blkOk_by (N := ["self", "point"]) (sc := defScope sMNames) (by decide +kernel)) (fun _ _ _ _ _ => (pg_name (i := 1) scMNames.nd rfl (.inl rfl))) (fun _ _ _ _ _ => pts_nil) (fun _ _ _ _ _ => (pe_ix (ix_tup : IxR _ (rIxT K)) (pv 1) pe_int (fun _ _ => rfl)))))), ?_⟩
    obtain ⟨dx, PA, RA, DA, as, bs, h1, h2, h3, h4, h5, h6⟩ := net.ex
    refine ⟨_, rfl, a, C, dx, _, _, rfl, h1, cn.cls, cn.n1, look_p, PA, rfl, ⟨_, SqT.of h2⟩, fun D nD => ?_⟩
    refine lc_it walk_tup (fun i H1 => Same H H1 ∧ H1 D = some (.lst (((namesOf ps).take i).map V.str))) ⟨same_new nD, upd_same⟩ (fun i H1 _ z => SqT.of (z.1 _ _ h2)) ?_ ?_
    · rintro i y H1 H2 hi ⟨s1, hD⟩ ⟨rfl, hy⟩
      have hi' : i < as.length := by rw [List.length_map] at hi; exact hi
      have hip : i < ps.length := by rw [← h5.1]; exact hi'
      obtain rfl : V.ref as[i] = y := by
        rw [List.getElem?_map, List.getElem?_eq_getElem hi'] at hy
        exact Option.some.inj hy
      have pa : H as[i] = some (.tup [.str ps[i].1, .int ps[i].2.1, .int ps[i].2.2]) := h5.2 i _ _ (List.getElem?_eq_getElem hi') (List.getElem?_eq_getElem hip)
      refine ⟨rfl, _, rfl, as[i], _, 0, _, rfl, rfl, SqT.of (s1 _ _ pa), rfl, ?_⟩
      refine ⟨_, hD, small1000 (by rw [List.length_map, List.length_take]; omega), fun b o z => by rw [upd_ne (ne_of_none z nD)]; exact s1 b o z, ?_⟩
      rw [upd_same, List.take_succ, show (namesOf ps)[i]? = some ps[i].1 by rw [List.getElem?_map, List.getElem?_eq_getElem hip]; rfl, List.map_append]
      rfl
    · rintro H1 ⟨s1, hD⟩
      rw [List.take_of_length_le (by rw [List.length_map, List.length_map, h5.1]; exact Nat.le_refl _)] at hD
      exact k D H1 nD s1 hD
theorem scMHas : FnScope ["self", "value"] ["self", "value"] (defScope sMHas) := ⟨rfl, rfl, rfl, by decide +kernel, rfl, by decide +kernel, by decide +kernel⟩
theorem ok_mhas (F : Fun K "has_name" "Network.has_name" sMHas f fd) (cn : ClsN K C) (isName : Cf P w K mg base 1 "is_name_of" spIsName) : FnOk P w K mg base CX0 2 f fd ["self", "value"] (spMHas C) := by
  refine F.ok scMHas (fun vs H Q E h => ?_) (fun cdv A outer s H vs Q E hr h => ?_)
  · obtain ⟨a, x, ps, rs, rfl, _⟩ := h
    rfl
  · obtain ⟨a, x, ps, rs, rfl, net, k⟩ := h
    refine ⟨_, (pss_one (ps_ret (pe_f isName hr (by decide) (by rfl) (pa_cons (pv 1) (pa_cons (pe_fld (pv 0) (by rfl)) pa_nil))))), ?_⟩
    obtain ⟨dx, PA, RA, DA, as, bs, h1, h2, h3, h4, h5, h6⟩ := net.ex
    exact ⟨_, rfl, _, rfl, a, C, dx, _, _, rfl, h1, cn.cls, cn.n3, look_l, x, DA, _, rfl, h4, k⟩
theorem scMIndex : FnScope ["self", "name"] ["self", "name"] (defScope sMIndex) := ⟨rfl, rfl, rfl, by decide +kernel, rfl, by decide +kernel, by decide +kernel⟩
theorem ok_mindex (F : Fun K "index" "Network.index" sMIndex f fd) (cn : ClsN K C) (hasName : Md P w K mg base 2 C "has_name" (spMHas C)) : FnOk P w K mg base CX0 3 f fd ["self", "name"] (spMIndex C) := by
  refine F.ok scMIndex (fun vs H Q E h => ?_) (fun cdv A outer s H vs Q E hr h => ?_)
  · obtain ⟨a, ps, rs, i, x, rfl, _⟩ := h
    rfl
  · obtain ⟨a, ps, rs, i, x, rfl, net, nd, ix, k⟩ := h
    have hu := hu_of hr
    refine ⟨_, (pss_cons (ps_if (pt_not (pt_val (pe_m cn.cls hasName hr (by decide) (pv 0) (pa_cons (pv 1) pa_nil)))) (pss_one ps_never) pss_nil)
      (pss_one (ps_ret (pe_dget hu (pe_fld (pv 0) (by rfl)) (pv 1) (fun _ _ => rfl))))), ?_⟩
    obtain ⟨dx, PA, RA, DA, as, bs, h1, h2, h3, h4, h5, h6⟩ := net.ex
    obtain ⟨hi, e⟩ := List.getElem?_eq_some_iff.mp ix
    have q : valV (placesFrom 0 (namesOf ps)) (Sum.inr x) = some (V.int (i : Nat)) := by
      rw [← e, places_at _ 0 i hi nd, Nat.zero_add]
    refine ⟨_, rfl, a, dx, _, rfl, h1, ?_, _, rfl, a, x, ps, rs, rfl, net, true, by rw [q]; rfl, iteF ?_⟩
    · exact look_no (by decide +kernel) (by decide +kernel) (by decide +kernel)
    refine ⟨_, rfl, a, C, dx, _, _, rfl, h1, cn.cls, cn.n3, look_l, _, rfl, DA, _, rfl, ?_, k⟩
    rw [← q]
    exact get_k h4
theorem scMPeriod : FnScope ["self", "period", "point"] ["self"] (defScope sMPeriod) := ⟨rfl, rfl, rfl, by decide +kernel, rfl, by decide +kernel, by decide +kernel⟩
theorem lcm_step (ps : List Pt) (i : Nat) (h : i < ps.length) : lcmOf (ps.take (i + 1)) = Nat.lcm (lcmOf (ps.take i)) ps[i].2.2.toNat := by
  unfold lcmOf
  rw [List.take_succ, List.getElem?_eq_getElem h, List.foldl_append]
  rfl
theorem lcm_dvd {M : Nat} : ∀ (ps : List Pt) (l : Nat), l ∣ M → (∀ p, p ∈ ps → p.2.2.toNat ∣ M) → ps.foldl (fun l p => Nat.lcm l p.2.2.toNat) l ∣ M
  | [], _, h, _ => h
  | p :: ps, l, h, hs => lcm_dvd ps _ (Nat.lcm_dvd h (hs p List.mem_cons_self)) fun q m => hs q (List.mem_cons_of_mem _ m)
theorem ok_mperiod (F : Fun K "period" "Network.period" sMPeriod f fd) (cn : ClsN K C) (hlcm : mg "lcm" = some (.builtin "math.lcm")) : FnOk P w K mg base CX0 1 f fd ["self"] (spMPeriod C) := by
  refine F.ok scMPeriod (fun vs H Q E h => ?_) (fun cdv A outer s H vs Q E hr h => ?_)
  · obtain ⟨a, ps, rs, M, rfl, _⟩ := h
    rfl
  · obtain ⟨a, ps, rs, M, rfl, net, dv, m0, m1, k⟩ := h
    refine ⟨_, (pss_cons (ps_set (i := 1) scMPeriod.nd rfl (.inl rfl) pe_int)
      (pss_cons (ps_for PassesOwn.never rfl (pi_tup (pe_fld (pv 0) (by rfl))) (pg_name (i := 2) scMPeriod.nd rfl (.inl rfl))
        (pss_one (ps_set (i := 1) scMPeriod.nd rfl (.inl rfl) (pe_bg call_lcm (by rfl) hlcm (pa_cons (pv 1) (pa_cons (pe_ix ix_tup (pv 2) pe_int (fun _ _ => rfl)) pa_nil))))))
      (pss_one (ps_ret (pv 1))))), ?_⟩
    obtain ⟨dx, PA, RA, DA, as, bs, h1, h2, h3, h4, h5, h6⟩ := net.ex
    have below : ∀ i, lcmOf (ps.take i) < 2 ^ 60 := fun i => Nat.lt_of_le_of_lt (Nat.le_of_dvd m0 (lcm_dvd (ps.take i) 1 (Nat.one_dvd M) fun p m => (dv p (List.mem_of_mem_take m)).2)) m1
    refine ⟨_, rfl, a, C, dx, _, _, rfl, h1, cn.cls, cn.n1, look_p, PA, rfl, ⟨_, SqT.of h2⟩, ?_⟩
    refine for_it walk_tup (fun i σ H1 => ∃ v2 : Option V, σ = [some (.ref a), some (.int (lcmOf (ps.take i) : Nat)), v2] ∧ H1 = H) ⟨_, rfl, rfl⟩ (fun i σ H1 _ ⟨_, _, e⟩ => by rw [e]; exact SqT.of h2) ?_ ?_
    · rintro i y σ H1 H2 hi ⟨v2, rfl, rfl⟩ ⟨rfl, hy⟩
      have hi' : i < as.length := by rw [List.length_map] at hi; exact hi
      have hip : i < ps.length := by rw [← h5.1]; exact hi'
      obtain rfl : V.ref as[i] = y := by
        rw [List.getElem?_map, List.getElem?_eq_getElem hi'] at hy
        exact Option.some.inj hy
      have pa := h5.2 i _ _ (List.getElem?_eq_getElem hi') (List.getElem?_eq_getElem hip)
      obtain ⟨d1, d2⟩ := dv _ (List.getElem_mem hip)
      have e2 : ps[i].2.2 = ((ps[i].2.2.toNat : Nat) : Int) := (Int.toNat_of_nonneg (by omega)).symm
      refine ⟨_, rfl, _, rfl, as[i], [.str ps[i].1, .int ps[i].2.1, .int ps[i].2.2], 2, _, rfl, rfl, SqT.of pa, rfl, lcmOf (ps.take i), ps[i].2.2.toNat, by rw [← e2], below i, Nat.lt_of_le_of_lt (Nat.le_of_dvd m0 d2) m1, by rw [← lcm_step ps i hip]; exact below (i + 1), ?_⟩
      refine ⟨some (.ref as[i]), ?_, rfl⟩
      rw [lcm_step ps i hip]
      rfl
    · rintro σ H1 ⟨v2, rfl, rfl⟩
      rw [List.take_of_length_le (by rw [List.length_map, h5.1]; exact Nat.le_refl _)]
      exact ⟨_, rfl, k⟩
end
end K06
namespace K06
open PySem PySem.Spec L2 Rt
open PyProof.Rows hiding St
abbrev sOn : Stmt := top 8
abbrev sLInt : Stmt := top 34
abbrev sLOn : Stmt := top 35
abbrev sJudge : Stmt := top 10
/-! ### values of all kinds -/
def kindOf : HO → Option String
  | .lst _ => some "list"
  | .tup _ => some "tuple"
  | .dK _ => some "dict"
  | _ => none
def Od (H : Hp) : V → Prop
  | .ref t => ∃ o T, H t = some o ∧ kindOf o = some T
  | .ty _ => False
  | .byt _ => False
  | .flt _ => False
  | _ => True
def isI : V → Bool
  | .int _ => true
  | _ => false
theorem od_type {K : PySem.W.Frag} {H : Hp} {v : V} (h : Od H v) : ∃ T b1 b2, TyX K H v (.type T) ∧ kitB T "int" = some b1 ∧ kitB T "bool" = some b2 ∧ (b1 && !b2) = isI v := by
  cases v with
  | non => exact ⟨_, false, false, .base .non, by decide +kernel, by decide +kernel, rfl⟩
  | bl b => exact ⟨_, true, true, .base (.bl b), by decide +kernel, by decide +kernel, rfl⟩
  | int i => exact ⟨_, true, false, .base (.int i), by decide +kernel, by decide +kernel, rfl⟩
  | str x => exact ⟨_, false, false, .base (.str x), by decide +kernel, by decide +kernel, rfl⟩
  | byt b => exact h.elim
  | flt b => exact h.elim
  | ty n => exact h.elim
  | ref t =>
    obtain ⟨o, T, e, k⟩ := h
    cases o with
    | lst xs => exact ⟨_, false, false, .base (.lst e), by decide +kernel, by decide +kernel, rfl⟩
    | tup xs => exact ⟨_, false, false, .base (.tup e), by decide +kernel, by decide +kernel, rfl⟩
    | dK kvs => exact ⟨_, false, false, .base (.dK e), by decide +kernel, by decide +kernel, rfl⟩
    | _ => cases k
def onB (f s : Int) : V → Bool
  | .int i => decide ((i - f) % s = 0)
  | _ => false
theorem dec_V (i j : Int) : decide (V.int i = V.int j) = decide (i = j) := by
  by_cases h : i = j
  · subst h
    simp
  · rw [decide_eq_false h]
    exact decide_eq_false fun z => h (V.int.inj z)
/-! ### promises -/
def spIsInt : Sp := fun vs H Q _ => ∃ v, vs = [v] ∧ Od H v ∧ Q (.bl (isI v)) H
def spOn : Sp := fun vs H Q _ => ∃ (t : Addr) (f s : Int) (v : V), vs = [.ref t, v] ∧ H t = some (.tup [.int f, .int s]) ∧ 0 < s ∧ Od H v ∧ Q (.bl (onB f s v)) H
theorem Keep.od {d c : Addr} {H H1 : Hp} {v : V} (a : Keep d c H H1) (w : ∀ t, v = .ref t → t ≠ d ∧ t ≠ c) (h : Od H v) : Od H1 v := by
  cases v with
  | ref t =>
    obtain ⟨o, T, e, k⟩ := h
    obtain ⟨n1, n2⟩ := w t rfl
    exact ⟨o, T, a t o e n1 n2, k⟩
  | non => exact True.intro
  | bl b => exact True.intro
  | int i => exact True.intro
  | str x => exact True.intro
  | byt b => exact h.elim
  | flt b => exact h.elim
  | ty n => exact h.elim

theorem Od.same {H H' : Hp} {v : V} (s : Same H H') (h : Od H v) : Od H' v := by
  cases v with
  | ref t =>
    obtain ⟨o, T, e, k⟩ := h
    exact ⟨o, T, s _ _ e, k⟩
  | non => exact True.intro
  | bl b => exact True.intro
  | int i => exact True.intro
  | str x => exact True.intro
  | byt b => exact h.elim
  | flt b => exact h.elim
  | ty n => exact h.elim
/-! ### what a judge says -/
/-- a value is judged as a row of items, or as no row -/
inductive Jd (K : PySem.W.Frag) (H : Hp) : V → Option (List V) → Prop where
  | no {v : V} {T : String} (ty : ∀ H', Same H H' → TyX K H' v (.type T)) (k : PySem.W.kitAny K (.type T) [.type "list", .type "tuple"] = some false) : Jd K H v none
  | lst {q : Addr} {xs : List V} (h : H q = some (.lst xs)) (o : ∀ x, x ∈ xs → Od H x) : Jd K H (.ref q) (some xs)
  | tup {q : Addr} {xs : List V} (h : H q = some (.tup xs)) (o : ∀ x, x ∈ xs → Od H x) : Jd K H (.ref q) (some xs)
def onAt (ps : List Pt) (xs : List V) (k : Nat) : Prop := ∃ (p : Pt) (x : V), ps[k]? = some p ∧ xs[k]? = some x ∧ onB p.2.1 p.2.2 x = true
def offAt (ps : List Pt) (xs : List V) (k : Nat) : Prop := ∃ (p : Pt) (x : V), ps[k]? = some p ∧ xs[k]? = some x ∧ onB p.2.1 p.2.2 x = false
/-- the numbers that a rule speaks of -/
def rowAt (ps : List Pt) (xs : List V) (r : Rl) (a b : Int) : Prop := ∃ i j : Nat, (namesOf ps)[i]? = some r.1 ∧ (namesOf ps)[j]? = some r.2.1 ∧ xs[i]? = some (V.int a) ∧ xs[j]? = some (V.int b)
def keepsAt (ps : List Pt) (rs : List Rl) (xs : List V) (k : Nat) : Prop := ∃ r a b, rs[k]? = some r ∧ rowAt ps xs r a b ∧ a + r.2.2 ≤ b
def failsAt (ps : List Pt) (rs : List Rl) (xs : List V) (k : Nat) : Prop := ∃ r a b, rs[k]? = some r ∧ rowAt ps xs r a b ∧ b < a + r.2.2
inductive Verd (ps : List Pt) (rs : List Rl) : Option (List V) → Option (List V) → Prop where
  | form0 : Verd ps rs none (some [.str "form"])
  | form {xs : List V} (h : xs.length ≠ ps.length) : Verd ps rs (some xs) (some [.str "form"])
  | clock {xs : List V} {k : Nat} (h : xs.length = ps.length) (b : ∀ j, j < k → onAt ps xs j) (f : offAt ps xs k) : Verd ps rs (some xs) (some [.str "clock", .int k])
  | rule {xs : List V} {k : Nat} (h : xs.length = ps.length) (c : ∀ j, j < ps.length → onAt ps xs j) (b : ∀ j, j < k → keepsAt ps rs xs j) (f : failsAt ps rs xs k) : Verd ps rs (some xs) (some [.str "rule", .int k])
  | fine {xs : List V} (h : xs.length = ps.length) (c : ∀ j, j < ps.length → onAt ps xs j) (b : ∀ j, j < rs.length → keepsAt ps rs xs j) : Verd ps rs (some xs) none
theorem on_off {ps : List Pt} {xs : List V} {k : Nat} (a : onAt ps xs k) (b : offAt ps xs k) : False := by
  obtain ⟨p, x, h1, h2, h3⟩ := a
  obtain ⟨q, y, g1, g2, g3⟩ := b
  cases h1.symm.trans g1
  cases h2.symm.trans g2
  rw [h3] at g3
  cases g3
theorem name_uniq {l : List Str} (nd : l.Nodup) {i j : Nat} {x : Str} (h : l[i]? = some x) (g : l[j]? = some x) : i = j := by
  obtain ⟨hi, e⟩ := List.getElem?_eq_some_iff.mp h
  obtain ⟨hj, e2⟩ := List.getElem?_eq_some_iff.mp g
  rcases Nat.lt_trichotomy i j with lt | rfl | gt
  · exact absurd (e.trans e2.symm) (List.pairwise_iff_getElem.mp nd i j hi hj lt)
  · rfl
  · exact absurd (e2.trans e.symm) (List.pairwise_iff_getElem.mp nd j i hj hi gt)
theorem row_uniq {ps : List Pt} {xs : List V} {r : Rl} {a b c d : Int} (nd : (namesOf ps).Nodup) (h : rowAt ps xs r a b) (g : rowAt ps xs r c d) : a = c ∧ b = d := by
  obtain ⟨i, j, h1, h2, h3, h4⟩ := h
  obtain ⟨k, l, g1, g2, g3, g4⟩ := g
  cases name_uniq nd h1 g1
  cases name_uniq nd h2 g2
  cases h3.symm.trans g3
  cases h4.symm.trans g4
  exact ⟨rfl, rfl⟩
theorem keeps_fails {ps : List Pt} {rs : List Rl} {xs : List V} {k : Nat} (nd : (namesOf ps).Nodup) (a : keepsAt ps rs xs k) (b : failsAt ps rs xs k) : False := by
  obtain ⟨r, x, y, h1, h2, h3⟩ := a
  obtain ⟨q, u, v, g1, g2, g3⟩ := b
  cases h1.symm.trans g1
  obtain ⟨rfl, rfl⟩ := row_uniq nd h2 g2
  omega
theorem offAt.lt {ps : List Pt} {xs : List V} {k : Nat} (f : offAt ps xs k) : k < ps.length := by
  obtain ⟨p, x, h1, _⟩ := f
  exact (List.getElem?_eq_some_iff.mp h1).1
theorem failsAt.lt {ps : List Pt} {rs : List Rl} {xs : List V} {k : Nat} (f : failsAt ps rs xs k) : k < rs.length := by
  obtain ⟨p, x, y, h1, _⟩ := f
  exact (List.getElem?_eq_some_iff.mp h1).1
theorem verd_uniq {ps : List Pt} {rs : List Rl} {v u w : Option (List V)} (nd : (namesOf ps).Nodup) (h : Verd ps rs v u) (g : Verd ps rs v w) : u = w := by
  cases h with
  | form0 => cases g with | form0 => rfl
  | form a => cases g with
    | form _ => rfl
    | clock e _ _ => exact absurd e a
    | rule e _ _ _ => exact absurd e a
    | fine e _ _ => exact absurd e a
  | @clock xs k e b f => cases g with
    | form a => exact absurd e a
    | @clock _ l _ b2 f2 =>
      rcases Nat.lt_trichotomy k l with lt | rfl | gt
      · exact (on_off (b2 _ lt) f).elim
      · rfl
      · exact (on_off (b _ gt) f2).elim
    | rule _ c _ _ => exact (on_off (c _ f.lt) f).elim
    | fine _ c _ => exact (on_off (c _ f.lt) f).elim
  | @rule xs k e c b f => cases g with
    | form a => exact absurd e a
    | clock _ _ f2 => exact (on_off (c _ f2.lt) f2).elim
    | @rule _ l _ _ b2 f2 =>
      rcases Nat.lt_trichotomy k l with lt | rfl | gt
      · exact (keeps_fails nd (b2 _ lt) f).elim
      · rfl
      · exact (keeps_fails nd (b _ gt) f2).elim
    | fine _ _ b2 => exact (keeps_fails nd (b2 _ f.lt) f).elim
  | fine e c b => cases g with
    | form a => exact absurd e a
    | clock _ _ f2 => exact (on_off (c _ f2.lt) f2).elim
    | rule _ _ _ f2 => exact (keeps_fails nd (b _ f2.lt) f2).elim
    | fine _ _ _ => rfl
/-- how a verdict is told -/
def Tells (H : Hp) : Option (List V) → V → Prop
  | none, v => v = .non
  | some ys, v => ∃ t, v = .ref t ∧ H t = some (.tup ys)
def spJudge (K : PySem.W.Frag) (C : Addr) : Sp := fun vs H Q _ => ∃ (a : Addr) (v : V) (ps : List Pt) (rs : List Rl) (xo : Option (List V)), vs = [.ref a, v] ∧ NetAt H C a ps rs ∧ Good ps rs ∧ Jd K H v xo ∧
  ∀ (u : V) (r : Option (List V)) (H' : Hp), Verd ps rs xo r → Tells H' r u → Same H H' → Q u H'
section
variable {P : Program} {w : World} {K : PySem.W.Frag} {mg : Str → Option Value} {base : Heap}
theorem ok_isInt2 {f : Addr} {fd : FuncData} (F : Fun K "is_integer" "is_integer" sIsInt f fd) (T : Wds mg) : FnOk P w K mg base CX0 1 f fd ["value"] spIsInt := by
  refine F.ok scIsInt (fun vs H Q E h => ?_) (fun cdv A outer s H vs Q E hr h => ?_)
  · obtain ⟨v, rfl, _⟩ := h
    rfl
  · obtain ⟨v, rfl, ho, k⟩ := h
    obtain ⟨T1, b1, b2, ty, k1, k2, e⟩ := od_type (K := K) ho
    refine ⟨_, (pss_one (ps_ret (pe_and (pe_callB call_isi (by rfl) T.zisinstance (by decide +kernel) (pa_cons (pv 0) (pa_cons (pe_bltn (v := .ty "int") (by rfl) T.zint (by decide +kernel) rfl) pa_nil))) (pe_one (pe_not (pe_callB call_isi (by rfl) T.zisinstance (by decide +kernel) (pa_cons (pv 0) (pa_cons (pe_bltn (v := .ty "bool") (by rfl) T.zbool (by decide +kernel) rfl) pa_nil)))))))), ?_⟩
    refine ⟨_, rfl, v, .ty "int", _, .type "int", b1, rfl, .ty _, ty, kit_ty k1, b1, rfl, ?_⟩
    cases b1 with
    | true =>
      refine iteT ?_
      refine ⟨_, rfl, v, .ty "bool", _, .type "bool", b2, rfl, .ty _, ty, kit_ty k2, b2, rfl, ?_⟩
      rw [show (!b2) = isI v from by simpa using e]
      exact k
    | false =>
      refine iteF ?_
      rw [show false = isI v from by simpa using e]
      exact k
theorem scOn : FnScope ["clock", "value", "first", "step"] ["clock", "value"] (defScope sOn) := ⟨rfl, rfl, rfl, by decide +kernel, rfl, by decide +kernel, by decide +kernel⟩
theorem ok_on {f : Addr} {fd : FuncData} (F : Fun K "is_on" "is_on" sOn f fd) (isInt : Cf P w K mg base 1 "is_integer" spIsInt) : FnOk P w K mg base CX0 2 f fd ["clock", "value"] spOn := by
  refine F.ok scOn (fun vs H Q E h => ?_) (fun cdv A outer s H vs Q E hr h => ?_)
  · obtain ⟨t, f, s, v, rfl, _⟩ := h
    rfl
  · obtain ⟨t, f, s, v, rfl, ht, hs, ho, k⟩ := h
    refine ⟨_, (pss_cons (ps_asg (pv 0) (pg_tup (by rfl) (pgs_cons (pg_name (i := 2) scOn.nd rfl (.inl rfl)) (pgs_cons (pg_name (i := 3) scOn.nd rfl (.inl rfl)) pgs_nil))))
      (pss_one (ps_ret (pe_and (pe_f isInt hr (by decide) (by rfl) (pa_cons (pv 1) pa_nil)) (pe_one (pe_cmpR op_eq (pe_op op_mod (pe_op op_sub (pv 1) (pv 2)) (pv 3)) pe_int (nomark _))))))), ?_⟩
    refine ⟨_, rfl, t, _, rfl, SqT.of ht, rfl, _, _, rfl, _, _, rfl, rfl, ?_⟩
    refine ⟨_, rfl, v, rfl, ho, _, rfl, ?_⟩
    cases v with
    | int i =>
      refine iteT ?_
      refine ⟨_, rfl, _, rfl, _, _, rfl, rfl, _, rfl, _, _, rfl, rfl, hs, rfl, ?_⟩
      rw [dec_V]
      exact k
    | _ => exact iteF k
end
end K06
namespace K06
open PySem PySem.Spec L2 Rt
open PyProof.Rows hiding St
structure Meths (P : Program) (w : World) (K : PySem.W.Frag) (mg : Str → Option Value) (base : Heap) (C : Addr) : Prop where
  points : Md P w K mg base 1 C "points" (spPoints C)
  rules : Md P w K mg base 1 C "rules" (spRules C)
  names : Md P w K mg base 1 C "names" (spMNames C)
  index : Md P w K mg base 3 C "index" (spMIndex C)
  period : Md P w K mg base 1 C "period" (spMPeriod C)
def Row2 (H : Hp) (q : Addr) (xs : List V) : Prop := H q = some (.lst xs) ∨ H q = some (.tup xs)
theorem Row2.same {H H' : Hp} {q : Addr} {xs : List V} (s : Same H H') (h : Row2 H q xs) : Row2 H' q xs := h.imp (s _ _) (s _ _)
theorem Row2.type {K : PySem.W.Frag} {H : Hp} {q : Addr} {xs : List V} (h : Row2 H q xs) : ∃ T : String, TyX K H (.ref q) (.type T) ∧ PySem.W.kitAny K (.type T) [.type "list", .type "tuple"] = some true := by
  rcases h with h | h
  · exact ⟨_, .base (.lst h), kitLT (.inl rfl)⟩
  · exact ⟨_, .base (.tup h), kitLT (.inr rfl)⟩
theorem Row2.seq {K : PySem.W.Frag} {H : Hp} {q : Addr} {xs : List V} (h : Row2 H q xs) : SqL K H q xs ∨ SqT K H q xs := h.imp SqL.of SqT.of
theorem onB_int {f s : Int} {x : V} (h : onB f s x = true) : ∃ z, x = .int z := by
  cases x with
  | int z => exact ⟨z, rfl⟩
  | _ => exact absurd h (by simp [onB])
theorem num_at {ps : List Pt} {xs : List V} {x : Str} (len : xs.length = ps.length) (on : ∀ j, j < ps.length → onAt ps xs j) (m : x ∈ namesOf ps) : ∃ (i : Nat) (z : Int), (namesOf ps)[i]? = some x ∧ xs[i]? = some (V.int z) := by
  obtain ⟨i, hi, e⟩ := List.getElem_of_mem m
  have hp : i < ps.length := by rw [List.length_map] at hi; exact hi
  obtain ⟨p, y, h1, h2, h3⟩ := on i hp
  obtain ⟨z, rfl⟩ := onB_int h3
  exact ⟨i, z, by rw [List.getElem?_eq_getElem hi, e], h2⟩
theorem rIx_of {K : PySem.W.Frag} {H : Hp} {q : Addr} {xs : List V} {i : Int} {x : V} {Q : VK} (h : Row2 H q xs) (e : atI xs i = some x) (k : Q x H) : rIx K (.ref q) (.int i) H Q := by
  rcases h with h | h
  · exact .inl ⟨q, xs, i, x, rfl, rfl, SqL.of h, e, k⟩
  · exact .inr (.inl ⟨q, xs, i, x, rfl, rfl, SqT.of h, e, k⟩)
theorem atN {xs : List V} {i : Nat} {x : V} (h : xs[i]? = some x) : atI xs (i : Int) = some x := at_of (j := i) rfl h
theorem net_look {H : Hp} {C a : Addr} {ps : List Pt} {rs : List Rl} (h : NetAt H C a ps rs) : ∃ dx fs, H a = some (.ins C dx fs) ∧ ∀ m : Str, (m == ("_points" : Str)) = false → (m == ("_rules" : Str)) = false → (m == ("_places" : Str)) = false → fs.lookup m = none := by
  obtain ⟨dx, PA, RA, DA, as, bs, h1, _⟩ := h.ex
  exact ⟨dx, _, h1, fun m a b c => look_no a b c⟩
theorem kitLT0 {K : PySem.W.Frag} {T : String} (h1 : kitB T "list" = some false) (h2 : kitB T "tuple" = some false) : PySem.W.kitAny K (.type T) [.type "list", .type "tuple"] = some false :=
  kitAny_cons (b := false) (kit_ty h1) (fun _ => kitAny_cons (b := false) (kit_ty h2) (fun _ => kitAny_nil) (fun z => nomatch z)) (fun z => nomatch z)
section
variable {P : Program} {w : World} {K : PySem.W.Frag} {mg : Str → Option Value} {base : Heap} {f C : Addr} {fd : FuncData}
theorem scJudge : FnScope ["network", "value", "points", "k", "point", "start", "end", "least"] ["network", "value"] (defScope sJudge) := ⟨rfl, rfl, rfl, by decide +kernel, rfl, by decide +kernel, by decide +kernel⟩
theorem ok_judge (F : Fun K "judge_timetable" "judge_timetable" sJudge f fd) (T : Wds mg) (cn : ClsN K C) (M : Meths P w K mg base C) (isOn : Cf P w K mg base 2 "is_on" spOn) : FnOk P w K mg base CX0 4 f fd ["network", "value"] (spJudge K C) := by
  refine F.ok scJudge (fun vs H Q E h => ?_) (fun cdv A outer s H vs Q E hr h => ?_)
  · obtain ⟨a, v, ps, rs, xo, rfl, _⟩ := h
    rfl
  · obtain ⟨a, v, ps, rs, xo, rfl, net, good, jd, k⟩ := h
    refine ⟨_, (pss_cons (ps_set (i := 2) scJudge.nd rfl (.inl rfl) (pe_m0' cn.cls M.points hr (by decide) (pv 0)))
      (pss_cons (ps_if (PW.pt (pw_or (pt_not (pt_val (pe_callB call_isiT (by rfl) T.zisinstance (by decide +kernel) (pa_cons (pv 1) (pa_cons (pe_tup (pa_cons (pe_bltn (v := .ty "list") (by rfl) T.zlist (by decide +kernel) rfl) (pa_cons (pe_bltn (v := .ty "tuple") (by rfl) T.ztuple (by decide +kernel) rfl) pa_nil))) pa_nil))))) (pw_or1 (pt_cmpR op_ne (pe_callB call_len_seq (by rfl) T.zlen (by decide +kernel) (pa_cons (pv 1) pa_nil)) (pe_callB call_len_seq (by rfl) T.zlen (by decide +kernel) (pa_cons (pv 2) pa_nil)) (nomark _))))) (pss_one (ps_ret (pe_tup (pa_cons pe_str pa_nil)))) pss_nil)
      (pss_cons (ps_for PassesOwn.never rfl (pi_enum (by rfl) T.zenumerate (pa_cons (pv 2) pa_nil)) (pg_tup (by rfl) (pgs_cons (pg_name (i := 3) scJudge.nd rfl (.inl rfl)) (pgs_cons (pg_name (i := 4) scJudge.nd rfl (.inl rfl)) pgs_nil)))
        (pss_one (ps_if (pt_not (pt_val (pe_f isOn hr (by decide) (by rfl) (pa_cons (pe_slice sl_tup (pv 4) (po_some pe_int) po_none) (pa_cons (pe_ix ix_seq (pv 1) (pv 3) (fun _ _ => rfl)) pa_nil))))) (pss_one (ps_ret (pe_tup (pa_cons pe_str (pa_cons (pv 3) pa_nil))))) pss_nil)))
      (pss_cons (ps_for PassesOwn.never rfl (pi_enum (by rfl) T.zenumerate (pa_cons (pe_m0' cn.cls M.rules hr (by decide) (pv 0)) pa_nil)) (pg_tup (by rfl) (pgs_cons (pg_name (i := 3) scJudge.nd rfl (.inl rfl)) (pgs_cons (pg_tup (by rfl) (pgs_cons (pg_name (i := 5) scJudge.nd rfl (.inl rfl)) (pgs_cons (pg_name (i := 6) scJudge.nd rfl (.inl rfl)) (pgs_cons (pg_name (i := 7) scJudge.nd rfl (.inl rfl)) pgs_nil)))) pgs_nil)))
        (pss_one (ps_if (pt_cmpR op_lt (pe_ix ix_seq (pv 1) (pe_m cn.cls M.index hr (by decide) (pv 0) (pa_cons (pv 6) pa_nil)) (fun _ _ => rfl)) (pe_op op_add (pe_ix ix_seq (pv 1) (pe_m cn.cls M.index hr (by decide) (pv 0) (pa_cons (pv 5) pa_nil)) (fun _ _ => rfl)) (pv 7)) (nomark _)) (pss_one (ps_ret (pe_tup (pa_cons pe_str (pa_cons (pv 3) pa_nil))))) pss_nil)))
      (pss_one (ps_ret pe_non)))))), ?_⟩
    obtain ⟨dx, fs, hN, look⟩ := net_look net
    refine ⟨_, rfl, a, dx, fs, rfl, hN, look _ (by decide +kernel) (by decide +kernel) (by decide +kernel), a, ps, rs, rfl, net, fun L as H1 nL s1 hL row => ?_⟩
    refine ⟨_, rfl, (by show 2 ≤ sizeLine; decide), fun tp nt => ?_⟩
    have s2 := s1.trans (same_new (o := .tup [.ty "list", .ty "tuple"]) nt)
    have jd2 : (xo = none ∧ ∃ T : String, TyX K (upd H1 tp (.tup [.ty "list", .ty "tuple"])) v (.type T) ∧ PySem.W.kitAny K (.type T) [.type "list", .type "tuple"] = some false) ∨
        ∃ (q : Addr) (xs : List V), v = .ref q ∧ xo = some xs ∧ Row2 H q xs ∧ ∀ x, x ∈ xs → Od H x := by
      cases jd with
      | no ty kk => exact .inl ⟨rfl, _, ty _ s2, kk⟩
      | lst h o => exact .inr ⟨_, _, rfl, rfl, .inl h, o⟩
      | tup h o => exact .inr ⟨_, _, rfl, rfl, .inr h, o⟩
    rcases jd2 with ⟨rfl, T1, ty, kk⟩ | ⟨q, xs, rfl, rfl, hq, od⟩
    · refine ⟨_, tp, _, .type T1, _, false, rfl, upd_same, .cons (.ty _) (.cons (.ty _) .nil), ty, kk, false, rfl, iteT (iteT ?_)⟩
      exact ⟨(by show 1 ≤ sizeLine; decide), fun p np => k _ _ _ Verd.form0 ⟨p, rfl, upd_same⟩ (s2.trans (same_new np))⟩
    have hq2 := hq.same s2
    obtain ⟨T1, ty, kk⟩ := hq2.type (K := K)
    refine ⟨_, tp, _, .type T1, _, true, rfl, upd_same, .cons (.ty _) (.cons (.ty _) .nil), ty, kk, true, rfl, iteF ?_⟩
    refine ⟨_, rfl, q, _, rfl, hq2.seq, _, rfl, L, _, rfl, .inl (SqL.of ((same_new nt) _ _ hL)), rfl, _, rfl, ?_⟩
    rw [dec_V, List.length_map, row.1]
    by_cases len : xs.length = ps.length
    case neg =>
      rw [decide_eq_false (show ¬ ((xs.length : Int) = (ps.length : Int)) by omega)]
      refine iteT ?_
      exact ⟨(by show 1 ≤ sizeLine; decide), fun p np => k _ _ _ (Verd.form len) ⟨p, rfl, upd_same⟩ (s2.trans (same_new np))⟩
    rw [decide_eq_true (show (xs.length : Int) = (ps.length : Int) by omega)]
    refine iteF ?_
    have hL2 := (same_new (o := .tup [.ty "list", .ty "tuple"]) nt) _ _ hL
    have row2 : Row ptV (upd H1 tp (.tup [.ty "list", .ty "tuple"])) as ps := row.same (same_new nt)
    revert s2 hq2 hL2 row2
    generalize upd H1 tp (.tup [.ty "list", .ty "tuple"]) = H2
    intro s2 hq2 hL2 row2
    refine ⟨_, rfl, L, _, rfl, SqL.of hL2, ?_⟩
    refine for_it walk_enum (fun i σ H3 => ∃ (v3 v4 v5 v6 v7 : Option V), σ = [some (.ref a), some (.ref q), some (.ref L), v3, v4, v5, v6, v7] ∧ Same H2 H3 ∧ ∀ j, j < i → onAt ps xs j)
      ⟨_, _, _, _, _, rfl, Same.refl _, fun j h => absurd h (by omega)⟩ (fun i σ H3 _ ⟨_, _, _, _, _, _, s3, _⟩ => SqL.of (s3 _ _ hL2)) ?_ ?_
    · rintro i y σ H3 H4 hi ⟨v3, v4, v5, v6, v7, rfl, s3, inv⟩ ⟨t, x1, x2, rfl, ht, rfl, e1, e2⟩
      obtain rfl : V.int (i : Nat) = x1 := Option.some.inj e1
      have hi' : i < as.length := by rw [List.length_map] at hi; exact hi
      have hip : i < ps.length := by rw [← row2.1]; exact hi'
      have hix : i < xs.length := by rw [len]; exact hip
      obtain rfl : V.ref as[i] = x2 := by
        have e2 : (as.map V.ref)[i]? = some x2 := e2
        rw [List.getElem?_map, List.getElem?_eq_getElem hi'] at e2
        exact Option.some.inj e2
      have s4 : Same H2 (upd H3 t (.tup [.int (i : Nat), .ref as[i]])) := s3.trans (same_new ht)
      have pa : (upd H3 t (.tup [.int (i : Nat), .ref as[i]])) as[i] = some (.tup [.str ps[i].1, .int ps[i].2.1, .int ps[i].2.2]) := s4 _ _ (row2.2 i _ _ (List.getElem?_eq_getElem hi') (List.getElem?_eq_getElem hip))
      refine ⟨t, _, rfl, SqT.of upd_same, rfl, _, _, rfl, _, _, rfl, rfl, ?_⟩
      have p0 : 1 ≤ ps[i].2.2 := (good.ok _ (List.getElem_mem hip)).2.1
      refine ⟨_, rfl, _, rfl, as[i], _, rfl, SqT.of pa, (by show ¬ (HT.sIx 3 0 (some 1) = 0 ∧ HT.sIx 3 3 none = 3); decide), fun u nu => ⟨_, rfl, _, rfl, ?_⟩⟩
      have s5 := s4.trans (same_new (o := .tup (cutV [.str ps[i].1, .int ps[i].2.1, .int ps[i].2.2] (some 1) none)) nu)
      have ex : xs[i]? = some xs[i] := List.getElem?_eq_getElem hix
      refine rIx_of (hq2.same s5) (atN ex) ?_
      refine ⟨u, ps[i].2.1, ps[i].2.2, xs[i], rfl, upd_same, by omega, Od.same (s2.trans s5) (od _ (List.getElem_mem hix)), _, rfl, ?_⟩
      cases on : onB ps[i].2.1 ps[i].2.2 xs[i] with
      | true =>
        refine iteF ⟨_, _, _, _, _, rfl, s5, fun j hj => ?_⟩
        rcases Nat.lt_or_eq_of_le (Nat.le_of_lt_succ hj) with lt | rfl
        · exact inv j lt
        · exact ⟨_, _, List.getElem?_eq_getElem hip, ex, on⟩
      | false =>
        refine iteT ?_
        exact ⟨_, rfl, (by show 2 ≤ sizeLine; decide), fun p np => k _ _ _ (Verd.clock len inv ⟨_, _, List.getElem?_eq_getElem hip, ex, on⟩) ⟨p, rfl, upd_same⟩ ((s2.trans s5).trans (same_new np))⟩
    · rintro σ H3 ⟨v3, v4, v5, v6, v7, rfl, s3, inv⟩
      rw [List.length_map, row2.1] at inv
      have t3 := s2.trans s3
      refine ⟨_, rfl, a, dx, fs, rfl, t3 _ _ hN, look _ (by decide +kernel) (by decide +kernel) (by decide +kernel), a, ps, rs, rfl, net.same t3, fun R bs H4 nR s4 hR rowR => ⟨R, _, rfl, SqL.of hR, ?_⟩⟩
      have t4 := t3.trans s4
      refine for_it walk_enum (fun i σ H5 => ∃ (v3 v4 v5 v6 v7 : Option V), σ = [some (.ref a), some (.ref q), some (.ref L), v3, v4, v5, v6, v7] ∧ Same H4 H5 ∧ ∀ j, j < i → keepsAt ps rs xs j)
        ⟨_, _, _, _, _, rfl, Same.refl _, fun j h => absurd h (by omega)⟩ (fun i σ H5 _ ⟨_, _, _, _, _, _, s5, _⟩ => SqL.of (s5 _ _ hR)) ?_ ?_
      · rintro i y σ H5 H6 hi ⟨v3, v4, v5, v6, v7, rfl, s5, inv2⟩ ⟨t, x1, x2, rfl, ht, rfl, e1, e2⟩
        obtain rfl : V.int (i : Nat) = x1 := Option.some.inj e1
        have hi' : i < bs.length := by rw [List.length_map] at hi; exact hi
        have hip : i < rs.length := by rw [← rowR.1]; exact hi'
        obtain rfl : V.ref bs[i] = x2 := by
          have e2 : (bs.map V.ref)[i]? = some x2 := e2
          rw [List.getElem?_map, List.getElem?_eq_getElem hi'] at e2
          exact Option.some.inj e2
        have s6 : Same H4 (upd H5 t (.tup [.int (i : Nat), .ref bs[i]])) := s5.trans (same_new ht)
        have pb : (upd H5 t (.tup [.int (i : Nat), .ref bs[i]])) bs[i] = some (.tup [.str rs[i].1, .str rs[i].2.1, .int rs[i].2.2]) := s6 _ _ (rowR.2 i _ _ (List.getElem?_eq_getElem hi') (List.getElem?_eq_getElem hip))
        refine ⟨t, _, rfl, SqT.of upd_same, rfl, _, _, rfl, _, _, rfl, bs[i], _, rfl, SqT.of pb, rfl, _, _, rfl, _, _, rfl, _, _, rfl, rfl, rfl, ?_⟩
        obtain ⟨m1, m2⟩ := good.ends _ (List.getElem_mem hip)
        obtain ⟨ia, za, n1, x1⟩ := num_at len inv m1
        obtain ⟨ib, zb, n2, x2⟩ := num_at len inv m2
        have t6 := t4.trans s6
        have hN6 := t6 _ _ hN
        refine ⟨_, rfl, _, rfl, a, dx, fs, rfl, hN6, look _ (by decide +kernel) (by decide +kernel) (by decide +kernel), _, rfl, a, ps, rs, ib, _, rfl, net.same t6, good.nd, n2, rIx_of (hq.same t6) (atN x2) ?_⟩
        refine ⟨_, rfl, _, rfl, a, dx, fs, rfl, hN6, look _ (by decide +kernel) (by decide +kernel) (by decide +kernel), _, rfl, a, ps, rs, ia, _, rfl, net.same t6, good.nd, n1, rIx_of (hq.same t6) (atN x1) ?_⟩
        refine ⟨_, rfl, _, _, rfl, rfl, _, _, rfl, rfl, _, rfl, ?_⟩
        by_cases lt : zb < za + rs[i].2.2
        · rw [decide_eq_true lt]
          refine iteT ?_
          exact ⟨_, rfl, (by show 2 ≤ sizeLine; decide), fun p np => k _ _ _ (Verd.rule len inv inv2 ⟨_, za, zb, List.getElem?_eq_getElem hip, ⟨ia, ib, n1, n2, x1, x2⟩, lt⟩) ⟨p, rfl, upd_same⟩ (t6.trans (same_new np))⟩
        · rw [decide_eq_false lt]
          refine iteF ⟨_, _, _, _, _, rfl, s6, fun j hj => ?_⟩
          rcases Nat.lt_or_eq_of_le (Nat.le_of_lt_succ hj) with l2 | rfl
          · exact inv2 j l2
          · exact ⟨_, za, zb, List.getElem?_eq_getElem hip, ⟨ia, ib, n1, n2, x1, x2⟩, by omega⟩
      · rintro σ H5 ⟨v3, v4, v5, v6, v7, rfl, s5, inv2⟩
        rw [List.length_map, rowR.1] at inv2
        exact k _ _ _ (Verd.fine len inv inv2) rfl (t4.trans s5)
end
end K06
namespace K06
open PySem PySem.Spec L2 Rt
open PyProof.Rows hiding St
abbrev sLater : Stmt := top 11
abbrev sEarlier : Stmt := top 12
abbrev sShift : Stmt := top 13
structure Rng (mg : Str → Option Value) : Prop where
  zrange : mg "range" = none
  zlen : mg "len" = none
  zmax : mg "max" = none
  zmin : mg "min" = none
  ztuple : mg "tuple" = none
def mx (i j : Int) : Int := if j > i then j else i
def mn (i j : Int) : Int := if j < i then j else i
theorem zip_at (op : Int → Int → Int) {xs ys : List Int} {i : Nat} (hx : i < xs.length) (hy : i < ys.length) : (List.zipWith op xs ys)[i]? = some (op xs[i] ys[i]) := by
  rw [List.getElem?_eq_getElem (by rw [List.length_zipWith]; omega), List.getElem_zipWith]
def spPair (C : Addr) (op : Int → Int → Int) : Sp := fun vs H Q _ => ∃ (a p q : Addr) (ps : List Pt) (rs : List Rl) (xs ys : List Int), vs = [.ref a, .ref p, .ref q] ∧ NetAt H C a ps rs ∧ ps.length ≤ 100 ∧ xs.length = ps.length ∧ ys.length = ps.length ∧
  Row2 H p (xs.map V.int) ∧ Row2 H q (ys.map V.int) ∧ ∀ (t : Addr) (H' : Hp), Same H H' → H' t = some (.tup ((List.zipWith op xs ys).map V.int)) → Q (.ref t) H'
def spShift (C : Addr) : Sp := fun vs H Q _ => ∃ (a p : Addr) (ps : List Pt) (rs : List Rl) (xs : List Int) (n : Int) (M : Nat), vs = [.ref a, .ref p, .int n] ∧ NetAt H C a ps rs ∧ (∀ p, p ∈ ps → 1 ≤ p.2.2 ∧ p.2.2.toNat ∣ M) ∧ 0 < M ∧ M < 2 ^ 60 ∧ xs.length ≤ 100 ∧
  Row2 H p (xs.map V.int) ∧ ∀ (t : Addr) (H' : Hp), Same H H' → H' t = some (.tup ((xs.map fun x => x + (lcmOf ps : Nat) * n).map V.int)) → Q (.ref t) H'
section
variable {P : Program} {w : World} {K : PySem.W.Frag} {mg : Str → Option Value} {base : Heap} {f C : Addr} {fd : FuncData}
theorem scLater : FnScope ["network", "one", "other", "k"] ["network", "one", "other"] (defScope sLater) := ⟨rfl, rfl, rfl, by decide +kernel, rfl, by decide +kernel, by decide +kernel⟩
theorem ok_Later (F : Fun K "later_of" "later_of" sLater f fd) (T : Rng mg) (cn : ClsN K C) (M : Meths P w K mg base C) : FnOk P w K mg base CX0 2 f fd ["network", "one", "other"] (spPair C mx) := by
  refine F.ok scLater (fun vs H Q E h => ?_) (fun cdv A outer s H vs Q E hr h => ?_)
  · obtain ⟨a, p, q, ps, rs, xs, ys, rfl, _⟩ := h
    rfl
  · obtain ⟨a, p, q, ps, rs, xs, ys, rfl, net, few, lx, ly, hp, hq, k⟩ := h
    refine ⟨_, (pss_one (ps_ret (pe_callTy call_tuple_of (by rfl) T.ztuple (by decide +kernel) (pa_cons (pe_lc (own := [("k", 3)]) (by rfl) scLater.nd (pi_range1 (by rfl) T.zrange (pa_cons (pe_callB call_len_seq (by rfl) T.zlen (by decide +kernel) (pa_cons (pe_m0' cn.cls M.names hr (by decide) (pv 0)) pa_nil)) pa_nil)) (blkOk_by (N := ["network", "one", "other", "k"]) (sc := defScope sLater) (by decide +kernel)) (fun _ _ _ _ _ => (pg_name (i := 3) scLater.nd rfl (.inl rfl))) (fun _ _ _ _ _ => pts_nil) (fun _ _ _ _ _ => (pe_callB (call_max2 rfl) (by rfl) T.zmax (by decide +kernel) (pa_cons (pe_ix (ix_seq : IxR _ (rIx K)) (pv 1) (pv 3) (fun _ _ => rfl)) (pa_cons (pe_ix (ix_seq : IxR _ (rIx K)) (pv 2) (pv 3) (fun _ _ => rfl)) pa_nil))))) pa_nil)))), ?_⟩
    obtain ⟨dx, fs, hN, look⟩ := net_look net
    refine ⟨_, rfl, a, dx, fs, rfl, hN, look _ (by decide +kernel) (by decide +kernel) (by decide +kernel), a, ps, rs, rfl, net, few, fun L H1 nL s1 hL => ?_⟩
    refine ⟨L, _, rfl, .inl (SqL.of hL), (ps.length : Int), by rw [List.length_map, List.length_map], by omega, by omega, fun D nD => ?_⟩
    refine lc_range (lo := 0) (fun i H2 => Same H1 H2 ∧ H2 D = some (.lst (((List.zipWith mx xs ys).take i).map V.int))) ⟨same_new nD, upd_same⟩ ?_ ?_
    · rintro i H2 hi ⟨s2, hD⟩
      have hip : i < ps.length := by omega
      have hx : i < xs.length := by omega
      have hy : i < ys.length := by omega
      have s3 := s1.trans s2
      have e0 : (0 : Int) + (i : Nat) = (i : Nat) := by omega
      rw [e0]
      refine ⟨rfl, _, rfl, _, rfl, rIx_of (hp.same s3) (atN (by rw [List.getElem?_map, List.getElem?_eq_getElem hx]; rfl)) ?_⟩
      refine ⟨_, rfl, _, rfl, rIx_of (hq.same s3) (atN (by rw [List.getElem?_map, List.getElem?_eq_getElem hy]; rfl)) ?_⟩
      refine ⟨xs[i], ys[i], rfl, _, hD, small1000 (by rw [List.length_map, List.length_take, List.length_zipWith]; omega), fun b o z => by rw [upd_ne (ne_of_none z nD)]; exact s2 b o z, ?_⟩
      rw [upd_same, List.take_succ, zip_at _ hx hy, List.map_append]
      rfl
    · rintro H2 ⟨s2, hD⟩
      refine ⟨D, _, rfl, .inl ⟨SqL.of hD, fun t nt => k t _ ((s1.trans s2).trans (same_new nt)) ?_⟩⟩
      rw [upd_same, List.take_of_length_le (by rw [List.length_zipWith]; omega)]
theorem scEarlier : FnScope ["network", "one", "other", "k"] ["network", "one", "other"] (defScope sEarlier) := ⟨rfl, rfl, rfl, by decide +kernel, rfl, by decide +kernel, by decide +kernel⟩
theorem ok_Earlier (F : Fun K "earlier_of" "earlier_of" sEarlier f fd) (T : Rng mg) (cn : ClsN K C) (M : Meths P w K mg base C) : FnOk P w K mg base CX0 2 f fd ["network", "one", "other"] (spPair C mn) := by
  refine F.ok scEarlier (fun vs H Q E h => ?_) (fun cdv A outer s H vs Q E hr h => ?_)
  · obtain ⟨a, p, q, ps, rs, xs, ys, rfl, _⟩ := h
    rfl
  · obtain ⟨a, p, q, ps, rs, xs, ys, rfl, net, few, lx, ly, hp, hq, k⟩ := h
    refine ⟨_, (pss_one (ps_ret (pe_callTy call_tuple_of (by rfl) T.ztuple (by decide +kernel) (pa_cons (pe_lc (own := [("k", 3)]) (by rfl) scEarlier.nd (pi_range1 (by rfl) T.zrange (pa_cons (pe_callB call_len_seq (by rfl) T.zlen (by decide +kernel) (pa_cons (pe_m0' cn.cls M.names hr (by decide) (pv 0)) pa_nil)) pa_nil)) (blkOk_by (N := ["network", "one", "other", "k"]) (sc := defScope sEarlier) (by decide +kernel)) (fun _ _ _ _ _ => (pg_name (i := 3) scEarlier.nd rfl (.inl rfl))) (fun _ _ _ _ _ => pts_nil) (fun _ _ _ _ _ => (pe_callB (call_min2 rfl) (by rfl) T.zmin (by decide +kernel) (pa_cons (pe_ix (ix_seq : IxR _ (rIx K)) (pv 1) (pv 3) (fun _ _ => rfl)) (pa_cons (pe_ix (ix_seq : IxR _ (rIx K)) (pv 2) (pv 3) (fun _ _ => rfl)) pa_nil))))) pa_nil)))), ?_⟩
    obtain ⟨dx, fs, hN, look⟩ := net_look net
    refine ⟨_, rfl, a, dx, fs, rfl, hN, look _ (by decide +kernel) (by decide +kernel) (by decide +kernel), a, ps, rs, rfl, net, few, fun L H1 nL s1 hL => ?_⟩
    refine ⟨L, _, rfl, .inl (SqL.of hL), (ps.length : Int), by rw [List.length_map, List.length_map], by omega, by omega, fun D nD => ?_⟩
    refine lc_range (lo := 0) (fun i H2 => Same H1 H2 ∧ H2 D = some (.lst (((List.zipWith mn xs ys).take i).map V.int))) ⟨same_new nD, upd_same⟩ ?_ ?_
    · rintro i H2 hi ⟨s2, hD⟩
      have hip : i < ps.length := by omega
      have hx : i < xs.length := by omega
      have hy : i < ys.length := by omega
      have s3 := s1.trans s2
      have e0 : (0 : Int) + (i : Nat) = (i : Nat) := by omega
      rw [e0]
      refine ⟨rfl, _, rfl, _, rfl, rIx_of (hp.same s3) (atN (by rw [List.getElem?_map, List.getElem?_eq_getElem hx]; rfl)) ?_⟩
      refine ⟨_, rfl, _, rfl, rIx_of (hq.same s3) (atN (by rw [List.getElem?_map, List.getElem?_eq_getElem hy]; rfl)) ?_⟩
      refine ⟨xs[i], ys[i], rfl, _, hD, small1000 (by rw [List.length_map, List.length_take, List.length_zipWith]; omega), fun b o z => by rw [upd_ne (ne_of_none z nD)]; exact s2 b o z, ?_⟩
      rw [upd_same, List.take_succ, zip_at _ hx hy, List.map_append]
      rfl
    · rintro H2 ⟨s2, hD⟩
      refine ⟨D, _, rfl, .inl ⟨SqL.of hD, fun t nt => k t _ ((s1.trans s2).trans (same_new nt)) ?_⟩⟩
      rw [upd_same, List.take_of_length_le (by rw [List.length_zipWith]; omega)]
theorem scShift : FnScope ["network", "timetable", "times", "distance", "number"] ["network", "timetable", "times"] (defScope sShift) := ⟨rfl, rfl, rfl, by decide +kernel, rfl, by decide +kernel, by decide +kernel⟩
theorem ok_shift (F : Fun K "shifted" "shifted" sShift f fd) (T : Rng mg) (cn : ClsN K C) (M : Meths P w K mg base C) : FnOk P w K mg base CX0 2 f fd ["network", "timetable", "times"] (spShift C) := by
  refine F.ok scShift (fun vs H Q E h => ?_) (fun cdv A outer s H vs Q E hr h => ?_)
  · obtain ⟨a, p, ps, rs, xs, n, m, rfl, _⟩ := h
    rfl
  · obtain ⟨a, p, ps, rs, xs, n, m, rfl, net, dv, m0, m1, few, hp, k⟩ := h
    obtain ⟨dx, fs, hN, look⟩ := net_look net
    have below : lcmOf ps < 2 ^ 60 := Nat.lt_of_le_of_lt (Nat.le_of_dvd m0 (lcm_dvd ps 1 (Nat.one_dvd m) fun p m => (dv p m).2)) m1
    have turn : ∀ (i : Nat) (y : V), (xs.map V.int)[i]? = some y → ∃ hi : i < xs.length, y = .int xs[i] := fun i y h => by
      have hi : i < xs.length := by
        have := (List.getElem?_eq_some_iff.mp h).1
        rwa [List.length_map] at this
      refine ⟨hi, ?_⟩
      rw [List.getElem?_map, List.getElem?_eq_getElem hi] at h
      exact (Option.some.inj h).symm
    rcases hp with hp | hp
    · refine ⟨_, (pss_cons (ps_set (i := 3) scShift.nd rfl (.inr rfl) (pe_op op_mul (pe_m0' cn.cls M.period hr (by decide) (pv 0)) (pv 2)))
      (pss_one (ps_ret (pe_callTy call_tuple_of (by rfl) T.ztuple (by decide +kernel) (pa_cons (pe_lc (own := [("number", 4)]) (by rfl) scShift.nd (pi_list (pv 1)) (blkOk_by (N := ["network", "timetable", "times", "distance", "number"]) (sc := defScope sShift) (by decide +kernel)) (fun _ _ _ _ _ => (pg_name (i := 4) scShift.nd rfl (.inl rfl))) (fun _ _ _ _ _ => pts_nil) (fun _ _ _ _ _ => (pe_op op_add (pv 4) (pv 3)))) pa_nil))))), ?_⟩
      refine ⟨_, rfl, a, dx, fs, rfl, hN, look _ (by decide +kernel) (by decide +kernel) (by decide +kernel), a, ps, rs, m, rfl, net, dv, m0, m1, _, rfl, _, _, rfl, rfl, .inl ⟨by omega, by omega⟩, ?_⟩
      refine ⟨_, rfl, p, rfl, ⟨_, SqL.of hp⟩, fun D nD => ?_⟩
      refine lc_it walk_list (fun i H2 => Same H H2 ∧ H2 D = some (.lst (((xs.map fun x => x + (lcmOf ps : Nat) * n).take i).map V.int))) ⟨same_new nD, upd_same⟩ (fun i H2 _ z => SqL.of (z.1 _ _ hp)) ?_ ?_
      · rintro i y H2 H3 _ ⟨s2, hD⟩ ⟨rfl, hy⟩
        obtain ⟨hi, rfl⟩ := turn i y hy
        refine ⟨rfl, _, rfl, _, rfl, _, _, rfl, rfl, _, hD, small1000 (by rw [List.length_map, List.length_take, List.length_map]; omega), fun b o z => by rw [upd_ne (ne_of_none z nD)]; exact s2 b o z, ?_⟩
        rw [upd_same, List.take_succ, List.getElem?_map, List.getElem?_eq_getElem hi, List.map_append]
        rfl
      · rintro H2 ⟨s2, hD⟩
        rw [List.take_of_length_le (by rw [List.length_map, List.length_map]; exact Nat.le_refl _)] at hD
        exact ⟨D, _, rfl, .inl ⟨SqL.of hD, fun t nt => k t _ (s2.trans (same_new nt)) upd_same⟩⟩
    · refine ⟨_, (pss_cons (ps_set (i := 3) scShift.nd rfl (.inr rfl) (pe_op op_mul (pe_m0' cn.cls M.period hr (by decide) (pv 0)) (pv 2)))
      (pss_one (ps_ret (pe_callTy call_tuple_of (by rfl) T.ztuple (by decide +kernel) (pa_cons (pe_lc (own := [("number", 4)]) (by rfl) scShift.nd (pi_tup (pv 1)) (blkOk_by (N := ["network", "timetable", "times", "distance", "number"]) (sc := defScope sShift) (by decide +kernel)) (fun _ _ _ _ _ => (pg_name (i := 4) scShift.nd rfl (.inl rfl))) (fun _ _ _ _ _ => pts_nil) (fun _ _ _ _ _ => (pe_op op_add (pv 4) (pv 3)))) pa_nil))))), ?_⟩
      refine ⟨_, rfl, a, dx, fs, rfl, hN, look _ (by decide +kernel) (by decide +kernel) (by decide +kernel), a, ps, rs, m, rfl, net, dv, m0, m1, _, rfl, _, _, rfl, rfl, .inl ⟨by omega, by omega⟩, ?_⟩
      refine ⟨_, rfl, p, rfl, ⟨_, SqT.of hp⟩, fun D nD => ?_⟩
      refine lc_it walk_tup (fun i H2 => Same H H2 ∧ H2 D = some (.lst (((xs.map fun x => x + (lcmOf ps : Nat) * n).take i).map V.int))) ⟨same_new nD, upd_same⟩ (fun i H2 _ z => SqT.of (z.1 _ _ hp)) ?_ ?_
      · rintro i y H2 H3 _ ⟨s2, hD⟩ ⟨rfl, hy⟩
        obtain ⟨hi, rfl⟩ := turn i y hy
        refine ⟨rfl, _, rfl, _, rfl, _, _, rfl, rfl, _, hD, small1000 (by rw [List.length_map, List.length_take, List.length_map]; omega), fun b o z => by rw [upd_ne (ne_of_none z nD)]; exact s2 b o z, ?_⟩
        rw [upd_same, List.take_succ, List.getElem?_map, List.getElem?_eq_getElem hi, List.map_append]
        rfl
      · rintro H2 ⟨s2, hD⟩
        rw [List.take_of_length_le (by rw [List.length_map, List.length_map]; exact Nat.le_refl _)] at hD
        exact ⟨D, _, rfl, .inl ⟨SqL.of hD, fun t nt => k t _ (s2.trans (same_new nt)) upd_same⟩⟩

end
end K06
namespace K06
open PySem PySem.Spec L2 Rt
open PyProof.Rows hiding St
/-! ### the heap without the source -/
def mask (d c : Addr) (H : Hp) : Hp := fun b => if b = d ∨ b = c then none else H b
section
variable {d c p : Addr} {H H' : Hp} {o : HO}
theorem mask_same : Same (mask d c H) H := fun b u e => by
  unfold mask at e
  split at e
  · cases e
  · exact e
theorem mask_keep (a : Keep d c H H') : Same (mask d c H) (mask d c H') := fun b u e => by
  unfold mask at e ⊢
  split at e
  · cases e
  · rename_i n
    rw [if_neg n]
    exact a b u e (fun z => n (.inl z)) (fun z => n (.inr z))
theorem mask_new (n : H p = none) : Same (mask d c H) (mask d c (upd H p o)) := mask_keep (Keep.refl.new n)
theorem mask_at (n : p ≠ d ∧ p ≠ c) (e : H p = some o) : mask d c H p = some o := by
  unfold mask
  rw [if_neg (fun z => z.elim n.1 n.2)]
  exact e
theorem Src.same (S : Src H d c) (s : Same H H') : Src H' d c := by
  obtain ⟨ks, l, m, u, h1, h2⟩ := S.ex
  exact ⟨ks, l, m, u, s _ _ h1, s _ _ h2⟩
end
abbrev sUp : Stmt := top 33
abbrev sSteps : Stmt := top 36
abbrev sPlace : Stmt := top 38
abbrev sClockOf : Stmt := top 39
abbrev sPeriod : Stmt := top 40
structure Lw (mg : Str → Option Value) : Prop extends Wds mg, Rng mg where
  zabs : mg "abs" = none
  zrepr : mg "repr" = none
  zzip : mg "zip" = none
/-- the least number of a clock from x on, as the law goes -/
def upv (f s x : Int) : Int := f + (x - f + s - 1) / s * s
theorem upv_on (f s x : Int) : (upv f s x - f) % s = 0 := by
  unfold upv
  rw [show f + (x - f + s - 1) / s * s - f = s * ((x - f + s - 1) / s) by rw [Int.mul_comm s]; omega, Int.mul_emod_right]
theorem upv_le {f s x : Int} (h : 0 < s) : x ≤ upv f s x := by
  unfold upv
  have h1 := Int.emod_def (x - f + s - 1) s
  have h2 := Int.emod_lt_of_pos (x - f + s - 1) h
  rw [Int.mul_comm] at h1
  omega
theorem upv_lt {f s x : Int} (h : 0 < s) : upv f s x < x + s := by
  unfold upv
  have h1 := Int.emod_def (x - f + s - 1) s
  have h2 := Int.emod_nonneg (x - f + s - 1) (Int.ne_of_gt h)
  rw [Int.mul_comm] at h1
  omega
def spLUp : Sp := fun vs H Q _ => ∃ (t : Addr) (f s x : Int), vs = [.ref t, .int x] ∧ H t = some (.tup [.int f, .int s]) ∧ 0 < s ∧ s < 1000 ∧ Q (.int (upv f s x)) H
/-- the drawn net as the law keeps it -/
structure LNet (H : Hp) (n : Addr) (ps : List Pt) (rs : List Rl) : Prop where
  ex : ∃ (PA RA : Addr) (as bs : List Addr), H n = some (.dK [(Sum.inr "points", .ref PA), (Sum.inr "rules", .ref RA)]) ∧ H PA = some (.lst (as.map V.ref)) ∧ H RA = some (.lst (bs.map V.ref)) ∧ Row ptV H as ps ∧ Row rlV H bs rs
theorem LNet.same {H H' : Hp} {n : Addr} {ps : List Pt} {rs : List Rl} (h : LNet H n ps rs) (s : Same H H') : LNet H' n ps rs := by
  obtain ⟨PA, RA, as, bs, h1, h2, h3, h4, h5⟩ := h.ex
  exact ⟨PA, RA, as, bs, s _ _ h1, s _ _ h2, s _ _ h3, h4.same s, h5.same s⟩
theorem get_pts {H : Hp} {n PA RA : Addr} (h : H n = some (.dK [(Sum.inr "points", .ref PA), (Sum.inr "rules", .ref RA)])) : DGet H n (.str "points") (some (.ref PA)) := by
  have g := get_k (x := "points") h
  rwa [valV_pos rfl] at g
theorem get_rls {H : Hp} {n PA RA : Addr} (h : H n = some (.dK [(Sum.inr "points", .ref PA), (Sum.inr "rules", .ref RA)])) : DGet H n (.str "rules") (some (.ref RA)) := by
  have g := get_k (x := "rules") h
  rwa [valV_neg (ne_inr (by decide +kernel)), valV_pos rfl] at g
theorem flat_strs : ∀ l : List Str, (l.map V.str).all flatV = true
  | [] => rfl
  | _ :: l => flat_strs l
theorem eqV_str {x y : Str} : eqV (V.str x) (V.str y) = true ↔ x = y := by simp [eqV]
def spPlace : Sp := fun vs H Q _ => ∃ (n : Addr) (ps : List Pt) (rs : List Rl) (i : Nat) (x : Str), vs = [.ref n, .str x] ∧ LNet H n ps rs ∧ (namesOf ps).Nodup ∧ ps.length ≤ 100 ∧ (namesOf ps)[i]? = some x ∧ ∀ H', Same H H' → Q (.int i) H'
def spClockOf : Sp := fun vs H Q _ => ∃ (n : Addr) (ps : List Pt) (rs : List Rl) (i : Nat) (p : Pt), vs = [.ref n, .str p.1] ∧ LNet H n ps rs ∧ (namesOf ps).Nodup ∧ ps.length ≤ 100 ∧ ps[i]? = some p ∧ ∀ (t : Addr) (H' : Hp), Same H H' → H' t = some (.tup [.int p.2.1, .int p.2.2]) → Q (.ref t) H'
section
variable {P : Program} {w : World} {K : PySem.W.Frag} {mg : Str → Option Value} {base : Heap} {f : Addr} {fd : FuncData}
theorem scUp : FnScope ["clock", "x", "laps"] ["clock", "x"] (defScope sUp) := ⟨rfl, rfl, rfl, by decide +kernel, rfl, by decide +kernel, by decide +kernel⟩
theorem ok_up (F : Fun K "_law_up" "_law_up" sUp f fd) (T : Lw mg) : FnG P w K mg base 1 f fd ["clock", "x"] spLUp := by
  refine okG F scUp (fun vs H Q E h => ?_) (fun cdv A outer s H vs Q E hg hr h => ?_)
  · obtain ⟨t, f, s, x, rfl, _⟩ := h
    rfl
  · obtain ⟨t, f, s, x, rfl, ht, hs, hs2, k⟩ := h
    refine ⟨_, (pss_cons (ps_set (i := 2) scUp.nd rfl (.inl rfl) (pe_op op_fdiv (pe_callTy call_int1 (by rfl) T.zint (by decide +kernel) (pa_cons (pe_op op_sub (pe_op op_add (pe_op op_sub (pv 1) (pe_ix ix_tup (pv 0) pe_int (fun _ _ => rfl))) (pe_ix ix_tup (pv 0) pe_int (fun _ _ => rfl))) pe_int) pa_nil)) (pe_ix ix_tup (pv 0) pe_int (fun _ _ => rfl))))
      (pss_one (ps_ret (pe_op op_add (pe_ix ix_tup (pv 0) pe_int (fun _ _ => rfl)) (pe_op op_mul (pv 2) (pe_ix ix_tup (pv 0) pe_int (fun _ _ => rfl))))))), ?_⟩
    have a0 : atI [V.int f, V.int s] 0 = some (V.int f) := rfl
    have a1 : atI [V.int f, V.int s] 1 = some (V.int s) := rfl
    refine ⟨_, rfl, _, rfl, t, _, _, _, rfl, rfl, SqT.of ht, a0, _, _, rfl, rfl, _, rfl, t, _, _, _, rfl, rfl, SqT.of ht, a1, _, _, rfl, rfl, _, _, rfl, rfl, .inl ⟨_, rfl, _, rfl, t, _, _, _, rfl, rfl, SqT.of ht, a1, _, _, rfl, rfl, (by first | omega | exact ⟨by omega, by omega⟩), ?_⟩⟩
    exact ⟨_, rfl, t, _, _, _, rfl, rfl, SqT.of ht, a0, _, rfl, _, rfl, t, _, _, _, rfl, rfl, SqT.of ht, a1, _, _, rfl, rfl, .inr ⟨by omega, by omega⟩, _, _, rfl, rfl, k⟩
theorem scLInt : FnScope ["value"] ["value"] (defScope sLInt) := ⟨rfl, rfl, rfl, by decide +kernel, rfl, by decide +kernel, by decide +kernel⟩
theorem ok_lInt (F : Fun K "_law_is_integer" "_law_is_integer" sLInt f fd) (T : Lw mg) : FnG P w K mg base 1 f fd ["value"] spIsInt := by
  refine okG F scLInt (fun vs H Q E h => ?_) (fun cdv A outer s H vs Q E hg hr h => ?_)
  · obtain ⟨v, rfl, _⟩ := h
    rfl
  · obtain ⟨v, rfl, ho, k⟩ := h
    obtain ⟨T1, b1, b2, ty, k1, k2, e⟩ := od_type (K := K) ho
    refine ⟨_, (pss_one (ps_ret (pe_and (pe_callB call_isi (by rfl) T.zisinstance (by decide +kernel) (pa_cons (pv 0) (pa_cons (pe_bltn (v := .ty "int") (by rfl) T.zint (by decide +kernel) rfl) pa_nil))) (pe_one (pe_not (pe_callB call_isi (by rfl) T.zisinstance (by decide +kernel) (pa_cons (pv 0) (pa_cons (pe_bltn (v := .ty "bool") (by rfl) T.zbool (by decide +kernel) rfl) pa_nil)))))))), ?_⟩
    refine ⟨_, rfl, v, .ty "int", _, .type "int", b1, rfl, .ty _, ty, kit_ty k1, b1, rfl, ?_⟩
    cases b1 with
    | true =>
      refine iteT ?_
      refine ⟨_, rfl, v, .ty "bool", _, .type "bool", b2, rfl, .ty _, ty, kit_ty k2, b2, rfl, ?_⟩
      rw [show (!b2) = isI v from by simpa using e]
      exact k
    | false =>
      refine iteF ?_
      rw [show false = isI v from by simpa using e]
      exact k
theorem scLOn : FnScope ["clock", "value"] ["clock", "value"] (defScope sLOn) := ⟨rfl, rfl, rfl, by decide +kernel, rfl, by decide +kernel, by decide +kernel⟩
theorem ok_lOn (F : Fun K "_law_is_on" "_law_is_on" sLOn f fd) (T : Lw mg) (cI : Cb P w K mg base 1 "_law_is_integer" spIsInt) : FnG P w K mg base 2 f fd ["clock", "value"] spOn := by
  refine okG F scLOn (fun vs H Q E h => ?_) (fun cdv A outer s H vs Q E hg hr h => ?_)
  · obtain ⟨t, f, s, v, rfl, _⟩ := h
    rfl
  · obtain ⟨t, f, s, v, rfl, ht, hs, ho, k⟩ := h
    have a0 : atI [V.int f, V.int s] 0 = some (V.int f) := rfl
    have a1 : atI [V.int f, V.int s] 1 = some (V.int s) := rfl
    refine ⟨_, (pss_one (ps_ret (pe_and (pe_k cI hg hr (by decide) (by rfl) (pa_cons (pv 1) pa_nil)) (pe_one (pe_cmpR op_eq (pe_op op_mod (pe_callTy call_int1 (by rfl) T.zint (by decide +kernel) (pa_cons (pe_op op_sub (pv 1) (pe_ix ix_tup (pv 0) pe_int (fun _ _ => rfl))) pa_nil)) (pe_ix ix_tup (pv 0) pe_int (fun _ _ => rfl))) pe_int (nomark _)))))), ?_⟩
    refine ⟨_, rfl, v, rfl, ho, _, rfl, ?_⟩
    cases v with
    | int i =>
      refine iteT ?_
      refine ⟨_, rfl, _, rfl, t, _, _, _, rfl, rfl, SqT.of ht, a0, _, _, rfl, rfl, .inl ⟨_, rfl, _, rfl, t, _, _, _, rfl, rfl, SqT.of ht, a1, _, _, rfl, rfl, hs, rfl, ?_⟩⟩
      rw [dec_V]
      exact k
    | _ => exact iteF k
theorem scPlace : FnScope ["net", "name", "point"] ["net", "name"] (defScope sPlace) := ⟨rfl, rfl, rfl, by decide +kernel, rfl, by decide +kernel, by decide +kernel⟩
theorem ok_place (F : Fun K "_law_place" "_law_place" sPlace f fd) : FnG P w K mg base 1 f fd ["net", "name"] spPlace := by
  refine okG F scPlace (fun vs H Q E h => ?_) (fun cdv A outer s H vs Q E hg hr h => ?_)
  · obtain ⟨n, ps, rs, i, x, rfl, _⟩ := h
    rfl
  · obtain ⟨n, ps, rs, i, x, rfl, net, nd, few, ix, k⟩ := h
    have hu := hu_of hr
    refine ⟨_, (pss_one (ps_ret (pe_bm PySem.F.plainAttrs_list PySem.F.slot_list_index PySem.F.type_list_index mt_index (pe_lc (own := [("point", 2)]) (by rfl) scPlace.nd (pi_list (pe_dget hu (pv 0) pe_str (fun _ _ => rfl))) (blkOk_by (N := ["net", "name", "point"]) (sc := defScope sPlace) (by decide +kernel)) (fun _ _ _ _ _ => (pg_name (i := 2) scPlace.nd rfl (.inl rfl))) (fun _ _ _ _ _ => pts_nil) (fun _ _ _ _ _ => (pe_ix (ix_tup : IxR _ (rIxT K)) (pv 2) pe_int (fun _ _ => rfl)))) (pa_cons (pv 1) pa_nil)))), ?_⟩
    obtain ⟨PA, RA, as, bs, h1, h2, h3, h4, h5⟩ := net.ex
    refine ⟨_, rfl, n, _, rfl, get_pts h1, PA, rfl, ⟨_, SqL.of h2⟩, fun D nD => ?_⟩
    refine lc_it walk_list (fun i H1 => Same H H1 ∧ H1 D = some (.lst (((namesOf ps).take i).map V.str))) ⟨same_new nD, upd_same⟩ (fun i H1 _ z => SqL.of (z.1 _ _ h2)) ?_ ?_
    · rintro i y H1 H2 hi ⟨s1, hD⟩ ⟨rfl, hy⟩
      have hi' : i < as.length := by rw [List.length_map] at hi; exact hi
      have hip : i < ps.length := by rw [← h4.1]; exact hi'
      obtain rfl : V.ref as[i] = y := by
        rw [List.getElem?_map, List.getElem?_eq_getElem hi'] at hy
        exact Option.some.inj hy
      have pa : H as[i] = some (.tup [.str ps[i].1, .int ps[i].2.1, .int ps[i].2.2]) := h4.2 i _ _ (List.getElem?_eq_getElem hi') (List.getElem?_eq_getElem hip)
      refine ⟨rfl, _, rfl, as[i], _, 0, _, rfl, rfl, SqT.of (s1 _ _ pa), rfl, ?_⟩
      refine ⟨_, hD, small1000 (by rw [List.length_map, List.length_take]; omega), fun b o z => by rw [upd_ne (ne_of_none z nD)]; exact s1 b o z, ?_⟩
      rw [upd_same, List.take_succ, show (namesOf ps)[i]? = some ps[i].1 by rw [List.getElem?_map, List.getElem?_eq_getElem hip]; rfl, List.map_append]
      rfl
    · rintro H1 ⟨s1, hD⟩
      rw [List.take_of_length_le (by rw [List.length_map, List.length_map, h4.1]; exact Nat.le_refl _)] at hD
      obtain ⟨hi, e⟩ := List.getElem?_eq_some_iff.mp ix
      refine ⟨.inl ⟨rfl, _, SqL.of hD⟩, _, rfl, D, _, _, i, .str x, rfl, rfl, SqL.of hD, rfl, flat_strs _, by rw [List.getElem?_map, ix]; rfl, eqV_str.mpr rfl, fun m z hm hz => ?_, k H1 s1⟩
      rw [List.getElem?_map] at hz
      cases em : (namesOf ps)[m]? with
      | none => rw [em] at hz; cases hz
      | some y =>
        rw [em] at hz
        cases hz
        cases e2 : eqV (V.str y) (V.str x) with
        | false => rfl
        | true =>
          have := eqV_str.mp e2
          subst this
          exact absurd (name_uniq nd em ix) (by omega)
theorem scClockOf : FnScope ["net", "name", "point"] ["net", "name"] (defScope sClockOf) := ⟨rfl, rfl, rfl, by decide +kernel, rfl, by decide +kernel, by decide +kernel⟩
theorem ok_clockOf (F : Fun K "_law_clock_of" "_law_clock_of" sClockOf f fd) (cPlace : Cb P w K mg base 1 "_law_place" spPlace) : FnG P w K mg base 2 f fd ["net", "name"] spClockOf := by
  refine okG F scClockOf (fun vs H Q E h => ?_) (fun cdv A outer s H vs Q E hg hr h => ?_)
  · obtain ⟨n, ps, rs, i, p, rfl, _⟩ := h
    rfl
  · obtain ⟨n, ps, rs, i, p, rfl, net, nd, few, ix, k⟩ := h
    have hu := hu_of hr
    refine ⟨_, (pss_cons (ps_set (i := 2) scClockOf.nd rfl (.inl rfl) (pe_ix ix_list (pe_dget hu (pv 0) pe_str (fun _ _ => rfl)) (pe_k cPlace hg hr (by decide) (by rfl) (pa_cons (pv 0) (pa_cons (pv 1) pa_nil))) (fun _ _ => rfl)))
      (pss_one (ps_ret (pe_tup (pa_cons (pe_ix ix_tup (pv 2) pe_int (fun _ _ => rfl)) (pa_cons (pe_ix ix_tup (pv 2) pe_int (fun _ _ => rfl)) pa_nil)))))), ?_⟩
    obtain ⟨PA, RA, as, bs, h1, h2, h3, h4, h5⟩ := net.ex
    obtain ⟨hip, e⟩ := List.getElem?_eq_some_iff.mp ix
    have hi' : i < as.length := by rw [h4.1]; exact hip
    refine ⟨_, rfl, n, _, rfl, get_pts h1, _, rfl, _, rfl, n, ps, rs, i, p.1, rfl, net, nd, few, by rw [List.getElem?_map, ix]; rfl, fun H1 s1 => ?_⟩
    have pa : H as[i] = some (.tup [.str p.1, .int p.2.1, .int p.2.2]) := h4.2 i _ _ (List.getElem?_eq_getElem hi') ix
    refine ⟨PA, _, _, .ref as[i], rfl, rfl, SqL.of (s1 _ _ h2), atN (by rw [List.getElem?_map, List.getElem?_eq_getElem hi']; rfl), ?_⟩
    refine ⟨_, rfl, as[i], _, 1, _, rfl, rfl, SqT.of (s1 _ _ pa), rfl, _, rfl, as[i], _, 2, _, rfl, rfl, SqT.of (s1 _ _ pa), rfl, (by show 2 ≤ sizeLine; decide), fun t nt => ?_⟩
    exact k t _ (s1.trans (same_new nt)) upd_same
end
end K06
namespace K06
open PySem PySem.Spec L2 Rt
open PyProof.Rows hiding St
/-- the first number of times that comes out -/
theorem first_times {a s j : Nat} (ha : 0 < a) (no : ∀ i, i < j → ¬ s ∣ a * (i + 1)) (yes : s ∣ a * (j + 1)) : a * (j + 1) = Nat.lcm a s := by
  obtain ⟨q, hq⟩ := Nat.dvd_lcm_left a s
  have h1 : s ∣ a * q := hq ▸ Nat.dvd_lcm_right a s
  have h2 : Nat.lcm a s ∣ a * (j + 1) := Nat.lcm_dvd (Nat.dvd_mul_right a _) yes
  have h3 : a * q ≤ a * (j + 1) := hq ▸ Nat.le_of_dvd (Nat.mul_pos ha (Nat.succ_pos j)) h2
  have h4 : q ≤ j + 1 := Nat.le_of_mul_le_mul_left h3 ha
  rw [hq]
  rcases Nat.lt_or_ge q (j + 1) with lt | ge
  · cases q with
    | zero =>
      have z : a * (j + 1) = 0 := Nat.eq_zero_of_zero_dvd (by have := h2; rwa [hq, Nat.mul_zero] at this)
      exact absurd z (Nat.ne_of_gt (Nat.mul_pos ha (Nat.succ_pos j)))
    | succ i => exact absurd h1 (no i (by omega))
  · rw [show q = j + 1 by omega]
theorem mod_dvd (a j s : Nat) : (((a : Int) * ((1 : Int) + (j : Int))) % (s : Int) = 0) ↔ s ∣ a * (j + 1) := by
  rw [show (a : Int) * ((1 : Int) + (j : Int)) = ((a * (j + 1) : Nat) : Int) by rw [Int.natCast_mul]; congr 1; omega, ← Int.natCast_dvd_natCast, Int.dvd_iff_emod_eq_zero]
def spPeriod : Sp := fun vs H Q _ => ∃ (n : Addr) (ps : List Pt) (rs : List Rl) (M : Nat), vs = [.ref n] ∧ LNet H n ps rs ∧ (∀ p, p ∈ ps → 1 ≤ p.2.2 ∧ p.2.2 ≤ 60 ∧ p.2.2.toNat ∣ M) ∧ 0 < M ∧ M < 2 ^ 60 ∧ ∀ H', Same H H' → Q (.int (lcmOf ps)) H'
section
variable {P : Program} {w : World} {K : PySem.W.Frag} {mg : Str → Option Value} {base : Heap} {f : Addr} {fd : FuncData}
theorem scPeriod : FnScope ["net", "found", "name", "first", "step", "k"] ["net"] (defScope sPeriod) := ⟨rfl, rfl, rfl, by decide +kernel, rfl, by decide +kernel, by decide +kernel⟩
theorem ok_period (F : Fun K "_law_period" "_law_period" sPeriod f fd) (T : Lw mg) : FnG P w K mg base 1 f fd ["net"] spPeriod := by
  refine okG F scPeriod (fun vs H Q E h => ?_) (fun cdv A outer s H vs Q E hg hr h => ?_)
  · obtain ⟨n, ps, rs, M, rfl, _⟩ := h
    rfl
  · obtain ⟨n, ps, rs, M, rfl, net, dv, m0, m1, k⟩ := h
    have hu := hu_of hr
    refine ⟨_, (pss_cons (ps_set (i := 1) scPeriod.nd rfl (.inr rfl) pe_int)
      (pss_cons (ps_for PassesOwn.never rfl (pi_list (pe_dget hu (pv 0) pe_str (fun _ _ => rfl))) (pg_tup (by rfl) (pgs_cons (pg_name (i := 2) scPeriod.nd rfl (.inl rfl)) (pgs_cons (pg_name (i := 3) scPeriod.nd rfl (.inl rfl)) (pgs_cons (pg_name (i := 4) scPeriod.nd rfl (.inr rfl)) pgs_nil))))
        (pss_one (ps_set (i := 1) scPeriod.nd rfl (.inr rfl) (pe_ix ix_list (pe_lc (own := [("k", 5)]) (by rfl) scPeriod.nd (pi_range2 (by rfl) T.zrange (pa_cons pe_int (pa_cons (pe_op op_add (pv 4) pe_int) pa_nil))) (blkOk_by (N := ["net", "found", "name", "first", "step", "k"]) (sc := defScope sPeriod) (by decide +kernel)) (fun _ _ _ _ _ => (pg_name (i := 5) scPeriod.nd rfl (.inl rfl))) (fun _ _ _ _ _ => (pts_one (pt_cmpR op_eq (pe_op op_mod (pe_callTy call_int1 (by rfl) T.zint (by decide +kernel) (pa_cons (pe_op op_mul (pv 1) (pv 5)) pa_nil)) (pv 4)) pe_int (nomark _)))) (fun _ _ _ _ _ => (pe_op op_mul (pv 1) (pv 5)))) pe_int (fun _ _ => rfl)))))
      (pss_one (ps_ret (pv 1))))), ?_⟩
    obtain ⟨PA, RA, as, bs, h1, h2, h3, h4, h5⟩ := net.ex
    have dvd : ∀ i, lcmOf (ps.take i) ∣ M := fun i => lcm_dvd (ps.take i) 1 (Nat.one_dvd M) fun p m => (dv p (List.mem_of_mem_take m)).2.2
    have below : ∀ i, lcmOf (ps.take i) < 2 ^ 60 := fun i => Nat.lt_of_le_of_lt (Nat.le_of_dvd m0 (dvd i)) m1
    have pos : ∀ i, 0 < lcmOf (ps.take i) := fun i => Nat.pos_of_dvd_of_pos (dvd i) m0
    refine ⟨_, rfl, n, _, rfl, get_pts h1, PA, rfl, ⟨_, SqL.of h2⟩, ?_⟩
    refine for_it walk_list (fun i σ H1 => ∃ v2 v3 v4 v5 : Option V, σ = [some (.ref n), some (.int (lcmOf (ps.take i) : Nat)), v2, v3, v4, v5] ∧ Same H H1) ⟨_, _, _, _, rfl, Same.refl _⟩ (fun i σ H1 _ ⟨_, _, _, _, _, s1⟩ => SqL.of (s1 _ _ h2)) ?_ ?_
    · rintro i y σ H1 H2 hi ⟨v2, v3, v4, v5, rfl, s1⟩ ⟨rfl, hy⟩
      have hi' : i < as.length := by rw [List.length_map] at hi; exact hi
      have hip : i < ps.length := by rw [← h4.1]; exact hi'
      obtain rfl : V.ref as[i] = y := by
        rw [List.getElem?_map, List.getElem?_eq_getElem hi'] at hy
        exact Option.some.inj hy
      have pa : H as[i] = some (.tup [.str ps[i].1, .int ps[i].2.1, .int ps[i].2.2]) := h4.2 i _ _ (List.getElem?_eq_getElem hi') (List.getElem?_eq_getElem hip)
      obtain ⟨d1, d60, d2⟩ := dv _ (List.getElem_mem hip)
      obtain ⟨st, est⟩ : ∃ st : Nat, ps[i].2.2 = (st : Int) := ⟨ps[i].2.2.toNat, (Int.toNat_of_nonneg (by omega)).symm⟩
      have est2 : ps[i].2.2.toNat = st := by rw [est]; exact Int.toNat_natCast st
      rw [est] at pa d1 d60
      refine ⟨as[i], _, rfl, SqT.of (s1 _ _ pa), rfl, _, _, rfl, _, _, rfl, _, _, rfl, rfl, ?_⟩
      have fp := pos i
      have fb := below i
      have step : lcmOf (ps.take (i + 1)) = Nat.lcm (lcmOf (ps.take i)) st := by rw [lcm_step ps i hip, est2]
      rw [step]
      generalize lcmOf (ps.take i) = a at fp fb
      refine ⟨_, rfl, _, _, rfl, rfl, 1, (st : Int) + 1, rfl, ⟨by omega, by omega, by omega, by omega⟩, fun D nD => ?_⟩
      have est3 : ((st : Int) + 1 - 1).toNat = st := by omega
      rw [est3]
      refine lc_range (lo := 1) (n := st) (fun i H3 => Same H2 H3 ∧ ∃ acc : List V, H3 D = some (.lst acc) ∧ acc.length ≤ i ∧ (((∀ j, j < i → ¬ st ∣ a * (j + 1)) ∧ acc = []) ∨ ∃ j r, (∀ m, m < j → ¬ st ∣ a * (m + 1)) ∧ st ∣ a * (j + 1) ∧ acc = V.int ((a * (j + 1) : Nat) : Int) :: r))
        ⟨same_new nD, [], upd_same, Nat.le_refl _, .inl ⟨fun j h => absurd h (by omega), rfl⟩⟩ ?_ ?_
      · rintro j H3 hj ⟨s3, acc, hD, la, inv⟩
        refine ⟨rfl, _, rfl, _, rfl, _, _, rfl, rfl, .inl ⟨by omega, by omega⟩, .inl ⟨_, rfl, _, rfl, _, _, rfl, rfl, by omega, rfl, ?_⟩⟩
        refine ⟨_, rfl, ?_⟩
        have ev : (a : Int) * (1 + (j : Int)) = ((a * (j + 1) : Nat) : Int) := by
          rw [Int.natCast_mul]
          congr 1
          omega
        rw [dec_V]
        by_cases d : st ∣ a * (j + 1)
        · rw [decide_eq_true ((mod_dvd a j st).mpr d)]
          refine iteT ⟨_, rfl, _, rfl, _, _, rfl, rfl, .inl ⟨by omega, by omega⟩, acc, hD, small1000 (by omega), fun b o z => by rw [upd_ne (ne_of_none z nD)]; exact s3 b o z, _, upd_same, by rw [List.length_append]; exact Nat.succ_le_succ la, .inr ?_⟩
          rcases inv with ⟨no, rfl⟩ | ⟨j0, r, no, yes, rfl⟩
          · exact ⟨j, [], no, d, congrArg (fun z => [V.int z]) ev⟩
          · exact ⟨j0, r ++ [_], no, yes, rfl⟩
        · rw [decide_eq_false (fun z => d ((mod_dvd a j st).mp z))]
          refine iteF ⟨s3, acc, hD, by omega, ?_⟩
          rcases inv with ⟨no, e⟩ | z
          · refine .inl ⟨fun m hm => ?_, e⟩
            rcases Nat.lt_or_eq_of_le (Nat.le_of_lt_succ hm) with l2 | rfl
            · exact no m l2
            · exact d
          · exact .inr z
      · rintro H3 ⟨s3, acc, hD, la, inv⟩
        rcases inv with ⟨no, e⟩ | ⟨j, r, no, yes, rfl⟩
        · exact absurd (by rw [show st - 1 + 1 = st by omega]; exact Nat.dvd_mul_left st a) (no (st - 1) (by omega))
        refine ⟨D, _, 0, _, rfl, rfl, SqL.of hD, atI_0, ?_⟩
        rw [← first_times fp no yes]
        exact ⟨_, _, _, _, rfl, s1.trans s3⟩
    · rintro σ H1 ⟨v2, v3, v4, v5, rfl, s1⟩
      rw [List.take_of_length_le (by rw [List.length_map, h4.1]; exact Nat.le_refl _)]
      exact ⟨_, rfl, k H1 s1⟩
end
end K06
namespace K06
open PySem PySem.Spec L2 Rt
open PyProof.Rows hiding St
abbrev OkS (ss : List Int) : Prop := ss ≠ [] ∧ ss.length < 100 ∧ ∀ s, s ∈ ss → 1 ≤ s ∧ s ≤ 12 ∧ s.toNat ∣ 420
def StepMenu (M : Hp) (xs : List V) : Prop := ∀ v, v ∈ xs → ∃ p ss, v = .ref p ∧ M p = some (.lst (ss.map V.int)) ∧ OkS ss
theorem stN {M : Hp} : StepMenu M [] := fun _ h => nomatch h
theorem stC {M : Hp} {p : Addr} {xs : List V} (ss : List Int) (h : M p = some (.lst (ss.map V.int))) (ok : OkS ss) (r : StepMenu M xs) : StepMenu M (.ref p :: xs) := fun v m => by
  rcases List.mem_cons.mp m with e | m
  · subst e
    exact ⟨p, ss, rfl, h, ok⟩
  · exact r v m
def spSteps : Sp := fun vs H Q _ => ∃ (d c : Addr), vs = [.ref d] ∧ Src H d c ∧ ∀ (p : Addr) (ss : List Int) (H' : Hp), mask d c H' p = some (.lst (ss.map V.int)) → OkS ss → Src H' d c → Keep d c H H' → Q (.ref p) H'
section
variable {P : Program} {w : World} {K : PySem.W.Frag} {mg : Str → Option Value} {base : Heap} {f : Addr} {fd : FuncData}
theorem scSteps : FnScope ["source"] ["source"] (defScope sSteps) := ⟨rfl, rfl, rfl, by decide +kernel, rfl, by decide +kernel, by decide +kernel⟩
theorem ok_steps (F : Fun K "_law_steps" "_law_steps" sSteps f fd) (cO : Cb P w K mg base 2 "_law_of" spOf) : FnG P w K mg base 3 f fd ["source"] spSteps := by
  refine okG F scSteps (fun vs H Q E h => ?_) (fun cdv A outer s H vs Q E hg hr h => ?_)
  · obtain ⟨d, c, rfl, _⟩ := h
    rfl
  · obtain ⟨d, c, rfl, S, k⟩ := h
    refine ⟨_, (pss_one (ps_ret (pe_k cO hg hr (by decide) (by rfl) (pa_cons (pv 0) (pa_cons (pe_lst (pa_cons (pe_lst (pa_cons pe_int pa_nil)) (pa_cons (pe_lst (pa_cons pe_int (pa_cons pe_int (pa_cons pe_int pa_nil)))) (pa_cons (pe_lst (pa_cons pe_int (pa_cons pe_int (pa_cons pe_int pa_nil)))) (pa_cons (pe_lst (pa_cons pe_int (pa_cons pe_int (pa_cons pe_int pa_nil)))) (pa_cons (pe_lst (pa_cons pe_int (pa_cons pe_int (pa_cons pe_int pa_nil)))) (pa_cons (pe_lst (pa_cons pe_int (pa_cons pe_int (pa_cons pe_int pa_nil)))) (pa_cons (pe_lst (pa_cons pe_int (pa_cons pe_int (pa_cons pe_int pa_nil)))) (pa_cons (pe_lst (pa_cons pe_int (pa_cons pe_int pa_nil))) pa_nil))))))))) pa_nil))))), ?_⟩
    refine ⟨_, rfl, ?_⟩
    refine ⟨(by show 1 ≤ sizeLine; decide), fun l0 nl0 => ?_⟩
    have al0 := S.away nl0
    have Sl0 := S.new (o := .lst [.int 1]) nl0
    have gl0 := mask_new (d := d) (c := c) (o := .lst [.int 1]) nl0
    have kl0 := Keep.refl.new (d := d) (c := c) (o := .lst [.int 1]) nl0
    have fl0 := mask_at (d := d) (c := c) al0 (upd_same (H := H) (a := l0) (o := .lst [.int 1]))
    revert Sl0 gl0 kl0 fl0
    generalize upd H l0 (.lst [.int 1]) = hl0
    intro Sl0 gl0 kl0 fl0
    refine ⟨(by show 3 ≤ sizeLine; decide), fun l1 nl1 => ?_⟩
    have al1 := Sl0.away nl1
    have Sl1 := Sl0.new (o := .lst [.int 1, .int 2, .int 3]) nl1
    have gl1 := mask_new (d := d) (c := c) (o := .lst [.int 1, .int 2, .int 3]) nl1
    have kl1 := Keep.refl.new (d := d) (c := c) (o := .lst [.int 1, .int 2, .int 3]) nl1
    have fl1 := mask_at (d := d) (c := c) al1 (upd_same (H := hl0) (a := l1) (o := .lst [.int 1, .int 2, .int 3]))
    revert Sl1 gl1 kl1 fl1
    generalize upd hl0 l1 (.lst [.int 1, .int 2, .int 3]) = hl1
    intro Sl1 gl1 kl1 fl1
    refine ⟨(by show 3 ≤ sizeLine; decide), fun l2 nl2 => ?_⟩
    have al2 := Sl1.away nl2
    have Sl2 := Sl1.new (o := .lst [.int 1, .int 2, .int 4]) nl2
    have gl2 := mask_new (d := d) (c := c) (o := .lst [.int 1, .int 2, .int 4]) nl2
    have kl2 := Keep.refl.new (d := d) (c := c) (o := .lst [.int 1, .int 2, .int 4]) nl2
    have fl2 := mask_at (d := d) (c := c) al2 (upd_same (H := hl1) (a := l2) (o := .lst [.int 1, .int 2, .int 4]))
    revert Sl2 gl2 kl2 fl2
    generalize upd hl1 l2 (.lst [.int 1, .int 2, .int 4]) = hl2
    intro Sl2 gl2 kl2 fl2
    refine ⟨(by show 3 ≤ sizeLine; decide), fun l3 nl3 => ?_⟩
    have al3 := Sl2.away nl3
    have Sl3 := Sl2.new (o := .lst [.int 2, .int 3, .int 6]) nl3
    have gl3 := mask_new (d := d) (c := c) (o := .lst [.int 2, .int 3, .int 6]) nl3
    have kl3 := Keep.refl.new (d := d) (c := c) (o := .lst [.int 2, .int 3, .int 6]) nl3
    have fl3 := mask_at (d := d) (c := c) al3 (upd_same (H := hl2) (a := l3) (o := .lst [.int 2, .int 3, .int 6]))
    revert Sl3 gl3 kl3 fl3
    generalize upd hl2 l3 (.lst [.int 2, .int 3, .int 6]) = hl3
    intro Sl3 gl3 kl3 fl3
    refine ⟨(by show 3 ≤ sizeLine; decide), fun l4 nl4 => ?_⟩
    have al4 := Sl3.away nl4
    have Sl4 := Sl3.new (o := .lst [.int 3, .int 4, .int 12]) nl4
    have gl4 := mask_new (d := d) (c := c) (o := .lst [.int 3, .int 4, .int 12]) nl4
    have kl4 := Keep.refl.new (d := d) (c := c) (o := .lst [.int 3, .int 4, .int 12]) nl4
    have fl4 := mask_at (d := d) (c := c) al4 (upd_same (H := hl3) (a := l4) (o := .lst [.int 3, .int 4, .int 12]))
    revert Sl4 gl4 kl4 fl4
    generalize upd hl3 l4 (.lst [.int 3, .int 4, .int 12]) = hl4
    intro Sl4 gl4 kl4 fl4
    refine ⟨(by show 3 ≤ sizeLine; decide), fun l5 nl5 => ?_⟩
    have al5 := Sl4.away nl5
    have Sl5 := Sl4.new (o := .lst [.int 1, .int 5, .int 10]) nl5
    have gl5 := mask_new (d := d) (c := c) (o := .lst [.int 1, .int 5, .int 10]) nl5
    have kl5 := Keep.refl.new (d := d) (c := c) (o := .lst [.int 1, .int 5, .int 10]) nl5
    have fl5 := mask_at (d := d) (c := c) al5 (upd_same (H := hl4) (a := l5) (o := .lst [.int 1, .int 5, .int 10]))
    revert Sl5 gl5 kl5 fl5
    generalize upd hl4 l5 (.lst [.int 1, .int 5, .int 10]) = hl5
    intro Sl5 gl5 kl5 fl5
    refine ⟨(by show 3 ≤ sizeLine; decide), fun l6 nl6 => ?_⟩
    have al6 := Sl5.away nl6
    have Sl6 := Sl5.new (o := .lst [.int 7, .int 7, .int 1]) nl6
    have gl6 := mask_new (d := d) (c := c) (o := .lst [.int 7, .int 7, .int 1]) nl6
    have kl6 := Keep.refl.new (d := d) (c := c) (o := .lst [.int 7, .int 7, .int 1]) nl6
    have fl6 := mask_at (d := d) (c := c) al6 (upd_same (H := hl5) (a := l6) (o := .lst [.int 7, .int 7, .int 1]))
    revert Sl6 gl6 kl6 fl6
    generalize upd hl5 l6 (.lst [.int 7, .int 7, .int 1]) = hl6
    intro Sl6 gl6 kl6 fl6
    refine ⟨(by show 2 ≤ sizeLine; decide), fun l7 nl7 => ?_⟩
    have al7 := Sl6.away nl7
    have Sl7 := Sl6.new (o := .lst [.int 4, .int 6]) nl7
    have gl7 := mask_new (d := d) (c := c) (o := .lst [.int 4, .int 6]) nl7
    have kl7 := Keep.refl.new (d := d) (c := c) (o := .lst [.int 4, .int 6]) nl7
    have fl7 := mask_at (d := d) (c := c) al7 (upd_same (H := hl6) (a := l7) (o := .lst [.int 4, .int 6]))
    revert Sl7 gl7 kl7 fl7
    generalize upd hl6 l7 (.lst [.int 4, .int 6]) = hl7
    intro Sl7 gl7 kl7 fl7
    have menu : StepMenu (mask d c hl7) [.ref l0, .ref l1, .ref l2, .ref l3, .ref l4, .ref l5, .ref l6, .ref l7] := (stC [1] (gl7 _ _ (gl6 _ _ (gl5 _ _ (gl4 _ _ (gl3 _ _ (gl2 _ _ (gl1 _ _ fl0))))))) (by decide) (stC [1, 2, 3] (gl7 _ _ (gl6 _ _ (gl5 _ _ (gl4 _ _ (gl3 _ _ (gl2 _ _ fl1)))))) (by decide) (stC [1, 2, 4] (gl7 _ _ (gl6 _ _ (gl5 _ _ (gl4 _ _ (gl3 _ _ fl2))))) (by decide) (stC [2, 3, 6] (gl7 _ _ (gl6 _ _ (gl5 _ _ (gl4 _ _ fl3)))) (by decide) (stC [3, 4, 12] (gl7 _ _ (gl6 _ _ (gl5 _ _ fl4))) (by decide) (stC [1, 5, 10] (gl7 _ _ (gl6 _ _ fl5)) (by decide) (stC [7, 7, 1] (gl7 _ _ fl6) (by decide) (stC [4, 6] fl7 (by decide) stN))))))))
    have kk := (((((((kl0.trans kl1).trans kl2).trans kl3).trans kl4).trans kl5).trans kl6).trans kl7)
    refine ⟨(by show 8 ≤ sizeLine; decide), fun p np => ?_⟩
    have ap := Sl7.away np
    refine ⟨d, c, p, _, rfl, Sl7.new np, upd_same, ap.2, (by show 0 < 8; decide), (by show 8 < 1000000000; decide), fun i v H' hi S' kp => ?_⟩
    obtain ⟨q, ss, rfl, hq, ok⟩ := menu v (List.mem_of_getElem? hi)
    exact k q ss H' (mask_keep kp _ _ (mask_new np _ _ hq)) ok S' ((kk.new np).trans kp)
end
end K06
namespace K06
open PySem PySem.Spec L2 Rt
open PyProof.Rows hiding St
abbrev sLNet : Stmt := top 37
theorem mask_but {d c D : Addr} {o : HO} {H : Hp} : Sbut D (mask d c H) (mask d c (upd H D o)) := fun b u e n => by
  unfold mask at e ⊢
  split at e
  · cases e
  · rename_i z
    rw [if_neg z, upd_ne n]
    exact e
theorem Row.snoc {α : Type} {f : α → HO} {H : Hp} {as : List Addr} {ps : List α} {a : Addr} {p : α} (r : Row f H as ps) (h : H a = some (f p)) : Row f H (as ++ [a]) (ps ++ [p]) := by
  refine ⟨by rw [List.length_append, List.length_append, r.1]; rfl, fun i b q h1 h2 => ?_⟩
  rcases Nat.lt_or_ge i as.length with lt | ge
  · rw [List.getElem?_append_left lt] at h1
    rw [List.getElem?_append_left (by rw [← r.1]; exact lt)] at h2
    exact r.2 i b q h1 h2
  · have e : i = as.length := by
      have := (List.getElem?_eq_some_iff.mp h1).1
      rw [List.length_append] at this
      simp at this
      omega
    rw [e, List.getElem?_append_right (Nat.le_refl _), Nat.sub_self] at h1
    rw [e, r.1, List.getElem?_append_right (Nat.le_refl _), Nat.sub_self] at h2
    cases h1
    cases h2
    exact h
theorem far_small {z : Int} (h : z ∈ ([6, 12, 25] : List Int)) : 6 ≤ z ∧ z ≤ 25 := by
  simp only [List.mem_cons, List.not_mem_nil, or_false] at h
  rcases h with e | e | e <;> subst e <;> decide
theorem less_small {z : Int} (h : z ∈ ([0, 0, 3, 9] : List Int)) : 0 ≤ z ∧ z ≤ 9 := by
  simp only [List.mem_cons, List.not_mem_nil, or_false] at h
  rcases h with e | e | e | e <;> subst e <;> decide
theorem str_at {ws : List Str} {i : Nat} {v : V} (h : (ws.map V.str)[i]? = some v) : ∃ x, v = .str x ∧ x ∈ ws := by
  rw [List.getElem?_map] at h
  cases e : ws[i]? with
  | none => rw [e] at h; cases h
  | some x =>
    rw [e] at h
    exact ⟨x, (Option.some.inj h).symm, List.mem_of_getElem? e⟩
theorem merge2 {a b : Str} {x y : V} (h : ¬ a = b) : mergeK [] [((Sum.inr a : Key), x), (Sum.inr b, y)] = [(Sum.inr a, x), (Sum.inr b, y)] := by
  have h1 := ne_inr h
  unfold mergeK putK
  simp [h1]
structure PtD (p : Pt) : Prop where
  s1 : 1 ≤ p.2.2
  s12 : p.2.2 ≤ 12
  dv : p.2.2.toNat ∣ 420
  f1 : -12 ≤ p.2.1
  f2 : p.2.1 ≤ 12
structure RlD (r : Rl) : Prop where
  l1 : -40 ≤ r.2.2
  l2 : r.2.2 ≤ 40
structure Drawn (ps : List Pt) (rs : List Rl) (most ties : Nat) : Prop where
  good : Good ps rs
  p0 : 0 < ps.length
  pm : ps.length ≤ most
  rm : rs.length ≤ ties
  pt : ∀ p, p ∈ ps → PtD p
  rl : ∀ r, r ∈ rs → RlD r
def spNet : Sp := fun vs H Q _ => ∃ (d c : Addr) (most ties : Nat), vs = [.ref d, .int most, .int ties] ∧ Src H d c ∧ 1 ≤ most ∧ most ≤ 50 ∧ ties ≤ 50 ∧
  ∀ (n : Addr) (ps : List Pt) (rs : List Rl) (H' : Hp), LNet (mask d c H') n ps rs → Drawn ps rs most ties → Src H' d c → Keep d c H H' → Q (.ref n) H'
section
variable {P : Program} {w : World} {K : PySem.W.Frag} {mg : Str → Option Value} {base : Heap} {f : Addr} {fd : FuncData}
theorem scNet : FnScope ["source", "most", "ties", "names", "steps", "far", "points", "rules", "lap", "start", "end", "name"] ["source", "most", "ties"] (defScope sLNet) := ⟨rfl, rfl, rfl, by decide +kernel, rfl, by decide +kernel, by decide +kernel⟩
theorem ok_net (F : Fun K "_law_net" "_law_net" sLNet f fd) (T : Lw mg) (cP : Cb P w K mg base 1 "_law_pick" spPick) (cO : Cb P w K mg base 2 "_law_of" spOf) (cN : Cb P w K mg base 2 "_law_names" spNames) (cS : Cb P w K mg base 3 "_law_steps" spSteps) : FnG P w K mg base 4 f fd ["source", "most", "ties"] spNet := by
  refine okG F scNet (fun vs H Q E h => ?_) (fun cdv A outer s H vs Q E hg hr h => ?_)
  · obtain ⟨d, c, m, t, rfl, _⟩ := h
    rfl
  · obtain ⟨d, c, m, t, rfl, S, hm1, hm2, ht, k⟩ := h
    refine ⟨_, (pss_cons (ps_asg (pe_tup (pa_cons (pe_k cN hg hr (by decide) (by rfl) (pa_cons (pv 0) (pa_cons (pe_op op_add pe_int (pe_k cP hg hr (by decide) (by rfl) (pa_cons (pv 0) (pa_cons (pv 1) pa_nil)))) pa_nil))) (pa_cons (pe_k cS hg hr (by decide) (by rfl) (pa_cons (pv 0) pa_nil)) pa_nil))) (pg_tup (by rfl) (pgs_cons (pg_name (i := 3) scNet.nd rfl (.inl rfl)) (pgs_cons (pg_name (i := 4) scNet.nd rfl (.inr rfl)) pgs_nil))))
      (pss_cons (ps_set (i := 5) scNet.nd rfl (.inl rfl) (pe_k cO hg hr (by decide) (by rfl) (pa_cons (pv 0) (pa_cons (pe_lst (pa_cons pe_int (pa_cons pe_int (pa_cons pe_int pa_nil)))) pa_nil))))
      (pss_cons (ps_setLc (i := 6) (own := [("name", 11)]) rfl scNet.nd rfl rfl (sw_true rfl rfl rfl (by decide +kernel)) (pi_list (pv 3)) (blkOk_by (N := ["source", "most", "ties", "names", "steps", "far", "points", "rules", "lap", "start", "end", "name"]) (sc := defScope sLNet) (by decide +kernel)) (fun _ _ _ _ _ => (pg_name (i := 11) scNet.nd rfl (.inl rfl))) (fun _ _ _ _ _ => pts_nil) (fun _ _ _ _ _ => (pe_tup (pa_cons (pv 11) (pa_cons (pe_op op_sub (pe_k cP hg hr (by decide) (by rfl) (pa_cons (pv 0) (pa_cons pe_int pa_nil))) pe_int) (pa_cons (pe_k cO hg hr (by decide) (by rfl) (pa_cons (pv 0) (pa_cons (pv 4) pa_nil))) pa_nil))))))
      (pss_cons (ps_set (i := 7) scNet.nd rfl (.inl rfl) (pe_lst pa_nil))
      (pss_cons (ps_for PassesOwn.never rfl (pi_range1 (by rfl) T.zrange (pa_cons (pe_k cP hg hr (by decide) (by rfl) (pa_cons (pv 0) (pa_cons (pe_op op_add (pv 2) pe_int) pa_nil))) pa_nil)) (pg_name (i := 8) scNet.nd rfl (.inl rfl))
        (pss_cons (ps_par (i := 9) (j := 10) rfl scNet.nd rfl rfl (by decide) rfl rfl (pa_cons (pe_k cO hg hr (by decide) (by rfl) (pa_cons (pv 0) (pa_cons (pv 3) pa_nil))) (pa_cons (pe_k cO hg hr (by decide) (by rfl) (pa_cons (pv 0) (pa_cons (pv 3) pa_nil))) pa_nil)) (by rfl))
        (pss_one (ps_expr (pe_bm PySem.F.plainAttrs_list PySem.F.slot_list_append PySem.F.type_list_append mt_append (pv 7) (pa_cons (pe_tup (pa_cons (pv 9) (pa_cons (pv 10) (pa_cons (pe_op op_sub (pe_op op_sub (pe_k cP hg hr (by decide) (by rfl) (pa_cons (pv 0) (pa_cons (pe_op op_mul pe_int (pv 5)) pa_nil))) (pv 5)) (pe_k cO hg hr (by decide) (by rfl) (pa_cons (pv 0) (pa_cons (pe_lst (pa_cons pe_int (pa_cons pe_int (pa_cons pe_int (pa_cons pe_int pa_nil))))) pa_nil)))) pa_nil)))) pa_nil))))))
      (pss_one (ps_ret (pe_disp (pps_cons pe_str (pv 6) (pps_cons pe_str (pv 7) pps_nil)) (by rfl) (by rfl) (fun z => by cases z) (by decide))))))))), ?_⟩
    -- names, steps
    refine ⟨_, rfl, _, rfl, _, rfl, d, c, _, rfl, S, (by omega), fun r H1 r0 r1 S1 k1 => ?_⟩
    have er : ∃ n : Nat, r = (n : Int) := ⟨r.toNat, (Int.toNat_of_nonneg r0).symm⟩
    obtain ⟨n, rfl⟩ := er
    refine ⟨_, _, rfl, rfl, d, c, 1 + n, by rw [Int.natCast_add]; rfl, S1, by omega, fun L ws H2 nL S2 k2 hL lw wok wnd => ?_⟩
    have aL := S1.away nL
    have mL := mask_at aL hL
    refine ⟨_, rfl, d, c, rfl, S2, fun q ss H3 hq okS S3 k3 => ?_⟩
    refine ⟨(by show 2 ≤ sizeLine; decide), fun tu ntu => ?_⟩
    have S4 := S3.new (o := .tup [.ref L, .ref q]) ntu
    refine ⟨tu, _, rfl, SqT.of upd_same, rfl, _, _, rfl, _, _, rfl, rfl, ?_⟩
    -- far
    refine ⟨_, rfl, (by show 3 ≤ sizeLine; decide), fun lf nf => ?_⟩
    refine ⟨d, c, lf, ([6, 12, 25] : List Int).map V.int, rfl, S4.new nf, upd_same, (S4.away nf).2, (by show 0 < 3; decide), (by show 3 < 1000000000; decide), fun j v H5 hv S5 k5 => ?_⟩
    obtain ⟨far, hfar, rfl⟩ := int_at hv
    have bfar : 6 ≤ far ∧ far ≤ 25 := far_small (List.mem_of_getElem? hfar)
    have g5 : Same (mask d c H3) (mask d c H5) := ((mask_new ntu).trans (mask_new nf)).trans (mask_keep k5)
    have mL5 := g5 _ _ ((mask_keep k3) _ _ mL)
    have hq5 := g5 _ _ hq
    have t5 : Keep d c H H5 := (((k1.trans k2).trans k3).new ntu |>.new nf).trans k5
    -- points
    refine ⟨_, rfl, L, rfl, ⟨_, SqL.of (mask_same _ _ mL5)⟩, fun D nD => ?_⟩
    have aD := S5.away nD
    refine lc_it walk_list (fun i H6 => ∃ (as : List Addr) (ps : List Pt), Keep d c H5 H6 ∧ Src H6 d c ∧ mask d c H6 D = some (.lst (as.map V.ref)) ∧ Row ptV (mask d c H6) as ps ∧ namesOf ps = ws.take i ∧ ∀ p, p ∈ ps → PtD p)
      ⟨[], [], Keep.refl.new nD, S5.new nD, mask_at aD upd_same, ⟨rfl, fun i a p h => nomatch h⟩, rfl, fun p h => nomatch h⟩ (fun i H6 _ ⟨_, _, z, _⟩ => SqL.of (mask_same _ _ (mask_keep z _ _ mL5))) ?_ ?_
    · rintro i y H6 H7 hi ⟨as, ps, k6, S6, hD, row, en, okp⟩ ⟨rfl, hy⟩
      have hi' : i < ws.length := by rw [List.length_map] at hi; exact hi
      obtain rfl : V.str ws[i] = y := by
        rw [List.getElem?_map, List.getElem?_eq_getElem hi'] at hy
        exact Option.some.inj hy
      refine ⟨rfl, _, rfl, _, rfl, d, c, _, rfl, S6, (by decide), fun r8 H8 r80 r81 S8 k8 => ?_⟩
      refine ⟨_, _, rfl, rfl, _, rfl, _, rfl, d, c, q, ss.map V.int, rfl, S8, mask_same _ _ ((mask_keep (k6.trans k8)) _ _ hq5), ?_, by rw [List.length_map]; exact List.length_pos_iff.mpr okS.1, by rw [List.length_map]; have := okS.2.1; omega, fun j9 v9 H9 hv9 S9 k9 => ?_⟩
      · intro z
        rw [z] at hq5
        unfold mask at hq5
        rw [if_pos (.inr rfl)] at hq5
        cases hq5
      obtain ⟨st, hst, rfl⟩ := int_at hv9
      obtain ⟨b1, b2, b3⟩ := okS.2.2 st (List.mem_of_getElem? hst)
      refine ⟨(by show 3 ≤ sizeLine; decide), fun tp ntp => ?_⟩
      have atp := S9.away ntp
      have g9 : Same (mask d c H7) (mask d c (upd H9 tp (.tup [.str ws[i], .int (r8 - 12), .int st]))) := (mask_keep (k8.trans k9)).trans (mask_new ntp)
      have hD9 := g9 _ _ hD
      have htp : mask d c (upd H9 tp (.tup [.str ws[i], .int (r8 - 12), .int st])) tp = some (ptV (ws[i], r8 - 12, st)) := mask_at atp upd_same
      have row9 := (row.same g9).snoc htp
      have DD : D ∉ as ++ [tp] := row_not row9 hD9 (fun p z => by cases z)
      refine ⟨as.map V.ref, mask_same _ _ hD9, small1000 ?_, as ++ [tp], ps ++ [(ws[i], r8 - 12, st)], ?_, ?_, ?_, row9.but mask_but DD, ?_, ?_⟩
      · rw [List.length_map, row.1, ← List.length_map (f := fun p : Pt => p.1), show (ps.map fun p => p.1) = ws.take i from en, List.length_take]
        omega
      · exact (((k6.trans k8).trans k9).new ntp).put nD
      · exact (S9.new ntp).put aD
      · refine mask_at aD ?_
        rw [upd_same, List.map_append]
        rfl
      · rw [List.take_succ, List.getElem?_eq_getElem hi', ← en]
        exact List.map_append
      · intro p hp
        rcases List.mem_append.mp hp with h | h
        · exact okp p h
        · cases List.mem_singleton.mp h
          exact ⟨b1, b2, b3, by show -12 ≤ r8 - 12; omega, by show r8 - 12 ≤ 12; omega⟩
    · rintro H6 ⟨as, ps, k6, S6, hD, row, en, okp⟩
      have e1 : ws.take (ws.map V.str).length = ws := List.take_of_length_le (by rw [List.length_map]; exact Nat.le_refl _)
      rw [e1] at en
      have lps : ps.length = 1 + n := by rw [← lw, ← en, List.length_map]
      have nL0 : L ≠ c := aL.2
      refine ⟨(by show 0 ≤ sizeLine; decide), fun R nR => ?_⟩
      have aR := S6.away nR
      have S7 := S6.new (o := .lst []) nR
      refine ⟨_, rfl, _, rfl, _, _, rfl, rfl, d, c, _, rfl, S7, by omega, fun rr H8 q0 q1 S8 k8 => ⟨rr, rfl, by omega, by omega, ?_⟩⟩
      have mR8 : mask d c H8 R = some (.lst []) := mask_keep k8 _ _ (mask_at aR upd_same)
      have k68 : Keep d c H6 H8 := (Keep.refl.new nR).trans k8
      refine for_range (lo := 0) (fun i σ H9 => ∃ (v8 v9 v10 v11 : Option V) (bs : List Addr) (rs : List Rl), σ = [some (.ref d), some (.int m), some (.int t), some (.ref L), some (.ref q), some (.int far), some (.ref D), some (.ref R), v8, v9, v10, v11] ∧
          Keep d c H6 H9 ∧ Src H9 d c ∧ mask d c H9 R = some (.lst (bs.map V.ref)) ∧ Row rlV (mask d c H9) bs rs ∧ rs.length = i ∧ ∀ r, r ∈ rs → RlD r ∧ r.1 ∈ ws ∧ r.2.1 ∈ ws)
        ⟨_, _, _, _, [], [], rfl, k68, S8, mR8, ⟨rfl, fun i a p h => nomatch h⟩, rfl, fun r h => nomatch h⟩ ?_ ?_
      · rintro i σ H9 hi ⟨v8, v9, v10, v11, bs, rs, rfl, k9, S9, hR, row9, lr, okr⟩
        have hL9 : ∀ {H'}, Keep d c H9 H' → H' L = some (.lst (ws.map V.str)) := fun z => mask_same _ _ (mask_keep ((k6.trans k9).trans z) _ _ mL5)
        refine ⟨_, rfl, _, rfl, d, c, L, ws.map V.str, rfl, S9, hL9 Keep.refl, nL0, by rw [List.length_map]; omega, by rw [List.length_map]; omega, fun ja va Ha hva Sa ka => ?_⟩
        refine ⟨_, rfl, _, rfl, d, c, L, ws.map V.str, rfl, Sa, hL9 ka, nL0, by rw [List.length_map]; omega, by rw [List.length_map]; omega, fun jb vb Hb hvb Sb kb => ?_⟩
        obtain ⟨wa, rfl, ma⟩ := str_at hva
        obtain ⟨wb, rfl, mb⟩ := str_at hvb
        refine ⟨_, _, rfl, ?_⟩
        have mRb := mask_keep (ka.trans kb) _ _ hR
        refine ⟨_, rfl, .inl ⟨rfl, _, SqL.of (mask_same _ _ mRb)⟩, _, rfl, _, rfl, ?_⟩
        refine ⟨_, rfl, _, rfl, _, _, rfl, rfl, .inl ⟨by decide, by decide⟩, d, c, _, rfl, Sb, by omega, fun rc Hc c0 c1 Sc kc => ?_⟩
        refine ⟨_, rfl, _, _, rfl, rfl, _, rfl, (by show 4 ≤ sizeLine; decide), fun lz nlz => ?_⟩
        refine ⟨d, c, lz, ([0, 0, 3, 9] : List Int).map V.int, rfl, Sc.new nlz, upd_same, (Sc.away nlz).2, (by show 0 < 4; decide), (by show 4 < 1000000000; decide), fun jd vd Hd hvd Sd kd => ?_⟩
        obtain ⟨z, hz, rfl⟩ := int_at hvd
        have bz : 0 ≤ z ∧ z ≤ 9 := less_small (List.mem_of_getElem? hz)
        refine ⟨_, _, rfl, rfl, (by show 3 ≤ sizeLine; decide), fun tp ntp => ?_⟩
        have atp := Sd.away ntp
        have kk : Keep d c H9 (upd Hd tp (.tup [.str wa, .str wb, .int (rc - far - z)])) := ((((ka.trans kb).trans kc).new nlz).trans kd).new ntp
        have hRd := mask_keep kk _ _ hR
        have htp : mask d c (upd Hd tp (.tup [.str wa, .str wb, .int (rc - far - z)])) tp = some (rlV (wa, wb, rc - far - z)) := mask_at atp upd_same
        have rowd := (row9.same (mask_keep kk)).snoc htp
        have RR : R ∉ bs ++ [tp] := row_not rowd hRd (fun p z => by cases z)
        refine ⟨R, _, _, rfl, rfl, mask_same _ _ hRd, small1000 (by rw [List.length_map, row9.1]; omega), ?_⟩
        refine ⟨_, _, _, _, bs ++ [tp], rs ++ [(wa, wb, rc - far - z)], rfl, (k9.trans kk).put nR, (Sd.new ntp).put aR, mask_at aR ?_, rowd.but mask_but RR, by rw [List.length_append, lr]; rfl, ?_⟩
        · rw [upd_same, List.map_append]
          rfl
        · intro r hr
          rcases List.mem_append.mp hr with h | h
          · exact okr r h
          · cases List.mem_singleton.mp h
            exact ⟨⟨by show -40 ≤ rc - far - z; omega, by show rc - far - z ≤ 40; omega⟩, ma, mb⟩
      · rintro σ H9 ⟨v8, v9, v10, v11, bs, rs, rfl, k9, S9, hR, row9, lr, okr⟩
        intro nt nnt
        have ant := S9.away nnt
        refine ⟨_, rfl, _, rfl, upd_same, [(Sum.inr "points", .ref D), (Sum.inr "rules", .ref R)], rfl, (by show 2 ≤ 15; decide), ?_⟩
        rw [upd_upd, merge2 (by decide +kernel)]
        have gn : Same (mask d c H6) (mask d c (upd H9 nt (.dK [(Sum.inr "points", .ref D), (Sum.inr "rules", .ref R)]))) := (mask_keep k9).trans (mask_new nnt)
        have g9 := mask_new (d := d) (c := c) (o := .dK [(Sum.inr "points", .ref D), (Sum.inr "rules", .ref R)]) nnt
        refine k nt ps rs _ ⟨D, R, as, bs, mask_at ant upd_same, gn _ _ hD, g9 _ _ hR, row.same gn, row9.same g9⟩ ⟨⟨fun p hp => ?_, ?_, by omega, fun r hr => ?_, by omega⟩, by omega, by omega, by omega, okp, fun r hr => (okr r hr).1⟩ (S9.new nnt) (((t5.trans k6).trans k9).new nnt)
        · have q := okp p hp
          refine ⟨wok _ ?_, q.s1, Int.le_trans q.s12 (by decide)⟩
          rw [← en]
          exact List.mem_map_of_mem hp
        · rw [en]
          exact wnd
        · rw [en]
          exact (okr r hr).2
end
end K06
/-! own mathematics: rising over rules comes to its end within so many laps as there are numbers, or there is no timetable -/
namespace Rise
def upc (f s x : Int) : Int := f + (x - f + s - 1) / s * s
theorem upc_on (f s x : Int) : (upc f s x - f) % s = 0 := by
  unfold upc
  rw [show f + (x - f + s - 1) / s * s - f = (x - f + s - 1) / s * s by omega]
  exact Int.mul_emod_left _ _
theorem upc_ge {f s x : Int} (h : 0 < s) : x ≤ upc f s x := by
  unfold upc
  have e := Int.emod_add_mul_ediv (x - f + s - 1) s
  have l := Int.emod_lt_of_pos (x - f + s - 1) h
  rw [Int.mul_comm] at e
  omega
theorem upc_lt {f s x : Int} (h : 0 < s) : upc f s x < x + s := by
  unfold upc
  have e := Int.emod_add_mul_ediv (x - f + s - 1) s
  have l := Int.emod_nonneg (x - f + s - 1) (Int.ne_of_gt h)
  rw [Int.mul_comm] at e
  omega
/-- two numbers of a clock that are less than a step apart -/
theorem near_le {f s a b : Int} (h : 0 < s) (ha : (a - f) % s = 0) (hb : (b - f) % s = 0) (lt : a < b + s) : a ≤ b := by
  obtain ⟨i, hi⟩ := Int.dvd_of_emod_eq_zero ha
  obtain ⟨j, hj⟩ := Int.dvd_of_emod_eq_zero hb
  have e : a - b = s * (i - j) := by rw [Int.mul_sub]; omega
  have l : s * (i - j) < s * 1 := by rw [← e, Int.mul_one]; omega
  have q := Int.lt_of_mul_lt_mul_left l (Int.le_of_lt h)
  have : s * (i - j) ≤ s * 0 := Int.mul_le_mul_of_nonneg_left (by omega) (Int.le_of_lt h)
  rw [Int.mul_zero] at this
  omega
theorem upc_least {f s x z : Int} (h : 0 < s) (le : x ≤ z) (on : (z - f) % s = 0) : upc f s x ≤ z :=
  near_le h (upc_on f s x) on (by have := upc_lt (f := f) (x := x) h; omega)
theorem on_add {f s z N K : Int} (d : s ∣ N) (on : (z - f) % s = 0) : (z - K * N - f) % s = 0 := by
  obtain ⟨q, rfl⟩ := d
  rw [show z - K * (s * q) - f = (z - f) - s * (K * q) by rw [show K * (s * q) = s * (K * q) by rw [Int.mul_left_comm]]; omega]
  obtain ⟨i, hi⟩ := Int.dvd_of_emod_eq_zero on
  rw [hi, ← Int.mul_sub]
  exact Int.mul_emod_right _ _
theorem nodup_len : ∀ (M : Nat) (l : List Nat), l.Nodup → (∀ x, x ∈ l → x < M) → l.length ≤ M
  | 0, l, _, h => by
    cases l with
    | nil => exact Nat.le_refl _
    | cons x l => exact absurd (h x List.mem_cons_self) (Nat.not_lt_zero _)
  | M + 1, l, nd, h => by
    have q := nodup_len M (l.erase M) (List.Nodup.erase M nd) (fun x m => by
      have z := (List.Nodup.mem_erase_iff nd).mp m
      have := h x z.2
      have := z.1
      omega)
    rw [List.length_erase] at q
    split at q <;> omega
def code (N : Nat) (a : Nat × Int) : Nat := a.1 * N + (a.2 % (N : Int)).toNat
theorem code_inj {N : Nat} (h : 0 < N) {p q : Nat} {x y : Int} (e : code N (p, x) = code N (q, y)) : p = q ∧ x % (N : Int) = y % (N : Int) := by
  unfold code at e
  have b1 := Int.emod_nonneg x (show (N : Int) ≠ 0 by omega)
  have b2 := Int.emod_nonneg y (show (N : Int) ≠ 0 by omega)
  have c1 := Int.emod_lt_of_pos x (show (0 : Int) < N by omega)
  have c2 := Int.emod_lt_of_pos y (show (0 : Int) < N by omega)
  simp only at e
  have r1 : (x % (N : Int)).toNat < N := by omega
  have r2 : (y % (N : Int)).toNat < N := by omega
  have m1 : (p * N + (x % (N : Int)).toNat) % N = (x % (N : Int)).toNat := by rw [Nat.mul_comm, Nat.mul_add_mod, Nat.mod_eq_of_lt r1]
  have m2 : (q * N + (y % (N : Int)).toNat) % N = (y % (N : Int)).toNat := by rw [Nat.mul_comm, Nat.mul_add_mod, Nat.mod_eq_of_lt r2]
  rw [e, m2] at m1
  have pq : p * N = q * N := by omega
  exact ⟨Nat.eq_of_mul_eq_mul_right h pq, by omega⟩
section
variable {n N : Nat} {f s T : Nat → Int}
/-- how a number has come: a row of numbers, each led to by the next one -/
structure Chain (n N : Nat) (T X : Nat → Int) (p k : Nat) : Prop where
  ex : ∃ c : List (Nat × Int), c.length = k + 1 ∧ (∀ a, a ∈ c → a.1 < n ∧ a.2 ≤ X a.1 ∧ ∀ K : Int, a.2 + K * N ≤ T a.1 → X p + K * N ≤ T p) ∧ (c.map (code N)).Nodup
theorem Chain.start {X : Nat → Int} {p : Nat} (h : p < n) : Chain n N T X p 0 :=
  ⟨[(p, X p)], rfl, fun a m => by cases List.mem_singleton.mp m; exact ⟨h, Int.le_refl _, fun K z => z⟩, by simp⟩
theorem Chain.bound {X : Nat → Int} {p k : Nat} (h0 : 0 < N) (h : Chain n N T X p k) : k + 1 ≤ n * N := by
  obtain ⟨c, l, a, nd⟩ := h.ex
  have q := nodup_len (n * N) (c.map (code N)) nd (fun x m => by
    obtain ⟨b, hb, rfl⟩ := List.mem_map.mp m
    have hb1 := (a b hb).1
    unfold code
    have c2 := Int.emod_lt_of_pos b.2 (show (0 : Int) < N by omega)
    have b2 := Int.emod_nonneg b.2 (show (N : Int) ≠ 0 by omega)
    have : (b.1 + 1) * N ≤ n * N := Nat.mul_le_mul_right N hb1
    rw [Nat.add_mul, Nat.one_mul] at this
    omega)
  rw [List.length_map, l] at q
  exact q
theorem Chain.keep {X Y : Nat → Int} {p k : Nat} (h : Chain n N T X p k) (up : ∀ q, X q ≤ Y q) (e : Y p = X p) : Chain n N T Y p k := by
  obtain ⟨c, l, a, nd⟩ := h.ex
  refine ⟨c, l, fun b m => ?_, nd⟩
  obtain ⟨a1, a2, a3⟩ := a b m
  exact ⟨a1, Int.le_trans a2 (up _), fun K z => by rw [e]; exact a3 K z⟩
theorem Chain.raise {X Y : Nat → Int} {p q k : Nat} {l : Int} (h0 : 0 < N) (hp : p < n) (sp : 0 < s p) (sd : s p ∣ (N : Int)) (tp : (T p - f p) % s p = 0) (ok : T q + l ≤ T p) (h : Chain n N T X q k)
    (gt : X p < upc (f p) (s p) (X q + l)) (e : Y p = upc (f p) (s p) (X q + l)) (up : ∀ q, X q ≤ Y q) : Chain n N T Y p (k + 1) := by
  obtain ⟨c, lc, a, nd⟩ := h.ex
  have led : ∀ K : Int, X q + K * N ≤ T q → Y p + K * N ≤ T p := fun K z => by
    rw [e]
    have := upc_least (x := X q + l) (z := T p - K * N) sp (by omega) (on_add sd tp)
    omega
  refine ⟨(p, Y p) :: c, by rw [List.length_cons, lc], fun b m => ?_, ?_⟩
  · rcases List.mem_cons.mp m with rfl | m
    · exact ⟨hp, Int.le_refl _, fun K z => z⟩
    · obtain ⟨a1, a2, a3⟩ := a b m
      exact ⟨a1, Int.le_trans a2 (up _), fun K z => led K (a3 K z)⟩
  · rw [List.map_cons, List.nodup_cons]
    refine ⟨fun m => ?_, nd⟩
    obtain ⟨b, hb, eb⟩ := List.mem_map.mp m
    obtain ⟨a1, a2, a3⟩ := a b hb
    obtain ⟨b1, b2⟩ := b
    obtain ⟨rfl, em⟩ := code_inj h0 eb
    simp only at a2 a3
    have lt : b2 < Y b1 := by rw [e]; omega
    have d : (N : Int) ∣ Y b1 - b2 := Int.dvd_of_emod_eq_zero (Int.emod_eq_emod_iff_emod_sub_eq_zero.mp em.symm)
    have le : (N : Int) ≤ Y b1 - b2 := Int.le_of_dvd (by omega) d
    have z1 := Int.emod_add_mul_ediv (T b1 - b2) (N : Int)
    have z2 := Int.emod_nonneg (T b1 - b2) (show (N : Int) ≠ 0 by omega)
    have z3 := Int.emod_lt_of_pos (T b1 - b2) (show (0 : Int) < N by omega)
    rw [Int.mul_comm] at z1
    have w := led _ (a3 ((T b1 - b2) / (N : Int)) (by omega))
    omega
/-- what stands in a lap: each rule is kept, or a number ahead of it has come far -/
structure Lap (n N : Nat) (T : Nat → Int) (RA : Nat → Nat → Nat → Int → Prop) (X : Nat → Int) (m t : Nat) : Prop where
  ex : ∃ L : Nat → Nat, (∀ p, p < n → Chain n N T X p (L p)) ∧ ∀ k i j l, RA k i j l → X i + l ≤ X j ∨ (if k < t then m + 1 else m) ≤ L i
variable {RA : Nat → Nat → Nat → Int → Prop}
theorem Lap.start {X : Nat → Int} : Lap n N T RA X 0 0 := ⟨fun _ => 0, fun p h => Chain.start h, fun k i j l _ => .inr (by simp)⟩
theorem Lap.next {X : Nat → Int} {m t : Nat} (h : Lap n N T RA X m t) (all : ∀ k i j l, RA k i j l → k < t) : Lap n N T RA X (m + 1) 0 := by
  obtain ⟨L, h1, h2⟩ := h.ex
  refine ⟨L, h1, fun k i j l r => ?_⟩
  have := h2 k i j l r
  rw [if_pos (all k i j l r)] at this
  simpa using this
theorem Lap.still {X : Nat → Int} {m t i j : Nat} {l : Int} (h : Lap n N T RA X m t) (uniq : ∀ i' j' l', RA t i' j' l' → i' = i ∧ j' = j ∧ l' = l) (le : X i + l ≤ X j) : Lap n N T RA X m (t + 1) := by
  obtain ⟨L, h1, h2⟩ := h.ex
  refine ⟨L, h1, fun k i' j' l' r => ?_⟩
  by_cases e : k = t
  · subst e
    obtain ⟨rfl, rfl, rfl⟩ := uniq _ _ _ r
    exact .inl le
  · rcases h2 k i' j' l' r with z | z
    · exact .inl z
    · refine .inr ?_
      by_cases lt : k < t
      · rw [if_pos lt] at z
        rw [if_pos (by omega)]
        exact z
      · rw [if_neg lt] at z
        rw [if_neg (by omega)]
        exact z
theorem Lap.raise {X Y : Nat → Int} {m t i j : Nat} {l : Int} (h0 : 0 < N) (h : Lap n N T RA X m t) (r : RA t i j l) (uniq : ∀ i' j' l', RA t i' j' l' → i' = i ∧ j' = j ∧ l' = l) (hi : i < n) (hj : j < n)
    (sp : 0 < s j) (sd : s j ∣ (N : Int)) (tp : (T j - f j) % s j = 0) (ok : T i + l ≤ T j) (on : (X j - f j) % s j = 0)
    (gt : X j < upc (f j) (s j) (X i + l)) (e : Y j = upc (f j) (s j) (X i + l)) (same : ∀ q, q ≠ j → Y q = X q) : Lap n N T RA Y m (t + 1) ∧ m + 2 ≤ n * N := by
  obtain ⟨L, h1, h2⟩ := h.ex
  have up : ∀ q, X q ≤ Y q := fun q => by
    by_cases z : q = j
    · subst z
      rw [e]
      omega
    · rw [same q z]
      exact Int.le_refl _
  have far : m ≤ L i := by
    rcases h2 t i j l r with z | z
    · exact absurd (upc_least sp z on) (by omega)
    · rw [if_neg (by omega)] at z
      exact z
  have ch := (h1 i hi).raise h0 hj sp sd tp ok gt e up
  refine ⟨⟨fun q => if q = j then L i + 1 else L q, fun p hp => ?_, fun k i' j' l' r' => ?_⟩, ?_⟩
  · by_cases z : p = j
    · subst z
      simp only [if_true]
      exact ch
    · simp only [if_neg z]
      exact (h1 p hp).keep up (same p z)
  · by_cases z : i' = j
    · right
      simp only [if_pos z]
      split <;> omega
    · simp only [if_neg z]
      rw [same i' z]
      by_cases et : k = t
      · subst et
        obtain ⟨rfl, rfl, rfl⟩ := uniq _ _ _ r'
        left
        rw [e]
        exact upc_ge sp
      · rcases h2 k i' j' l' r' with y | y
        · exact .inl (Int.le_trans y (up _))
        · right
          by_cases lt : k < t
          · rw [if_pos lt] at y
            rw [if_pos (by omega)]
            exact y
          · rw [if_neg lt] at y
            rw [if_neg (by omega)]
            exact y
  · have := ch.bound h0
    omega
end
end Rise
namespace K06
open PySem PySem.Spec L2 Rt
open PyProof.Rows hiding St
abbrev sRisen : Stmt := top 41
structure Tab (ps : List Pt) (rs : List Rl) (xs : List Int) : Prop where
  len : xs.length = ps.length
  on : ∀ j, j < ps.length → onAt ps (xs.map V.int) j
  keep : ∀ j, j < rs.length → keepsAt ps rs (xs.map V.int) j
  lo : ∀ x, x ∈ xs → -100000000 ≤ x
  hi : ∀ x, x ∈ xs → x ≤ 100000000
theorem eqvAll_ints : ∀ xs ys : List Int, PyData.eqvAll (xs.map PyData.int) (ys.map PyData.int) = decide (xs = ys)
  | [], [] => by simp [PyData.eqvAll]
  | [], _ :: _ => by simp [PyData.eqvAll]
  | _ :: _, [] => by simp [PyData.eqvAll]
  | x :: xs, y :: ys => by
    have h := eqvAll_ints xs ys
    have e : (x == y) = decide (x = y) := by
      rw [Bool.eq_iff_iff]
      simp
    simp [PyData.eqvAll, PyData.eqv, h, e]
theorem eqv_ints (xs ys : List Int) : PyData.eqv (.list (xs.map PyData.int)) (.list (ys.map PyData.int)) = decide (xs = ys) := by
  simp [PyData.eqv, eqvAll_ints]
theorem dpAll_ints {K : PySem.W.Frag} {H : Hp} : ∀ ks : List Int, DpAll K H (ks.map V.int) (ks.map PyData.int)
  | [] => .nil
  | k :: ks => .cons (.int k) (dpAll_ints ks)
theorem lay_ints : ∀ ks : List Int, PyData.canLayAll0 (ks.map PyData.int) = true
  | [] => by simp [PyData.canLayAll0]
  | k :: ks => by
    have h := lay_ints ks
    simp [PyData.canLayAll0, PyData.canLay0, h]
theorem depth_ints : ∀ ks : List Int, PyData.depthAll (ks.map PyData.int) = 0
  | [] => by simp [PyData.depthAll]
  | k :: ks => by
    have h := depth_ints ks
    simp [PyData.depthAll, PyData.depth, h]
theorem shaped_ints (ks : List Int) : SeqAt.shaped (.list (ks.map PyData.int)) = true := by
  unfold SeqAt.shaped
  simp [PyData.canLay0, lay_ints, PyData.depth, depth_ints]
/-- from an old row to one that is nowhere less: setting one place higher -/
structure Above (xs ys : List Int) : Prop where
  len : ys.length = xs.length
  le : ∀ (k : Nat) (a b : Int), xs[k]? = some a → ys[k]? = some b → a ≤ b
theorem Above.refl (xs : List Int) : Above xs xs := ⟨rfl, fun k a b h1 h2 => by cases h1.symm.trans h2; exact Int.le_refl _⟩
theorem Above.set {xs ys : List Int} {k : Nat} {v b : Int} (h : Above xs ys) (hb : ys[k]? = some b) (le : b ≤ v) : Above xs (ys.set k v) := by
  refine ⟨by rw [List.length_set]; exact h.len, fun m a c h1 h2 => ?_⟩
  rw [List.getElem?_set] at h2
  split at h2
  · rename_i e
    subst e
    split at h2
    · cases h2
      exact Int.le_trans (h.le _ _ _ h1 hb) le
    · cases h2
  · exact h.le _ _ _ h1 h2
theorem Above.back {xs ys : List Int} {k : Nat} {v b : Int} (h : Above xs ys) (hb : ys[k]? = some b) (le : b ≤ v) (e : ys.set k v = xs) : ys = xs := by
  refine List.ext_getElem? fun m => ?_
  by_cases z : k = m
  · subst z
    have hk := (List.getElem?_eq_some_iff.mp hb).1
    have h1 : xs[k]? = some v := by
      rw [← e, List.getElem?_set_self hk]
    have h2 := h.le k v b h1 hb
    rw [hb, h1, show b = v by omega]
  · rw [← e, List.getElem?_set_ne z]
theorem int_get {ys : List Int} {i : Nat} {z : Int} (h : (ys.map V.int)[i]? = some (V.int z)) : ys[i]? = some z := by
  obtain ⟨y, hy, e⟩ := int_at h
  cases e
  exact hy
theorem dvd_foldl {p : Pt} : ∀ (ps : List Pt) (l : Nat), (p ∈ ps ∨ p.2.2.toNat ∣ l) → p.2.2.toNat ∣ ps.foldl (fun l p => Nat.lcm l p.2.2.toNat) l
  | [], _, h => h.elim (fun z => nomatch z) id
  | q :: ps, l, h => dvd_foldl ps _ (by
    rcases h with h | h
    · rcases List.mem_cons.mp h with rfl | h
      · exact .inr (Nat.dvd_lcm_right _ _)
      · exact .inl h
    · exact .inr (Nat.dvd_trans h (Nat.dvd_lcm_left _ _)))
theorem dvd_lcmOf {ps : List Pt} {p : Pt} (h : p ∈ ps) : p.2.2.toNat ∣ lcmOf ps := dvd_foldl ps 1 (.inl h)
theorem lcm_pos {M : Nat} (ps : List Pt) (h : ∀ p, p ∈ ps → p.2.2.toNat ∣ M) (h0 : 0 < M) : 0 < lcmOf ps := Nat.pos_of_dvd_of_pos (lcm_dvd ps 1 (Nat.one_dvd M) h) h0
/-! ### the numbers of a network, by place -/
def fN (ps : List Pt) (p : Nat) : Int := match ps[p]? with | some q => q.2.1 | none => 0
def sN (ps : List Pt) (p : Nat) : Int := match ps[p]? with | some q => q.2.2 | none => 1
def xN (xs : List Int) (p : Nat) : Int := xs.getD p 0
def RuleAt (ps : List Pt) (rs : List Rl) (k i j : Nat) (l : Int) : Prop := ∃ r, rs[k]? = some r ∧ (namesOf ps)[i]? = some r.1 ∧ (namesOf ps)[j]? = some r.2.1 ∧ l = r.2.2
theorem fN_at {ps : List Pt} {p : Nat} {q : Pt} (h : ps[p]? = some q) : fN ps p = q.2.1 := by unfold fN; rw [h]
theorem sN_at {ps : List Pt} {p : Nat} {q : Pt} (h : ps[p]? = some q) : sN ps p = q.2.2 := by unfold sN; rw [h]
theorem xN_at {xs : List Int} {p : Nat} {z : Int} (h : xs[p]? = some z) : xN xs p = z := by unfold xN; rw [List.getD_eq_getElem?_getD, h]; rfl
theorem xN_set {xs : List Int} {p : Nat} {z v : Int} (h : xs[p]? = some z) : xN (xs.set p v) p = v := xN_at (by rw [List.getElem?_set_self (List.getElem?_eq_some_iff.mp h).1])
theorem xN_other {xs : List Int} {p q : Nat} {v : Int} (h : q ≠ p) : xN (xs.set p v) q = xN xs q := by
  unfold xN
  rw [List.getD_eq_getElem?_getD, List.getD_eq_getElem?_getD, List.getElem?_set_ne (Ne.symm h)]
theorem set_self {xs : List Int} {p : Nat} {z : Int} (h : xs[p]? = some z) : xs.set p z = xs := by
  refine List.ext_getElem? fun m => ?_
  by_cases e : p = m
  · subst e
    rw [List.getElem?_set_self (List.getElem?_eq_some_iff.mp h).1, h]
  · rw [List.getElem?_set_ne e]
theorem Tab.at_ {ps : List Pt} {rs : List Rl} {zs : List Int} (t : Tab ps rs zs) {j : Nat} (h : j < ps.length) : (xN zs j - fN ps j) % sN ps j = 0 := by
  obtain ⟨p, x, h1, h2, h3⟩ := t.on j h
  have e : ∃ z, x = V.int z := by
    rw [List.getElem?_map] at h2
    cases q : zs[j]? with
    | none => rw [q] at h2; cases h2
    | some z => rw [q] at h2; exact ⟨z, (Option.some.inj h2).symm⟩
  obtain ⟨z, rfl⟩ := e
  have q : zs[j]? = some z := by
    rw [List.getElem?_map] at h2
    cases q : zs[j]? with
    | none => rw [q] at h2; cases h2
    | some y => rw [q] at h2; cases h2; rfl
  rw [xN_at q, fN_at h1, sN_at h1]
  exact of_decide_eq_true h3
theorem Tab.kept {ps : List Pt} {rs : List Rl} {zs : List Int} (nd : (namesOf ps).Nodup) (t : Tab ps rs zs) {k i j : Nat} {l : Int} (r : RuleAt ps rs k i j l) : xN zs i + l ≤ xN zs j := by
  obtain ⟨r, h1, h2, h3, rfl⟩ := r
  obtain ⟨r', a, b, g1, ⟨i', j', g2, g3, g4, g5⟩, g6⟩ := t.keep k (List.getElem?_eq_some_iff.mp h1).1
  cases h1.symm.trans g1
  cases name_uniq nd h2 g2
  cases name_uniq nd h3 g3
  have e : ∀ {m : Nat} {c : Int}, (zs.map V.int)[m]? = some (V.int c) → xN zs m = c := fun {m c} h => by
    rw [List.getElem?_map] at h
    cases q : zs[m]? with
    | none => rw [q] at h; cases h
    | some y => rw [q] at h; cases h; exact xN_at q
  rw [e g4, e g5]
  exact g6
def spRisen : Sp := fun vs H Q _ => ∃ (n fl : Addr) (ps : List Pt) (rs : List Rl) (fs : List Int) (most ties : Nat), vs = [.ref n, .ref fl] ∧ LNet H n ps rs ∧ Drawn ps rs most ties ∧ most ≤ 50 ∧ ties ≤ 50 ∧ H fl = some (.lst (fs.map V.int)) ∧ fs.length = ps.length ∧ (∀ x, x ∈ fs → -100 ≤ x ∧ x ≤ 100) ∧
  ∀ (v : V) (H' : Hp), Same H H' → (v = .non ∧ ¬ ∃ zs, Tab ps rs zs) ∨ (∃ (t : Addr) (xs : List Int), v = .ref t ∧ H' t = some (.tup (xs.map V.int)) ∧ Tab ps rs xs) → Q v H'
section
variable {P : Program} {w : World} {K : PySem.W.Frag} {mg : Str → Option Value} {base : Heap} {f : Addr} {fd : FuncData}
theorem scRisen : FnScope ["net", "floors", "found", "lap", "old", "start", "end", "least", "here", "late", "point", "floor"] ["net", "floors"] (defScope sRisen) := ⟨rfl, rfl, rfl, by decide +kernel, rfl, by decide +kernel, by decide +kernel⟩
theorem ok_risen (F : Fun K "_law_risen" "_law_risen" sRisen f fd) (T : Lw mg) (cU : Cb P w K mg base 1 "_law_up" spLUp) (cPer : Cb P w K mg base 1 "_law_period" spPeriod) (cPl : Cb P w K mg base 1 "_law_place" spPlace) (cCl : Cb P w K mg base 2 "_law_clock_of" spClockOf) : FnG P w K mg base 3 f fd ["net", "floors"] spRisen := by
  refine okG F scRisen (fun vs H Q E h => ?_) (fun cdv A outer s H vs Q E hg hr h => ?_)
  · obtain ⟨n, fl, ps, rs, fs, m, t, rfl, _⟩ := h
    rfl
  · obtain ⟨n, fl, ps, rs, fs, m, t, rfl, net, dr, hm, ht, hf, lf, bf, k1⟩ := h
    have hu := hu_of hr
    have hu64 := hr.units
    refine ⟨_, (pss_cons (ps_setLc (i := 2) (own := [("point", 10), ("floor", 11)]) rfl scRisen.nd rfl rfl (sw_true rfl rfl rfl (by decide +kernel)) (pi_zip (by rfl) T.zzip (pa_cons (pe_dget hu (pv 0) pe_str (fun _ _ => rfl)) (pa_cons (pv 1) pa_nil))) (blkOk_by (N := ["net", "floors", "found", "lap", "old", "start", "end", "least", "here", "late", "point", "floor"]) (sc := defScope sRisen) (by decide +kernel)) (fun _ _ _ _ _ => (pg_tk (K := K) (n := 2) rfl (by rfl) (pgs_cons (pg_name (i := 10) scRisen.nd rfl (.inl rfl)) (pgs_cons (pg_name (i := 11) scRisen.nd rfl (.inl rfl)) pgs_nil)) (by rfl) (by rfl))) (fun _ _ _ _ _ => pts_nil) (fun _ _ _ _ _ => (pe_k cU hg hr (by decide) (by rfl) (pa_cons (pe_tup (pa_cons (pe_ix (ix_tup : IxR _ (rIxT K)) (pv 10) pe_int (fun _ _ => rfl)) (pa_cons (pe_ix (ix_tup : IxR _ (rIxT K)) (pv 10) pe_int (fun _ _ => rfl)) pa_nil))) (pa_cons (pv 11) pa_nil)))))
      (pss_cons (ps_for PassesOwn.never rfl (pi_range1 (by rfl) T.zrange (pa_cons (pe_op op_add (pe_op op_mul (pe_callB call_len_seq (by rfl) T.zlen (by decide +kernel) (pa_cons (pe_dget hu (pv 0) pe_str (fun _ _ => rfl)) pa_nil)) (pe_k cPer hg hr (by decide) (by rfl) (pa_cons (pv 0) pa_nil))) pe_int) pa_nil)) (pg_name (i := 3) scRisen.nd rfl (.inl rfl))
        (pss_cons (ps_set (i := 4) scRisen.nd rfl (.inl rfl) (pe_callTy call_list_of (by rfl) T.zlist (by decide +kernel) (pa_cons (pv 2) pa_nil)))
        (pss_cons (ps_for PassesOwn.never rfl (pi_list (pe_dget hu (pv 0) pe_str (fun _ _ => rfl))) (pg_tup (by rfl) (pgs_cons (pg_name (i := 5) scRisen.nd rfl (.inl rfl)) (pgs_cons (pg_name (i := 6) scRisen.nd rfl (.inl rfl)) (pgs_cons (pg_name (i := 7) scRisen.nd rfl (.inl rfl)) pgs_nil))))
          (pss_cons (ps_par (i := 8) (j := 9) rfl scRisen.nd rfl rfl (by decide) rfl rfl (pa_cons (pe_k cPl hg hr (by decide) (by rfl) (pa_cons (pv 0) (pa_cons (pv 5) pa_nil))) (pa_cons (pe_k cPl hg hr (by decide) (by rfl) (pa_cons (pv 0) (pa_cons (pv 6) pa_nil))) pa_nil)) (by rfl))
          (pss_one (ps_asg (pe_callB (call_max2 rfl) (by rfl) T.zmax (by decide +kernel) (pa_cons (pe_ix ix_list (pv 2) (pv 9) (fun _ _ => rfl)) (pa_cons (pe_k cU hg hr (by decide) (by rfl) (pa_cons (pe_k cCl hg hr (by decide) (by rfl) (pa_cons (pv 0) (pa_cons (pv 6) pa_nil))) (pa_cons (pe_op op_add (pe_ix ix_list (pv 2) (pv 8) (fun _ _ => rfl)) (pv 7)) pa_nil))) pa_nil))) (pg_sub (pv 2) (pv 9) set_list)))))
        (pss_one (ps_if (pt_cmpR (op_eqD hu64) (pv 4) (pv 2) (nomark _)) (pss_one (ps_ret (pe_callTy call_tuple_of (by rfl) T.ztuple (by decide +kernel) (pa_cons (pv 2) pa_nil)))) pss_nil)))))
      (pss_one (ps_ret pe_non)))), ?_⟩
    obtain ⟨PA, RA, as, bs, h1, h2, h3, h4, h5⟩ := net.ex
    refine ⟨_, rfl, n, _, rfl, get_pts h1, _, rfl, ?_⟩
    refine ⟨PA, fl, _, _, rfl, SqL.of h2, SqL.of hf, fun F0 nF => ?_⟩
    have few : ps.length ≤ 50 := Nat.le_trans dr.pm hm
    have fewR : rs.length ≤ 50 := Nat.le_trans dr.rm ht
    have lz : (as.map V.ref).length = ps.length := by rw [List.length_map, h4.1]
    have pAt : ∀ (i : Nat) (hi : i < ps.length), ∃ a, as[i]? = some a ∧ H a = some (.tup [.str ps[i].1, .int ps[i].2.1, .int ps[i].2.2]) := fun i hi => by
      have hi' : i < as.length := by rw [h4.1]; exact hi
      exact ⟨as[i], List.getElem?_eq_getElem hi', h4.2 i _ _ (List.getElem?_eq_getElem hi') (List.getElem?_eq_getElem hi)⟩
    refine lc_it (walk_zip (n := ps.length) (by rw [lz, List.length_map, lf, Nat.min_self])) (fun i H1 => Same H H1 ∧ ∃ xs : List Int, H1 F0 = some (.lst (xs.map V.int)) ∧ xs.length = i ∧ (∀ j, j < i → onAt ps (xs.map V.int) j) ∧ ∀ x, x ∈ xs → -200 ≤ x ∧ x ≤ 200)
      ⟨same_new nF, [], upd_same, rfl, fun j h => absurd h (by omega), fun x h => nomatch h⟩ (fun i H1 _ z => ⟨SqL.of (z.1 _ _ h2), SqL.of (z.1 _ _ hf)⟩) ?_ ?_
    · rintro i y H1 H2 hi ⟨s1, xs, hF, rfl, on, big⟩ ⟨tu, x1, x2, rfl, ntu, rfl, e1, e2⟩
      obtain ⟨ai, ea, pa⟩ := pAt _ hi
      have hfi : xs.length < fs.length := by omega
      obtain rfl : V.ref ai = x1 := by
        have e1 : (as.map V.ref)[xs.length]? = some x1 := e1
        rw [List.getElem?_map, ea] at e1
        exact Option.some.inj e1
      obtain rfl : V.int fs[xs.length] = x2 := by
        have e2 : (fs.map V.int)[xs.length]? = some x2 := e2
        rw [List.getElem?_map, List.getElem?_eq_getElem hfi] at e2
        exact Option.some.inj e2
      have s2 : Same H1 (upd H1 tu (.tup [.ref ai, .int fs[xs.length]])) := same_new ntu
      have pa2 := s2 _ _ (s1 _ _ pa)
      refine ⟨tu, _, rfl, SqT.of upd_same, rfl, _, _, rfl, _, _, rfl, rfl, rfl, ?_⟩
      refine ⟨_, rfl, ai, _, 1, _, rfl, rfl, SqT.of pa2, rfl, _, rfl, ai, _, 2, _, rfl, rfl, SqT.of pa2, rfl, (by show 2 ≤ sizeLine; decide), fun tc ntc => ?_⟩
      have s3 := s2.trans (same_new (o := .tup [.int ps[xs.length].2.1, .int ps[xs.length].2.2]) ntc)
      have pd := dr.pt _ (List.getElem_mem hi)
      have st0 : 0 < ps[xs.length].2.2 := by have := pd.s1; omega
      have st12 := pd.s12
      refine ⟨_, rfl, tc, _, _, _, rfl, upd_same, st0, by omega, ?_⟩
      have b := bf _ (List.getElem_mem hfi)
      have u1 := upv_le (f := ps[xs.length].2.1) (x := fs[xs.length]) st0
      have u2 := upv_lt (f := ps[xs.length].2.1) (x := fs[xs.length]) st0
      have u3 := upv_on ps[xs.length].2.1 ps[xs.length].2.2 fs[xs.length]
      refine ⟨_, s3 _ _ hF, small1000 (by rw [List.length_map]; omega), fun b o z => by rw [upd_ne (ne_of_none z nF)]; exact (s1.trans s3) b o z, xs ++ [upv ps[xs.length].2.1 ps[xs.length].2.2 fs[xs.length]], ?_, by rw [List.length_append]; rfl, ?_, ?_⟩
      · rw [upd_same, List.map_append]
        rfl
      · intro j hj
        rw [List.map_append]
        rcases Nat.lt_or_eq_of_le (Nat.le_of_lt_succ hj) with lt | rfl
        · obtain ⟨p, x, g1, g2, g3⟩ := on j lt
          exact ⟨p, x, g1, by rw [List.getElem?_append_left (by rw [List.length_map]; exact lt)]; exact g2, g3⟩
        · refine ⟨_, _, List.getElem?_eq_getElem hi, by rw [List.getElem?_append_right (by rw [List.length_map]; exact Nat.le_refl _), List.length_map, Nat.sub_self]; rfl, ?_⟩
          exact decide_eq_true u3
      · intro x hx
        rcases List.mem_append.mp hx with h | h
        · exact big x h
        · cases List.mem_singleton.mp h
          omega
    · rintro H1 ⟨s1, xs, hF, lx, on, big⟩
      refine ⟨_, rfl, n, _, rfl, get_pts (s1 _ _ h1), PA, _, rfl, .inl (SqL.of (s1 _ _ h2)), _, rfl, n, ps, rs, 420, rfl, net.same s1, fun p hp => ⟨(dr.pt p hp).s1, by have := (dr.pt p hp).s12; omega, (dr.pt p hp).dv⟩, by decide, by decide, fun H2 s2 => ?_⟩
      have per : lcmOf ps ≤ 420 := Nat.le_of_dvd (by decide) (lcm_dvd ps 1 (Nat.one_dvd 420) fun p hp => (dr.pt p hp).dv)
      refine ⟨_, _, rfl, rfl, .inl ⟨by omega, by omega⟩, _, _, rfl, rfl, ?_⟩
      have laps : ps.length * lcmOf ps ≤ 21000 := Nat.le_trans (Nat.mul_le_mul few per) (by decide)
      refine ⟨((ps.length * lcmOf ps + 2 : Nat) : Int), by rw [Int.natCast_add, Int.natCast_mul, ← lz]; rfl, by omega, by omega, ?_⟩
      rw [Int.toNat_natCast]
      have le2 : ps.length * lcmOf ps + 2 ≤ 21002 := by omega
      have N0 : 0 < lcmOf ps := lcm_pos (M := 420) ps (fun p hp => (dr.pt p hp).dv) (by decide)
      revert le2
      generalize el : ps.length * lcmOf ps + 2 = laps
      intro le2
      have s02 := s1.trans s2
      refine for_range (lo := 0) (fun i σ H3 => ∃ (v3 v4 v5 v6 v7 v8 v9 v10 v11 : Option V) (xs : List Int), σ = [some (.ref n), some (.ref fl), some (.ref F0), v3, v4, v5, v6, v7, v8, v9, v10, v11] ∧ Same H H3 ∧ H3 F0 = some (.lst (xs.map V.int)) ∧ xs.length = ps.length ∧
          (∀ j, j < ps.length → onAt ps (xs.map V.int) j) ∧ (∀ x, x ∈ xs → -200 ≤ x ∧ x ≤ 200 + 3000 * (i : Int)) ∧ ∀ zs, Tab ps rs zs → Rise.Lap ps.length (lcmOf ps) (xN zs) (RuleAt ps rs) (xN xs) i 0 ∧ (i = 0 ∨ i + 1 ≤ ps.length * lcmOf ps))
        ⟨_, _, _, _, _, _, _, _, _, xs, rfl, s02, s2 _ _ hF, lx, on, fun x hx => by have := big x hx; omega, fun zs tz => ⟨Rise.Lap.start, .inl rfl⟩⟩ ?_ ?_
      · rintro i σ H3 hi ⟨v3, v4, v5, v6, v7, v8, v9, v10, v11, xs, rfl, s3, hF, lx, on, big, lap⟩
        refine ⟨_, rfl, F0, _, rfl, .inl (SqL.of hF), fun O nO => ?_⟩
        have s4 : Same H (upd H3 O (.lst (xs.map V.int))) := s3.trans (same_new nO)
        have OF : F0 ≠ O := ne_of_none hF nO
        have hO4 : (upd H3 O (.lst (xs.map V.int))) O = some (.lst (xs.map V.int)) := upd_same
        have hF4 : (upd H3 O (.lst (xs.map V.int))) F0 = some (.lst (xs.map V.int)) := by rw [upd_ne OF]; exact hF
        revert s4 hO4 hF4
        generalize upd H3 O (.lst (xs.map V.int)) = H4
        intro s4 hO4 hF4
        refine ⟨_, rfl, n, _, rfl, get_rls (s4 _ _ h1), RA, rfl, ⟨_, SqL.of (s4 _ _ h3)⟩, ?_⟩
        refine for_it walk_list (fun j σ H5 => ∃ (v5 v6 v7 v8 v9 v10 v11 : Option V) (ys : List Int), σ = [some (.ref n), some (.ref fl), some (.ref F0), some (.int (0 + (i : Int))), some (.ref O), v5, v6, v7, v8, v9, v10, v11] ∧ Same H H5 ∧ H5 F0 = some (.lst (ys.map V.int)) ∧ H5 O = some (.lst (xs.map V.int)) ∧
            Above xs ys ∧ (∀ k, k < ps.length → onAt ps (ys.map V.int) k) ∧ (∀ y, y ∈ ys → -200 ≤ y ∧ y ≤ 200 + 3000 * (i : Int) + 60 * (j : Int)) ∧ (ys = xs → ∀ k, k < j → keepsAt ps rs (xs.map V.int) k) ∧ ∀ zs, Tab ps rs zs → Rise.Lap ps.length (lcmOf ps) (xN zs) (RuleAt ps rs) (xN ys) i j ∧ (ys = xs ∨ i + 2 ≤ ps.length * lcmOf ps))
          ⟨_, _, _, _, _, _, _, xs, rfl, s4, hF4, hO4, Above.refl xs, on, fun y hy => by have := big y hy; omega, fun _ k h => absurd h (by omega), fun zs tz => ⟨(lap zs tz).1, .inl rfl⟩⟩ (fun j σ H5 _ ⟨_, _, _, _, _, _, _, _, _, s5, _⟩ => SqL.of (s5 _ _ h3)) ?_ ?_
        · rintro j y σ5 H5 H5b hj ⟨v5, v6, v7, v8, v9, v10, v11, ys, rfl, s5, hF5, hO5, ab, ony, bigy, fix, lapy⟩ ⟨rfl, hy⟩
          have hjb : j < bs.length := by rw [List.length_map] at hj; exact hj
          have hjr : j < rs.length := by rw [← h5.1]; exact hjb
          obtain rfl : V.ref bs[j] = y := by
            rw [List.getElem?_map, List.getElem?_eq_getElem hjb] at hy
            exact Option.some.inj hy
          have pb : H5b bs[j] = some (.tup [.str rs[j].1, .str rs[j].2.1, .int rs[j].2.2]) := s5 _ _ (h5.2 j _ _ (List.getElem?_eq_getElem hjb) (List.getElem?_eq_getElem hjr))
          refine ⟨bs[j], _, rfl, SqT.of pb, rfl, _, _, rfl, _, _, rfl, _, _, rfl, rfl, ?_⟩
          obtain ⟨m1, m2⟩ := dr.good.ends _ (List.getElem_mem hjr)
          have ly : ys.length = ps.length := by rw [ab.len, lx]
          obtain ⟨ia, za, n1, x1⟩ := num_at (by rw [List.length_map, ly]) ony m1
          obtain ⟨ib, zb, n2, x2⟩ := num_at (by rw [List.length_map, ly]) ony m2
          have few100 : ps.length ≤ 100 := by omega
          refine ⟨_, rfl, _, rfl, n, ps, rs, ia, _, rfl, net.same s5, dr.good.nd, few100, n1, fun H6 s6 => ?_⟩
          refine ⟨_, rfl, _, rfl, n, ps, rs, ib, _, rfl, net.same (s5.trans s6), dr.good.nd, few100, n2, fun H7 s7 => ?_⟩
          refine ⟨_, _, rfl, ?_⟩
          have s57 := s6.trans s7
          refine ⟨_, rfl, _, rfl, F0, _, _, _, rfl, rfl, SqL.of (s57 _ _ hF5), atN x2, ?_⟩
          have hib : ib < ps.length := by have := (List.getElem?_eq_some_iff.mp n2).1; rw [List.length_map] at this; exact this
          have nib : ps[ib].1 = rs[j].2.1 := by
            rw [List.getElem?_map, List.getElem?_eq_getElem hib] at n2
            exact Option.some.inj n2
          refine ⟨_, rfl, _, rfl, n, ps, rs, ib, ps[ib], by rw [nib]; rfl, net.same (s5.trans s57), dr.good.nd, few100, List.getElem?_eq_getElem hib, fun tc H8 s8 htc => ?_⟩
          have s58 := s57.trans s8
          refine ⟨_, rfl, _, rfl, F0, _, _, _, rfl, rfl, SqL.of (s58 _ _ hF5), atN x1, _, rfl, _, _, rfl, rfl, ?_⟩
          have pd := dr.pt _ (List.getElem_mem hib)
          have st0 : 0 < ps[ib].2.2 := by have := pd.s1; omega
          have st12 := pd.s12
          have rd := dr.rl _ (List.getElem_mem hjr)
          have rd1 := rd.l1
          have rd2 := rd.l2
          have u1 := upv_le (f := ps[ib].2.1) (x := za + rs[j].2.2) st0
          have u2 := upv_lt (f := ps[ib].2.1) (x := za + rs[j].2.2) st0
          have u3 := upv_on ps[ib].2.1 ps[ib].2.2 (za + rs[j].2.2)
          refine ⟨tc, _, _, _, rfl, htc, st0, by omega, _, _, rfl, _, rfl, _, rfl, F0, _, _, ib, rfl, rfl, s58 _ _ hF5, ?_, ?_⟩
          · unfold ixN
            rw [if_pos (by omega), if_pos (by rw [List.length_map]; omega), Int.toNat_natCast]
          have y1 : ys[ia]? = some za := int_get x1
          have y2 : ys[ib]? = some zb := int_get x2
          have by1 := bigy _ (List.mem_of_getElem? y1)
          have by2 := bigy _ (List.mem_of_getElem? y2)
          have hOF : O ≠ F0 := Ne.symm OF
          have hia : ia < ps.length := by have := (List.getElem?_eq_some_iff.mp n1).1; rw [List.length_map] at this; exact this
          have pib := List.getElem?_eq_getElem hib
          have ra : RuleAt ps rs j ia ib rs[j].2.2 := ⟨_, List.getElem?_eq_getElem hjr, n1, n2, rfl⟩
          have raU : ∀ i' j' l', RuleAt ps rs j i' j' l' → i' = ia ∧ j' = ib ∧ l' = rs[j].2.2 := fun i' j' l' ⟨r, g1, g2, g3, g4⟩ => by
            cases (List.getElem?_eq_getElem hjr).symm.trans g1
            exact ⟨name_uniq dr.good.nd g2 n1, name_uniq dr.good.nd g3 n2, g4⟩
          have lapU : ∀ zs, Tab ps rs zs → upv ps[ib].2.1 ps[ib].2.2 (za + rs[j].2.2) ≤ zb → Rise.Lap ps.length (lcmOf ps) (xN zs) (RuleAt ps rs) (xN ys) i (j + 1) := fun zs tz le =>
            (lapy zs tz).1.still raU (by rw [xN_at y1, xN_at y2]; omega)
          have lapR : ∀ zs, Tab ps rs zs → zb < upv ps[ib].2.1 ps[ib].2.2 (za + rs[j].2.2) → Rise.Lap ps.length (lcmOf ps) (xN zs) (RuleAt ps rs) (xN (ys.set ib (upv ps[ib].2.1 ps[ib].2.2 (za + rs[j].2.2)))) i (j + 1) ∧ i + 2 ≤ ps.length * lcmOf ps := fun zs tz lt => by
            have onb : (zb - ps[ib].2.1) % ps[ib].2.2 = 0 := by
              obtain ⟨p, x, g1, g2, g3⟩ := ony ib hib
              cases pib.symm.trans g1
              cases x2.symm.trans g2
              exact of_decide_eq_true g3
            have sd : ps[ib].2.2 ∣ ((lcmOf ps : Nat) : Int) := by
              have e : ps[ib].2.2 = ((ps[ib].2.2.toNat : Nat) : Int) := (Int.toNat_of_nonneg (by omega)).symm
              rw [e]
              exact Int.natCast_dvd_natCast.mpr (dvd_lcmOf (List.getElem_mem hib))
            exact (lapy zs tz).1.raise (f := fN ps) (s := sN ps) N0 ra raU hia hib (by rw [sN_at pib]; exact st0) (by rw [sN_at pib]; exact sd) (tz.at_ hib) (tz.kept dr.good.nd ra) (by rw [xN_at y2, fN_at pib, sN_at pib]; exact onb)
              (by rw [xN_at y2, xN_at y1, fN_at pib, sN_at pib]; exact lt) (by rw [xN_set y2, xN_at y1, fN_at pib, sN_at pib]; rfl) (fun q hq => xN_other hq)
          revert u1 u2 u3 lapU lapR
          generalize upv ps[ib].2.1 ps[ib].2.2 (za + rs[j].2.2) = u
          intro u1 u2 u3 lapU lapR
          obtain ⟨v, ev, vb, vu, vor, vgt⟩ : ∃ v : Int, v = (if u > zb then u else zb) ∧ zb ≤ v ∧ u ≤ v ∧ (v = u ∨ v = zb) ∧ ((v = u ∧ zb < u) ∨ (v = zb ∧ u ≤ zb)) := by
            refine ⟨_, rfl, ?_⟩
            split
            · exact ⟨by omega, by omega, .inl rfl, .inl ⟨rfl, by omega⟩⟩
            · exact ⟨by omega, by omega, .inr rfl, .inr ⟨rfl, by omega⟩⟩
          rw [← ev]
          refine ⟨_, _, _, _, _, _, _, ys.set ib v, rfl, fun b o z => by rw [upd_ne (ne_of_none z nF)]; exact (s5.trans s58) b o z, ?_, by rw [upd_ne hOF]; exact s58 _ _ hO5, ab.set y2 vb, ?_, ?_, ?_, ?_⟩
          · rw [upd_same, List.map_set]
          · intro k hk
            by_cases e : ib = k
            · subst e
              refine ⟨_, .int v, List.getElem?_eq_getElem hib, by rw [List.map_set, List.getElem?_set_self (by rw [List.length_map]; omega)], ?_⟩
              rcases vor with rfl | rfl
              · exact decide_eq_true u3
              · obtain ⟨p, x, g1, g2, g3⟩ := ony ib hk
                cases (List.getElem?_eq_getElem hib).symm.trans g1
                cases x2.symm.trans g2
                exact g3
            · obtain ⟨p, x, g1, g2, g3⟩ := ony k hk
              exact ⟨p, x, g1, by rw [List.map_set, List.getElem?_set_ne e]; exact g2, g3⟩
          · intro y hy
            rcases List.mem_or_eq_of_mem_set hy with h | rfl
            · have := bigy y h
              omega
            · rcases vor with rfl | rfl <;> omega
          · intro e k hk
            have e2 := ab.back y2 vb e
            rcases Nat.lt_or_eq_of_le (Nat.le_of_lt_succ hk) with lt | rfl
            · exact fix e2 k lt
            · have zv : zb = v := by
                have q : xs[ib]? = some v := by rw [← e, List.getElem?_set_self (by omega)]
                rw [← e2, y2] at q
                exact Option.some.inj q
              rw [← e2]
              exact ⟨_, za, zb, List.getElem?_eq_getElem hjr, ⟨ia, ib, n1, n2, x1, x2⟩, by omega⟩
          · intro zs tz
            rcases vgt with ⟨rfl, lt⟩ | ⟨rfl, le⟩
            · exact ⟨(lapR zs tz lt).1, .inr (lapR zs tz lt).2⟩
            · rw [set_self y2]
              exact ⟨lapU zs tz le, (lapy zs tz).2⟩
        · rintro σ H5 ⟨v5, v6, v7, v8, v9, v10, v11, ys, rfl, s5, hF5, hO5, ab, ony, bigy, fix, lapy⟩
          rw [List.length_map, h5.1] at bigy fix lapy
          refine ⟨_, rfl, _, rfl, .list (xs.map PyData.int), .list (ys.map PyData.int), .lst (SqL.of hO5) (dpAll_ints _), .lst (SqL.of hF5) (dpAll_ints _), shaped_ints _, shaped_ints _, _, rfl, ?_⟩
          rw [eqv_ints]
          by_cases e : xs = ys
          · rw [decide_eq_true e]
            refine iteT ?_
            refine ⟨_, rfl, F0, _, rfl, .inl ⟨SqL.of hF5, fun tt ntt => k1 _ _ (s5.trans (same_new ntt)) (.inr ⟨tt, ys, rfl, upd_same, ⟨by rw [ab.len, lx], ony, ?_, fun x hx => ?_, fun x hx => ?_⟩⟩)⟩⟩
            · rw [← e]
              exact fix e.symm
            · have := bigy x hx
              omega
            · have := bigy x hx
              omega
          · rw [decide_eq_false e]
            exact iteF ⟨_, _, _, _, _, _, _, _, _, ys, rfl, s5, hF5, by rw [ab.len, lx], ony, fun y hy => by have := bigy y hy; omega, fun zs tz => ⟨(lapy zs tz).1.next (fun k i' j' l' ⟨r, g1, _⟩ => (List.getElem?_eq_some_iff.mp g1).1), .inr (by
              rcases (lapy zs tz).2 with z | z
              · exact absurd z.symm e
              · omega)⟩⟩
      · rintro σ H3 ⟨v3, v4, v5, v6, v7, v8, v9, v10, v11, xs, rfl, s3, hF, lx, on, big, lap⟩
        refine k1 _ _ s3 (.inl ⟨rfl, fun ⟨zs, tz⟩ => ?_⟩)
        rcases (lap zs tz).2 with z | z <;> omega
end
end K06
namespace K06
open PySem PySem.Spec L2 Rt
open PyProof.Rows hiding St
abbrev sVerd : Stmt := top 42
def spVerd (K : PySem.W.Frag) : Sp := fun vs H Q _ => ∃ (n : Addr) (v : V) (ps : List Pt) (rs : List Rl) (xo : Option (List V)), vs = [.ref n, v] ∧ LNet H n ps rs ∧ Good ps rs ∧ Jd K H v xo ∧
  ∀ (u : V) (r : Option (List V)) (H' : Hp), Verd ps rs xo r → Tells H' r u → Same H H' → Q u H'
theorem Jd.split {K : PySem.W.Frag} {H H' : Hp} {v : V} {xo : Option (List V)} (jd : Jd K H v xo) (s : Same H H') : (xo = none ∧ ∃ T : String, TyX K H' v (.type T) ∧ PySem.W.kitAny K (.type T) [.type "list", .type "tuple"] = some false) ∨
    ∃ (q : Addr) (xs : List V), v = .ref q ∧ xo = some xs ∧ Row2 H q xs ∧ ∀ x, x ∈ xs → Od H x := by
  cases jd with
  | no ty kk => exact .inl ⟨rfl, _, ty _ s, kk⟩
  | lst h o => exact .inr ⟨_, _, rfl, rfl, .inl h, o⟩
  | tup h o => exact .inr ⟨_, _, rfl, rfl, .inr h, o⟩
section
variable {P : Program} {w : World} {K : PySem.W.Frag} {mg : Str → Option Value} {base : Heap} {f : Addr} {fd : FuncData}
theorem scVerd : FnScope ["net", "value", "k", "start", "end", "least"] ["net", "value"] (defScope sVerd) := ⟨rfl, rfl, rfl, by decide +kernel, rfl, by decide +kernel, by decide +kernel⟩
theorem ok_verd (F : Fun K "_law_verdict" "_law_verdict" sVerd f fd) (T : Lw mg) (cOn : Cb P w K mg base 2 "_law_is_on" spOn) (cPl : Cb P w K mg base 1 "_law_place" spPlace) : FnG P w K mg base 3 f fd ["net", "value"] (spVerd K) := by
  refine okG F scVerd (fun vs H Q E h => ?_) (fun cdv A outer s H vs Q E hg hr h => ?_)
  · obtain ⟨n, v, ps, rs, xo, rfl, _⟩ := h
    rfl
  · obtain ⟨n, v, ps, rs, xo, rfl, net, good, jd, k⟩ := h
    have hu := hu_of hr
    refine ⟨_, (pss_cons (ps_if (PW.pt (pw_or (pt_not (pt_val (pe_callB call_isiT (by rfl) T.zisinstance (by decide +kernel) (pa_cons (pv 1) (pa_cons (pe_tup (pa_cons (pe_bltn (v := .ty "list") (by rfl) T.zlist (by decide +kernel) rfl) (pa_cons (pe_bltn (v := .ty "tuple") (by rfl) T.ztuple (by decide +kernel) rfl) pa_nil))) pa_nil))))) (pw_or1 (pt_cmpR op_ne (pe_callB call_len_seq (by rfl) T.zlen (by decide +kernel) (pa_cons (pv 1) pa_nil)) (pe_callB call_len_seq (by rfl) T.zlen (by decide +kernel) (pa_cons (pe_dget hu (pv 0) pe_str (fun _ _ => rfl)) pa_nil)) (nomark _))))) (pss_one (ps_ret (pe_tup (pa_cons pe_str pa_nil)))) pss_nil)
      (pss_cons (ps_for PassesOwn.never rfl (pi_range1 (by rfl) T.zrange (pa_cons (pe_callB call_len_seq (by rfl) T.zlen (by decide +kernel) (pa_cons (pv 1) pa_nil)) pa_nil)) (pg_name (i := 2) scVerd.nd rfl (.inl rfl))
        (pss_one (ps_if (pt_not (pt_val (pe_k cOn hg hr (by decide) (by rfl) (pa_cons (pe_tup (pa_cons (pe_ix ix_tup (pe_ix ix_list (pe_dget hu (pv 0) pe_str (fun _ _ => rfl)) (pv 2) (fun _ _ => rfl)) pe_int (fun _ _ => rfl)) (pa_cons (pe_ix ix_tup (pe_ix ix_list (pe_dget hu (pv 0) pe_str (fun _ _ => rfl)) (pv 2) (fun _ _ => rfl)) pe_int (fun _ _ => rfl)) pa_nil))) (pa_cons (pe_ix ix_seq (pv 1) (pv 2) (fun _ _ => rfl)) pa_nil))))) (pss_one (ps_ret (pe_tup (pa_cons pe_str (pa_cons (pv 2) pa_nil))))) pss_nil)))
      (pss_cons (ps_for PassesOwn.never rfl (pi_range1 (by rfl) T.zrange (pa_cons (pe_callB call_len_seq (by rfl) T.zlen (by decide +kernel) (pa_cons (pe_dget hu (pv 0) pe_str (fun _ _ => rfl)) pa_nil)) pa_nil)) (pg_name (i := 2) scVerd.nd rfl (.inl rfl))
        (pss_cons (ps_asg (pe_ix ix_list (pe_dget hu (pv 0) pe_str (fun _ _ => rfl)) (pv 2) (fun _ _ => rfl)) (pg_tup (by rfl) (pgs_cons (pg_name (i := 3) scVerd.nd rfl (.inl rfl)) (pgs_cons (pg_name (i := 4) scVerd.nd rfl (.inl rfl)) (pgs_cons (pg_name (i := 5) scVerd.nd rfl (.inl rfl)) pgs_nil)))))
        (pss_one (ps_if (pt_cmpR op_lt (pe_ix ix_seq (pv 1) (pe_k cPl hg hr (by decide) (by rfl) (pa_cons (pv 0) (pa_cons (pv 4) pa_nil))) (fun _ _ => rfl)) (pe_op op_add (pe_ix ix_seq (pv 1) (pe_k cPl hg hr (by decide) (by rfl) (pa_cons (pv 0) (pa_cons (pv 3) pa_nil))) (fun _ _ => rfl)) (pv 5)) (nomark _)) (pss_one (ps_ret (pe_tup (pa_cons pe_str (pa_cons (pv 2) pa_nil))))) pss_nil))))
      (pss_one (ps_ret pe_non))))), ?_⟩
    obtain ⟨PA, RA, as, bs, h1, h2, h3, h4, h5⟩ := net.ex
    refine ⟨_, rfl, (by show 2 ≤ sizeLine; decide), fun tp nt => ?_⟩
    have s2 : Same H (upd H tp (.tup [.ty "list", .ty "tuple"])) := same_new nt
    rcases jd.split s2 with ⟨rfl, T1, ty, kk⟩ | ⟨q, xs, rfl, rfl, hq, od⟩
    · refine ⟨_, tp, _, .type T1, _, false, rfl, upd_same, .cons (.ty _) (.cons (.ty _) .nil), ty, kk, false, rfl, iteT (iteT ?_)⟩
      exact ⟨(by show 1 ≤ sizeLine; decide), fun p np => k _ _ _ Verd.form0 ⟨p, rfl, upd_same⟩ (s2.trans (same_new np))⟩
    have hq2 := hq.same s2
    obtain ⟨T1, ty, kk⟩ := hq2.type (K := K)
    refine ⟨_, tp, _, .type T1, _, true, rfl, upd_same, .cons (.ty _) (.cons (.ty _) .nil), ty, kk, true, rfl, iteF ?_⟩
    revert s2 hq2
    generalize upd H tp (.tup [.ty "list", .ty "tuple"]) = H2
    intro s2 hq2
    refine ⟨_, rfl, q, _, rfl, hq2.seq, _, rfl, n, _, rfl, get_pts (s2 _ _ h1), PA, _, rfl, .inl (SqL.of (s2 _ _ h2)), rfl, _, rfl, ?_⟩
    rw [dec_V, List.length_map, h4.1]
    by_cases len : xs.length = ps.length
    case neg =>
      rw [decide_eq_false (show ¬ ((xs.length : Int) = (ps.length : Int)) by omega)]
      refine iteT ?_
      exact ⟨(by show 1 ≤ sizeLine; decide), fun p np => k _ _ _ (Verd.form len) ⟨p, rfl, upd_same⟩ (s2.trans (same_new np))⟩
    rw [decide_eq_true (show (xs.length : Int) = (ps.length : Int) by omega)]
    refine iteF ?_
    have few := good.few
    have fewR := good.fewR
    refine ⟨_, rfl, q, _, rfl, hq2.seq, _, rfl, by omega, by omega, ?_⟩
    refine for_range (lo := 0) (fun i σ H3 => ∃ (v2 v3 v4 v5 : Option V), σ = [some (.ref n), some (.ref q), v2, v3, v4, v5] ∧ Same H H3 ∧ ∀ j, j < i → onAt ps xs j)
      ⟨_, _, _, _, rfl, s2, fun j h => absurd h (by omega)⟩ ?_ ?_
    · rintro i σ H3 hi ⟨v2, v3, v4, v5, rfl, s3, inv⟩
      have hix : i < xs.length := by omega
      have hip : i < ps.length := by omega
      have hi' : i < as.length := by rw [h4.1]; exact hip
      have e0 : (0 : Int) + (i : Nat) = (i : Nat) := by omega
      rw [e0]
      have ea : (as.map V.ref)[i]? = some (.ref as[i]) := by rw [List.getElem?_map, List.getElem?_eq_getElem hi']; rfl
      have pa : H3 as[i] = some (.tup [.str ps[i].1, .int ps[i].2.1, .int ps[i].2.2]) := s3 _ _ (h4.2 i _ _ (List.getElem?_eq_getElem hi') (List.getElem?_eq_getElem hip))
      refine ⟨_, rfl, n, _, rfl, get_pts (s3 _ _ h1), _, rfl, PA, _, _, _, rfl, rfl, SqL.of (s3 _ _ h2), atN ea, as[i], _, 1, _, rfl, rfl, SqT.of pa, rfl, ?_⟩
      refine ⟨_, rfl, n, _, rfl, get_pts (s3 _ _ h1), _, rfl, PA, _, _, _, rfl, rfl, SqL.of (s3 _ _ h2), atN ea, as[i], _, 2, _, rfl, rfl, SqT.of pa, rfl, (by show 2 ≤ sizeLine; decide), fun u nu => ?_⟩
      have s5 := s3.trans (same_new (o := .tup [.int ps[i].2.1, .int ps[i].2.2]) nu)
      have ex : xs[i]? = some xs[i] := List.getElem?_eq_getElem hix
      have p0 := (good.ok _ (List.getElem_mem hip)).2.1
      refine ⟨_, rfl, _, rfl, rIx_of (hq.same s5) (atN ex) ?_⟩
      refine ⟨u, ps[i].2.1, ps[i].2.2, xs[i], rfl, upd_same, by omega, Od.same s5 (od _ (List.getElem_mem hix)), _, rfl, ?_⟩
      cases on : onB ps[i].2.1 ps[i].2.2 xs[i] with
      | true =>
        refine iteF ⟨_, _, _, _, rfl, s5, fun j hj => ?_⟩
        rcases Nat.lt_or_eq_of_le (Nat.le_of_lt_succ hj) with lt | rfl
        · exact inv j lt
        · exact ⟨_, _, List.getElem?_eq_getElem hip, ex, on⟩
      | false =>
        refine iteT ?_
        exact ⟨_, rfl, (by show 2 ≤ sizeLine; decide), fun p np => k _ _ _ (Verd.clock len inv ⟨_, _, List.getElem?_eq_getElem hip, ex, on⟩) ⟨p, rfl, upd_same⟩ (s5.trans (same_new np))⟩
    · rintro σ H3 ⟨v2, v3, v4, v5, rfl, s3, inv⟩
      have inv : ∀ j, j < ps.length → onAt ps xs j := fun j hj => inv j (by omega)
      refine ⟨_, rfl, n, _, rfl, get_rls (s3 _ _ h1), RA, _, rfl, .inl (SqL.of (s3 _ _ h3)), _, rfl, by rw [List.length_map, h5.1]; omega, by rw [List.length_map, h5.1]; omega, ?_⟩
      rw [List.length_map, h5.1]
      refine for_range (lo := 0) (fun i σ H5 => ∃ (v2 v3 v4 v5 : Option V), σ = [some (.ref n), some (.ref q), v2, v3, v4, v5] ∧ Same H H5 ∧ ∀ j, j < i → keepsAt ps rs xs j)
        ⟨_, _, _, _, rfl, s3, fun j h => absurd h (by omega)⟩ ?_ ?_
      · rintro i σ H5 hi ⟨v2, v3, v4, v5, rfl, s5, inv2⟩
        have hip : i < rs.length := by omega
        have hi' : i < bs.length := by rw [h5.1]; exact hip
        have e0 : (0 : Int) + (i : Nat) = (i : Nat) := by omega
        rw [e0]
        have eb : (bs.map V.ref)[i]? = some (.ref bs[i]) := by rw [List.getElem?_map, List.getElem?_eq_getElem hi']; rfl
        have pb : H5 bs[i] = some (.tup [.str rs[i].1, .str rs[i].2.1, .int rs[i].2.2]) := s5 _ _ (h5.2 i _ _ (List.getElem?_eq_getElem hi') (List.getElem?_eq_getElem hip))
        refine ⟨_, rfl, n, _, rfl, get_rls (s5 _ _ h1), _, rfl, RA, _, _, _, rfl, rfl, SqL.of (s5 _ _ h3), atN eb, bs[i], _, rfl, SqT.of pb, rfl, _, _, rfl, _, _, rfl, _, _, rfl, rfl, ?_⟩
        obtain ⟨m1, m2⟩ := good.ends _ (List.getElem_mem hip)
        obtain ⟨ia, za, n1, x1⟩ := num_at len inv m1
        obtain ⟨ib, zb, n2, x2⟩ := num_at len inv m2
        refine ⟨_, rfl, _, rfl, _, rfl, n, ps, rs, ib, _, rfl, net.same s5, good.nd, few, n2, fun H6 s6 => rIx_of (hq.same (s5.trans s6)) (atN x2) ?_⟩
        refine ⟨_, rfl, _, rfl, _, rfl, n, ps, rs, ia, _, rfl, net.same (s5.trans s6), good.nd, few, n1, fun H7 s7 => rIx_of (hq.same ((s5.trans s6).trans s7)) (atN x1) ?_⟩
        have t7 := (s5.trans s6).trans s7
        refine ⟨_, rfl, _, _, rfl, rfl, _, _, rfl, rfl, _, rfl, ?_⟩
        by_cases lt : zb < za + rs[i].2.2
        · rw [decide_eq_true lt]
          refine iteT ?_
          exact ⟨_, rfl, (by show 2 ≤ sizeLine; decide), fun p np => k _ _ _ (Verd.rule len inv inv2 ⟨_, za, zb, List.getElem?_eq_getElem hip, ⟨ia, ib, n1, n2, x1, x2⟩, lt⟩) ⟨p, rfl, upd_same⟩ (t7.trans (same_new np))⟩
        · rw [decide_eq_false lt]
          refine iteF ⟨_, _, _, _, rfl, t7, fun j hj => ?_⟩
          rcases Nat.lt_or_eq_of_le (Nat.le_of_lt_succ hj) with l2 | rfl
          · exact inv2 j l2
          · exact ⟨_, za, zb, List.getElem?_eq_getElem hip, ⟨ia, ib, n1, n2, x1, x2⟩, by omega⟩
      · rintro σ H5 ⟨v2, v3, v4, v5, rfl, s5, inv2⟩
        exact k _ _ _ (Verd.fine len inv (fun j hj => inv2 j (by omega))) rfl s5
end
end K06
namespace Rt
open PySem PySem.Spec L2
open PyProof.Rows hiding St
/-! ### repr of data -/
mutual
theorem dp_plain {K : PySem.W.Frag} {H : Hp} : ∀ (d : PyData) (v : V), Dp K H v d → d.hasDict = false
  | .none, _, _ => by simp only [PyData.hasDict]
  | .bool _, _, _ => by simp only [PyData.hasDict]
  | .int _, _, _ => by simp only [PyData.hasDict]
  | .str _, _, _ => by simp only [PyData.hasDict]
  | .list ds, _, h => by
    cases h with
    | lst _ ha =>
      simp only [PyData.hasDict]
      exact dp_plainAll ds _ ha
  | .tuple ds, _, h => by
    cases h with
    | tup _ ha =>
      simp only [PyData.hasDict]
      exact dp_plainAll ds _ ha
  | .dict _, _, h => by cases h
theorem dp_plainAll {K : PySem.W.Frag} {H : Hp} : ∀ (ds : List PyData) (vs : List V), DpAll K H vs ds → PyData.hasDictAll ds = false
  | [], _, _ => by simp only [PyData.hasDictAll]
  | d :: ds, _, h => by
    cases h with
    | cons h1 h2 => simp only [PyData.hasDictAll, dp_plain d _ h1, dp_plainAll ds _ h2, Bool.or_self]
end
def rRepr (K : PySem.W.Frag) : List V → Hp → VK → Prop := fun xs H Q => ∃ v d, xs = [v] ∧ Dp K H v d ∧ d.showable = true ∧ d.depth ≤ 60 ∧ d.shown.length ≤ sizeLine ∧ Q (.str d.shown) H
section
variable {X : Cx}
theorem call_repr (hg : X.A.guards = some []) (hu : X.A.units + 64 < cLine) : CallR X (.builtin "repr") (rRepr X.K) := by
  intro pins s σ H xs us Q I r h
  obtain ⟨v, d, rfl, hd, hs, hdep, hz, q⟩ := h
  obtain ⟨u, rfl, ru⟩ := vals1 r
  have np := dp_plain d v hd
  obtain ⟨as, rd⟩ := Dp.reads I d v u hd ru
  cases rd with
  | none => exact PySem.P.repr_of_none ⟨.str _, H, I.tok _, ⟨_, rfl⟩, by simpa only [PyData.shown] using q⟩
  | bool b => exact PySem.P.repr_of_bool ⟨.str _, H, I.tok _, ⟨_, rfl⟩, by simpa only [PyData.shown] using q⟩
  | int i t => exact PySem.P.repr_of_int (by simpa [PyData.showable] using hs) ⟨.str _, H, I.tok _, ⟨_, rfl⟩, by simpa only [PyData.shown] using q⟩
  | str x t => exact PySem.P.repr_of_str ⟨.str _, H, I.tok _, ⟨_, rfl⟩, by simpa only [PyData.shown] using q⟩ (by simpa only [PyData.shown] using hz)
  | list h1 h2 h3 h4 =>
    exact repr_of_reads' (.list h1 h2 h3 h4) hs (fun z => by rw [np] at z; cases z) hg (by omega) (fun _ _ e => e) (fun h' u tk kp => ⟨.str _, H, I.kept kp, ⟨u, rfl⟩, q⟩) hz
  | tuple h1 h2 h3 h4 =>
    exact repr_of_reads' (.tuple h1 h2 h3 h4) hs (fun z => by rw [np] at z; cases z) hg (by omega) (fun _ _ e => e) (fun h' u tk kp => ⟨.str _, H, I.kept kp, ⟨u, rfl⟩, q⟩) hz
  | dict => simp [PyData.hasDict] at np
end
end Rt
/-! own rules: exceptions as values, with attributes -/
namespace Rt
open PySem PySem.Spec L2
open PyProof.Rows hiding St
/-- an exception of the class at C stands at a; its attributes are fs -/
def Ex (H : Hp) (a C : Addr) (fs : List (Str × V)) : Prop := (fs = [] ∧ H a = some (exo a C none)) ∨ ∃ d, H a = some (exo a C (some d)) ∧ H d = some (exd d fs)
section
variable {X : Cx} {pins : List (Addr × Obj)} {σ : St} {H : Hp} {s : Shared} {a C : Addr} {fs : List (Str × V)}
/-- its object, and its own dict, if it has one -/
theorem ex_inst (I : Inv X pins σ H s) (e : Ex H a C fs) : ∃ (ox : Obj) (od : Option Obj), PySem.W.InstAt s.heap a ox C od ∧
    ∀ n v, fs.lookup n = some v → ∃ u o, od = some o ∧ PySem.W.lookIn n o = some (some u) ∧ L2.RelV v u := by
  rcases e with ⟨rfl, e⟩ | ⟨d, e, ed⟩
  · obtain ⟨t1, he⟩ := exo_at I.hok e
    exact ⟨_, none, ⟨he, rfl, rfl, trivial⟩, fun n v z => nomatch z⟩
  · obtain ⟨t1, he⟩ := exo_at I.hok e
    obtain ⟨mA, hns, rel⟩ := exd_at I.hok ed
    obtain ⟨od, ho, hl⟩ := lookIn_ns hns
    refine ⟨_, some od, ⟨he, rfl, rfl, ho⟩, fun n v z => ?_⟩
    obtain ⟨u, hu, ru⟩ := RelO.some_of (v := v) (o := mA n) (by rw [← z]; exact rel n)
    exact ⟨u, od, rfl, by rw [hl, hu], ru⟩
theorem ex_kit (C' : ExcC X.K C) : PySem.W.KitX X.K (.ref a) (.ref C) (fun h => ∃ ox od, PySem.W.InstAt h a ox C od) := by
  have hcl : (PySem.W.clsIn X.K C).isSome = true := by
    obtain ⟨cd, hc, _⟩ := PySem.W.any_some C'.hd
    rw [hc]
    rfl
  have Z := fun ox od => PySem.W.kitx_exc (x := a) (ox := ox) (od := od) hcl C'.hg C'.hk C'.hs C'.ha C'.hn C'.ht C'.hm
  exact ⟨fun _ _ x ⟨ox, od, p⟩ => (Z ox od).ty _ _ x p, fun _ _ x ⟨ox, od, p⟩ => (Z ox od).it _ _ x p, fun h tp dd its n sl x t => (Z default none).ne h tp dd its n sl x t, fun x ⟨ox, od, p⟩ k => (Z ox od).ca x p k⟩
end
/-- isinstance(e, c), isinstance(e, (c1, c2)) -/
def rIsX (K : PySem.W.Frag) : List V → Hp → VK → Prop := fun xs H Q => ∃ (a C : Addr) (fs : List (Str × V)), Ex H a C fs ∧ ExcC K C ∧
  ((∃ (c : V) (u : Value) (b : Bool), xs = [.ref a, c] ∧ ClsV c u ∧ PySem.W.kitOne K (.ref C) u = some b ∧ Q (.bl b) H) ∨
   (∃ (tp : Addr) (cs : List V) (us : List Value) (b : Bool), xs = [.ref a, .ref tp] ∧ H tp = some (.tup cs) ∧ Paired ClsV cs us ∧ PySem.W.kitAny K (.ref C) us = some b ∧ Q (.bl b) H))
section
variable {X : Cx}
theorem call_isX : CallR X (.builtin "isinstance") (rIsX X.K) := by
  intro pins s σ H xs us Q I r h
  obtain ⟨a, C, fs, e, CC, h⟩ := h
  obtain ⟨ox, od, J, _⟩ := ex_inst I e
  have no : (Value.ref a) ≠ .builtin "__main__.__loader__#opaque" := fun z => nomatch z
  rcases h with ⟨c, u, b, rfl, k, ek, q⟩ | ⟨tp, cs, ws, b, rfl, hT, k, ek, q⟩
  · obtain ⟨u1, u2, rfl, r1, r2⟩ := vals2 r
    cases r1
    cases k.eq r2
    exact PySem.W.kia_one (ex_kit CC) I.kIn ⟨ox, od, J⟩ ek no fun tk => ⟨.bl b, H, I.tok tk, rfl, q⟩
  · obtain ⟨u1, u2, rfl, r1, r2⟩ := vals2 r
    cases r1
    cases r2
    obtain ⟨_, its, rv, o, h1, h2, n, h3⟩ := (show ObjOk X.prog X.w H s.heap tp (.tup cs) from I.hok tp _ hT)
    cases ClsV.all k rv
    obtain ⟨oc, ode, dt, sl⟩ := o
    cases h2
    cases h3
    exact PySem.W.kia_tup (ex_kit CC) I.kIn ⟨ox, od, J⟩ h1 ek no fun tk => ⟨.bl b, H, I.tok tk, rfl, q⟩
/-- e.n of such an exception -/
def tXg (K : PySem.W.Frag) (n : Str) (te : TE) : TE := fun σ H Q => te σ H fun x H1 => ∃ (a C : Addr) (fs : List (Str × V)) (v : V), x = .ref a ∧ Ex H1 a C fs ∧ ExcC K C ∧ PySem.W.findIn K (.ref C) n = some none ∧ fs.lookup n = some v ∧ Q v H1
theorem pe_xg {e : Expr} {te : TE} {pos : Pos} {n : Str} (he : PE X e te) (hb : attributeBase e n X.env (eval e X.env) = eval e X.env := by rfl) : PE X (.Attribute e n pos) (tXg X.K n te) := by
  constructor
  intro pins s σ H Q I h
  refine attr_of hb (thn (he.run pins s σ H _ I h) ?_)
  rintro u s1 ⟨x, H1, J, rx, a, C, fs, v, rfl, ex, CC, hno, l, q⟩
  cases rx
  obtain ⟨ox, od, inst, look⟩ := ex_inst J ex
  obtain ⟨w, o, rfl, lu, rw'⟩ := look n v l
  exact HandSPX.exc_get J.kIn inst CC.hg CC.hk CC.hs (PySem.W.findObj_own CC.hd hno rfl lu) (handed_of rw') ⟨v, H1, J.tok _, rw', q⟩
end
end Rt
namespace Rt
open PySem PySem.Spec L2
open PyProof.Rows hiding St
section
open Builtin Builtin.ObjectAttr PySem.Calls
variable {prog : Program} {w : World} {A : Around} {R : Result → Shared → Prop} {hp : Heap} {g : Array GenState} {d : Drawn} {t : Nat} {os : OsState}
/-- the first attribute of an exception of one's own, whatever its built-in base is -/
theorem exc_first {K : PySem.W.Frag} {B : String} {bmB : List Value} {name : Str} {tk : Tok} {v : Value} {x C : Addr} {fv : Array Value}
    (SF : StoreFacts B bmB "object.__setattr__" "object") (kin : K.In hp) (hx : hp.get? x = some { cls := .ref C, data := .fields fv }) (over : PySem.W.excOver K C bmB = true) (no : PySem.W.findIn K (.ref C) name = some none) (hd : PySem.W.hasDictIn K C = true)
    (hq : ∀ h' tk' dx, (∀ b o, b ≠ x → hp.get? b = some o → h'.get? b = some o) → hp.objs.size ≤ dx → dx ≠ x → h'.get? x = some { cls := .ref C, dict := some dx, data := .fields fv } →
      h'.Ns1 dx (fun y => if y = name then some v else none) → R (.ok (.ret .none)) ⟨h', g, d, tk', os⟩) :
    codeAny (model prog w) A (.call (.builtin "object.__setattr__") ⟨[.ref x, .str name tk, v], []⟩) R ⟨hp, g, d, t, os⟩ := by
  have inst : PySem.W.InstAt hp x { cls := .ref C, data := .fields fv } C none := ⟨hx, rfl, rfl, trivial⟩
  have taker : PySem.W.takerIn K C name = some none := by
    unfold PySem.W.takerIn
    rw [no]
    rfl
  have far : x ≠ hp.objs.size := Nat.ne_of_lt (Heap.lt_size hx)
  obtain ⟨cd, hcd, hh⟩ := PySem.W.any_some hd
  refine PySem.W.osa_openX (s := ⟨hp, g, d, t, os⟩) SF kin inst over taker fun b => ?_
  have hcls : PySem.W.Looks (model prog w) hp (classData C) cd := PySem.W.looks_clsIn kin hcd
  obtain ⟨nm, bs, mro, ns, qn, hdc, sn, sb, ab, col, del⟩ := cd
  dsimp only at hh
  subst hh
  show wpAny _ _ (storeInOwnDict (.ref x) (.ref C) (.str name tk) name v b) _ _ _
  unfold storeInOwnDict ownDictForStores
  repeat (first | with_reducible refine HandSPX.store_in_new ?_ ?_ | with_reducible refine wpAny_loadPart_at hx ?_ | with_reducible refine hcls.at ?_ | wp_step)
  · exact ⟨_, #[], _, (Heap.get?_update_ne _ _ _ _ far.symm).trans (Heap.get?_push_at rfl rfl), rfl, fun e he => absurd he (by simp), fun _ => rfl⟩
  · intro h' tk' ns1 same
    have there : (hp.push { cls := .type "dict", data := .dict #[] }).get? x = some { cls := .ref C, data := .fields fv } := Heap.get?_push_of_some _ hx
    refine hq h' tk' hp.objs.size ?_ (Nat.le_refl _) far.symm ?_ ns1
    · intro b o nb ho
      exact (same.2 b (Nat.ne_of_lt (Heap.lt_size ho))).trans ((Heap.get?_update_ne _ _ _ _ nb).trans (Heap.get?_push_of_some _ ho))
    · exact (same.2 x far).trans (Heap.get?_update_self _ there rfl)
end
end Rt
namespace Rt
open PySem PySem.Spec L2
open PyProof.Rows hiding St
/-- a class of one's own over a built-in exception: its instances may be made, read, stored into -/
structure ExM (K : PySem.W.Frag) (C : Addr) (bmB : List Value) : Prop where
  over : PySem.W.excOver K C bmB = true
  sa : PySem.W.findIn K (.ref C) "__setattr__" = some (some (.builtin "object.__setattr__"))
  cc : ExcC K C
  kp : PySem.W.keepIn K (.ref C) = true
section
variable {X : Cx} {pins : List (Addr × Obj)} {σ : St} {H : Hp} {s : Shared} {a C : Addr} {f : Str} {y : V} {u : Value} {B : String} {bmB : List Value} {Q : Unit → Shared → Prop} {E : Value → Shared → Prop} {A : Around}
theorem ext_ne {φ : Heap → Prop} {o : HO} {b c : Addr} (h1 : H b = some (.ext φ)) (h2 : H c = some o) (d : ∀ ψ, o ≠ .ext ψ) : c ≠ b := fun z => by
  rw [z, h1] at h2
  exact d φ (Option.some.inj h2).symm
theorem set_first (SF : StoreFacts B bmB "object.__setattr__" "object") (M : ExM X.K C bmB) (no : PySem.W.findIn X.K (.ref C) f = some none) (I : Inv X pins σ H s) (e : H a = some (exo a C none)) (ry : L2.RelV y u)
    (h : ∀ dx s', H dx = none → dx ≠ a → Inv X pins σ (upd (upd H dx (exd dx [(f, y)])) a (exo a C (some dx))) s' → Q () s') : wpAny (model X.prog X.w) A (setAttr (.ref a) f u) Q E s := by
  obtain ⟨t1, there⟩ := exo_at I.hok e
  obtain ⟨hp, g, d, t, os⟩ := s
  refine PySem.W.set_plain (ox := { cls := .ref C, dict := none, data := .fields #[.ref t1, .none, .none, .none, .bool false, .none] }) (od := none) I.kIn ⟨there, rfl, rfl, trivial⟩ M.sa ?_
  refine exc_first SF I.kIn there M.over no M.cc.hd ?_
  intro h' tk' dx kp big apart hx ns1
  have fresh : H dx = none := I.hok.fresh big
  have old : ∀ {b : Addr} {o : Obj}, hp.get? b = some o → b ≠ dx := fun {b o} z => Nat.ne_of_lt (Nat.lt_of_lt_of_le (Heap.lt_size z) big)
  have free : ∀ {b : Addr}, H b = none → b ≠ a := fun {b} z y => by
    rw [y, e] at z
    cases z
  have keepsH : ∀ {b : Addr} {o : HO}, H b = some o → b ≠ a → (upd (upd H dx (exd dx [(f, y)])) a (exo a C (some dx))) b = some o := fun {b o} z nb => by
    rw [upd_ne nb, upd_ne (ne_of_none z fresh)]
    exact z
  have U : Un X.fs [] H (upd (upd H dx (exd dx [(f, y)])) a (exo a C (some dx))) hp h' := by
    constructor
    · exact fun b o z n _ _ => kp b o (free n) z
    · exact fun b o z n _ _ => ⟨o.slots, kp b o (free n) z⟩
    · intro b o z n _
      rw [upd_ne (free n), upd_ne (old z)]
      exact n
    · intro b o z _
      by_cases hb : b = a
      · subst hb
        exact ⟨_, hx⟩
      · exact ⟨o, kp b o hb z⟩
    · exact fun b xs z => keepsH z (ext_ne e z (fun _ => nofun))
    · exact fun b o v z => keepsH z (ext_ne e z (fun _ => nofun))
    · exact fun b ps z => ⟨#[], by rw [keepsH z (ext_ne e z (fun _ => nofun))]; simp⟩
  refine h dx _ fresh apart (I.un (t' := tk') U ?_)
  intro b o z
  by_cases hb : b = a
  · subst hb
    rw [upd_same] at z
    cases z
    exact exo_ok hx
  · rw [upd_ne hb] at z
    by_cases hd : b = dx
    · subst hd
      rw [upd_same] at z
      cases z
      exact exd_ok ns1 (relO_put (fs := []) ry fun _ => True.intro)
    · rw [upd_ne hd] at z
      refine (I.hok b o z).stay (fun c v hc q => kp c v ?_ q) (fun c q => keepsH q (ext_ne e q (fun _ => nofun))) fun c xs q => keepsH q (ext_ne e q (fun _ => nofun))
      rcases hc with rfl | hc
      · exact hb
      · exact ext_ne e hc (fun _ => nofun)
end
/-- self.f = e, within the own __init__ -/
def tXs (K : PySem.W.Frag) (bmB : List Value) (f : Str) (to te : TE) : TS := fun D σ H => te σ H fun y H1 => to σ H1 fun x H2 => ∃ a C : Addr, x = .ref a ∧ ExM K C bmB ∧ PySem.W.findIn K (.ref C) f = some none ∧ H2 a = some (exo a C none) ∧
  ∀ dx, H2 dx = none → dx ≠ a → D.nx σ (upd (upd H2 dx (exd dx [(f, y)])) a (exo a C (some dx)))
section
variable {X : Cx} {o e : Expr} {to te : TE} {f : Str} {p p' pos : Pos} {B : String} {bmB : List Value} {es : List Expr} {ta : TA}
theorem ps_xs (SF : StoreFacts B bmB "object.__setattr__" "object") (ho : PE X o to) (he : PE X e te) (hs : swapsWith e (some (.Attribute o f p')) pos.line X.env = pure false := by rfl) : PS X (.Assign [.Attribute o f p'] e pos) (tXs X.K bmB f to te) := by
  constructor
  intro pins s σ H D I h
  refine plainObj_wpAny_Assign_Attribute (thn (he.run pins s σ H _ I h) ?_) hs
  rintro v s1 ⟨y, H1, J1, r1, q1⟩
  refine thn (ho.run pins s1 σ H1 _ J1 q1) ?_
  rintro u s2 ⟨x, H2, J2, r2, a, C, rfl, M, no, ea, q⟩
  cases r2
  exact set_first SF M no J2 ea r1 fun dx s' n ne J => ⟨σ, _, J, q dx n ne⟩
/-- C(e, ..), C's own __init__ keeping sp: the new exception as a value -/
def tXm (C : Addr) (sp : Sp) (ta : TA) : TE := fun σ H Q => ta σ H fun vs H1 => vs.length ≤ 1000 ∧ ∀ a, H1 a = none → sp (.ref a :: vs) (upd H1 a (exo a C none)) (fun v H2 => v = .non ∧ Q (.ref a) H2) E0
theorem pe_xm {x : Str} {C fI : Addr} {k : Nat} {fd : FuncData} {ps : List Str} {sp : Sp} {newId initId : String} (F : ExcBaseFacts B newId initId bmB) (M : ExM X.K C bmB) (ini : PySem.W.excInitIn X.K C bmB newId = true)
    (iC : PySem.W.findIn X.K (.ref C) "__init__" = some (some (.ref fI))) (tI : PySem.W.typeIn X.K (.ref fI) = some (.type "function")) (G : FnOk X.prog X.w X.K X.mg X.base CX0 k fI fd ps sp) (hr : Room (k + 1) X.A) (hb : Binds X.K fd ps [])
    (hg : Gl X x) (hm : X.mg x = some (.ref C)) (ha : PA X (e :: es) ta) (hdb : (x == ("__debug__" : Str)) = false := by decide) (he : starEach (e :: es) X.env = (false, eval e X.env) :: starEach es X.env := by rfl)
    (hpl : (backTo pos (starEach es X.env)).any (·.1) = false := by rfl) : PE X (.Call (.Name x p) (e :: es) [] pos) (tXm C sp ta) := by
  constructor
  intro pins s σ H Q I h
  refine wpAny_Call_Name_kw (ld_glob I hg hm ?_ hdb)
  refine PySem.W.callWith_K (h₀ := X.base) I.ok.mod.kin M.kp (thn (ha.run pos pins s σ H _ I h) ?_) he hpl
  rintro us s1 ⟨vs, H1, J, rv, few, q⟩
  refine ⟨J.kIn, ?_⟩
  show wpAny _ _ (call (.ref C) us) _ _ _
  obtain ⟨hp, g, dr, tk, os⟩ := s1
  obtain ⟨nm, N, qn, bs, bm, hdct, sn, sub, ab, col, dd, k0, k1, k2, k3, k5, hC, tail⟩ := PySem.W.excInit_of J.kIn ini
  have le : hp.objs.size ≤ hp.objs.size + 1 := Nat.le_succ _
  have hn : H1 (hp.objs.size + 1) = none := J.hok.fresh le
  have want := q (hp.objs.size + 1) hn
  have kept : ∀ b o, hp.get? b = some o → ((hp.push (PySem.W.kdv_tup us)).push (PySem.HandSPX.excO C hp.objs.size)).get? b = some o := fun b o z => Heap.get?_push_of_some _ (Heap.get?_push_of_some _ z)
  have got : ((hp.push (PySem.W.kdv_tup us)).push (PySem.HandSPX.excO C hp.objs.size)).get? (hp.objs.size + 1) = some (PySem.HandSPX.excO C hp.objs.size) := by heap_get
  have J2 : Inv X pins σ (upd H1 (hp.objs.size + 1) (exo (hp.objs.size + 1) C none)) ⟨(hp.push (PySem.W.kdv_tup us)).push (PySem.HandSPX.excO C hp.objs.size), g, dr, tk, os⟩ :=
    J.laid (t' := tk) kept le (exo_ok got)
  have r2 : Vals (V.ref (hp.objs.size + 1) :: vs) (Value.ref (hp.objs.size + 1) :: us) := .cons rfl rv
  have hl : (Value.ref (hp.objs.size + 1) :: us).length = ps.length := by
    rw [← r2.length]
    exact G.len _ _ _ _ want
  have hus : us.length ≤ sizeLine := by
    rw [← Paired.length rv, sizeLine_eq]
    omega
  have bt : BindsTo ⟨(hp.push (PySem.W.kdv_tup us)).push (PySem.HandSPX.excO C hp.objs.size), g, dr, tk, os⟩ fd ⟨Value.ref (hp.objs.size + 1) :: us, []⟩ (ps.zip (Value.ref (hp.objs.size + 1) :: us)) := by
    have z := hb _ (Value.ref (hp.objs.size + 1) :: us) J2.kIn (by simpa using hl)
    simpa using z
  refine wpAny_call (PySem.HandSPX.call_own F tail hC (PySem.W.looks_findIn J.kIn iC) (fun self => PySem.W.bind_fn J.kIn self tI) hus
    (codeAny_mono (G.run _ X.stack _ _ ⟨Value.ref (hp.objs.size + 1) :: us, []⟩ (Value.ref (hp.objs.size + 1) :: us) _ _ E0 (hr.make C us []) (J2.env0.make C us []) bt r2 want) ?_))
  intro r s2 out
  match r, out with
  | .error _, z => exact False.elim z
  | .ok .next, z => exact False.elim z
  | .ok .brk, z => exact False.elim z
  | .ok .cont, z => exact False.elim z
  | .ok (.ret u), z =>
    obtain ⟨v, H2, J3, ru, rfl, q3⟩ := J2.after z
    exact ⟨ru, ⟨.ref (hp.objs.size + 1), H2, J3, rfl, q3⟩⟩
/-- C(), C without an own __init__ -/
def tXn (C : Addr) : TE := fun _ H Q => ∀ a, H a = none → Q (.ref a) (upd H a (exo a C none))
theorem pe_xn {x : Str} {C : Addr} {newId initId : String} (F : ExcBaseFacts B newId initId bmB) (q : PySem.W.excIn X.K C bmB newId = true) (kp : PySem.W.keepIn X.K (.ref C) = true) (hg : Gl X x) (hm : X.mg x = some (.ref C))
    (hdb : (x == ("__debug__" : Str)) = false := by decide) : PE X (.Call (.Name x p) [] [] pos) (tXn C) := by
  constructor
  intro pins s σ H Q I h
  refine wpAny_Call_Name_kw (ld_glob I hg hm ?_ hdb)
  refine PySem.W.callWith_K0 I.kIn kp ?_
  obtain ⟨bm, N, nm, qn, bs, hdct, sn, sub, ab, col, dd, k0, k1, k2, k3, k5, mN, hC, hN, hni, T⟩ := exc_obj I.kIn q
  obtain ⟨hp, g, d, t, os⟩ := s
  refine wpAny_call_exc_subT F T hC hN hni (fun h' b made => ?_) (by show 0 ≤ sizeLine; omega)
  have hn : H b = none := I.hok.gone made.new
  obtain ⟨t1, there, _, _⟩ := made.there
  exact ⟨.ref b, _, I.laidN made.keeps made.new hn (exo_ok there), rfl, h b hn⟩
end
end Rt
/-! own rules: repr of data with dicts in it -/
namespace Rt
open PySem PySem.Spec L2
open PyProof.Rows hiding St
def kd : Key → PyData
  | .inl i => .int i
  | .inr x => .str x
mutual
inductive Dx (K : PySem.W.Frag) (H : Hp) : V → PyData → Prop
  | non : Dx K H .non .none
  | bl (b : Bool) : Dx K H (.bl b) (.bool b)
  | int (i : Int) : Dx K H (.int i) (.int i)
  | str (x : Str) : Dx K H (.str x) (.str x)
  | lst {a : Addr} {xs : List V} {ds : List PyData} : SqL K H a xs → DxAll K H xs ds → Dx K H (.ref a) (.list ds)
  | tup {a : Addr} {xs : List V} {ds : List PyData} : SqT K H a xs → DxAll K H xs ds → Dx K H (.ref a) (.tuple ds)
  | dic {a : Addr} {kvs : List (Key × V)} {ds : List PyData} : H a = some (.dK kvs) → DxAll K H (kvs.map (·.2)) ds → Dx K H (.ref a) (.dict ((kvs.map fun p => kd p.1).zip ds))
inductive DxAll (K : PySem.W.Frag) (H : Hp) : List V → List PyData → Prop
  | nil : DxAll K H [] []
  | cons {v : V} {vs : List V} {d : PyData} {ds : List PyData} : Dx K H v d → DxAll K H vs ds → DxAll K H (v :: vs) (d :: ds)
end
theorem DxAll.length {K : PySem.W.Frag} {H : Hp} : ∀ {vs : List V} {ds : List PyData}, DxAll K H vs ds → vs.length = ds.length
  | _, _, .nil => rfl
  | _, _, .cons _ t => congrArg (· + 1) t.length
/-- a value's data, where it stands, with what its repr rests on -/
structure Told (prog : Program) (w : World) (h : Heap) (u : Value) (d : PyData) : Prop where
  ex : ∃ as bs, Reads h u d as ∧ ReadAtMost h d.depth bs ∧ (d.showable = true → d.shown.length ≤ sizeLine → ReprK prog w bs h d.depth u d.shown)
structure ToldAll (prog : Program) (w : World) (h : Heap) (us : List Value) (ds : List PyData) : Prop where
  ex : ∃ as bs, ReadsAll h us ds as ∧ ReadAtMost h (PyData.depthAll ds) bs ∧
    (PyData.showableAll ds = true → (∀ t ∈ PyData.shownAll ds, t.length ≤ sizeLine) → ReprAllK prog w bs h (PyData.depthAll ds) us (PyData.shownAll ds))
section
variable {prog : Program} {w : World} {h : Heap}
theorem ToldAll.nil : ToldAll prog w h [] [] := ⟨[], [], .nil, (fun _ z => nomatch z), fun _ _ => by simp only [PyData.shownAll]; exact .nil⟩
theorem ToldAll.cons {u : Value} {d : PyData} {us : List Value} {ds : List PyData} (a : Told prog w h u d) (b : ToldAll prog w h us ds) : ToldAll prog w h (u :: us) (d :: ds) := by
  obtain ⟨as, bs, r, m, k⟩ := a.ex
  obtain ⟨as', bs', r', m', k'⟩ := b.ex
  refine ⟨_, bs ++ bs', .cons r r', ?_, fun hs hz => ?_⟩
  · simp only [PyData.depthAll]
    exact (m.mono (Nat.le_max_left _ _)).append (m'.mono (Nat.le_max_right _ _))
  · have hs' : d.showable = true ∧ PyData.showableAll ds = true := by simpa [PyData.showableAll] using hs
    have k1 := k hs'.1 (hz _ (by simp only [PyData.shownAll]; exact List.mem_cons_self ..))
    have k2 := k' hs'.2 fun t ht => hz t (by simp only [PyData.shownAll]; exact List.mem_cons_of_mem _ ht)
    simp only [PyData.depthAll, PyData.shownAll]
    exact .cons ((k1.more fun b z => List.mem_append_left _ z).level_le (Nat.le_max_left _ _)) (k2.more_le (fun b z => List.mem_append_right _ z) (Nat.le_max_right _ _))
theorem zip_fst : ∀ (ks : List PyData) (ds : List PyData), ks.length = ds.length → (ks.zip ds).map (·.1) = ks
  | [], _, _ => rfl
  | _ :: _, [], e => nomatch e
  | k :: ks, d :: ds, e => by
    show k :: ((ks.zip ds).map (·.1)) = k :: ks
    rw [zip_fst ks ds (Nat.succ.inj e)]
theorem zip_snd : ∀ (ks : List PyData) (ds : List PyData), ks.length = ds.length → (ks.zip ds).map (·.2) = ds
  | [], [], _ => rfl
  | [], _ :: _, e => nomatch e
  | _ :: _, [], e => nomatch e
  | k :: ks, d :: ds, e => by
    show d :: ((ks.zip ds).map (·.2)) = d :: ds
    rw [zip_snd ks ds (Nat.succ.inj e)]
theorem Told.list {a : Addr} {o : Obj} {us : List Value} {n : Nat} {ds : List PyData} (h1 : h.get? a = some o) (h2 : o.cls = .type "list") (h3 : o.data = .seq us.toArray n) (t : ToldAll prog w h us ds) : Told prog w h (.ref a) (.list ds) := by
  obtain ⟨as, bs, rs, m, k⟩ := t.ex
  have r : Reads h (.ref a) (.list ds) _ := .list h1 h2 h3 rs
  have out : a ∉ bs := not_mem_of_deeper r (by simp only [PyData.depth]; omega) m
  refine ⟨_, a :: bs, r, ReadAtMost.cons r (by simp only [PyData.depth]; omega) m, fun hs hz => ?_⟩
  have hz' : (listText (PyData.shownAll ds)).length ≤ sizeLine := by simpa only [PyData.shown] using hz
  have kk := k (by simpa [PyData.showable] using hs) fun t ht => Nat.le_trans (listText_mem_le ht) hz'
  simp only [PyData.depth, PyData.shown]
  cases us with
  | nil =>
    cases rs
    simp only [PyData.shownAll, listText_nil]
    exact (ReprK.listEmpty (as := bs) h1 h2 h3).more fun b z => List.mem_cons_of_mem _ z
  | cons x l => exact ReprK.list h1 h2 h3 out (by simpa using kk.length_eq) (fun i y e => kk.item i y (by simpa using e))
theorem Told.tuple {a : Addr} {o : Obj} {us : List Value} {n : Nat} {ds : List PyData} (h1 : h.get? a = some o) (h2 : o.cls = .type "tuple") (h3 : o.data = .seq us.toArray n) (t : ToldAll prog w h us ds) : Told prog w h (.ref a) (.tuple ds) := by
  obtain ⟨as, bs, rs, m, k⟩ := t.ex
  have r : Reads h (.ref a) (.tuple ds) _ := .tuple h1 h2 h3 rs
  have out : a ∉ bs := not_mem_of_deeper r (by simp only [PyData.depth]; omega) m
  refine ⟨_, a :: bs, r, ReadAtMost.cons r (by simp only [PyData.depth]; omega) m, fun hs hz => ?_⟩
  have hz' : (tupleText (PyData.shownAll ds)).length ≤ sizeLine := by simpa only [PyData.shown] using hz
  have kk := k (by simpa [PyData.showable] using hs) fun t ht => Nat.le_trans (tupleText_mem_le ht) hz'
  simp only [PyData.depth, PyData.shown]
  exact ReprK.tuple h1 h2 h3 out kk
theorem Told.dict {a : Addr} {o : Obj} {es : Array DictEntry} {n : Nat} {ks ds : List PyData} (h1 : h.get? a = some o) (h2 : o.cls = .type "dict") (h3 : o.data = .dict es n) (sys : (a == sysModules) = false) (le : ks.length = ds.length)
    (t1 : ToldAll prog w h (es.toList.map (·.key)) ks) (t2 : ToldAll prog w h (es.toList.map (·.val)) ds) : Told prog w h (.ref a) (.dict (ks.zip ds)) := by
  obtain ⟨as, bs, rs, m, k⟩ := t1.ex
  obtain ⟨as', bs', rs', m', k'⟩ := t2.ex
  have ek := zip_fst ks ds le
  have ev := zip_snd ks ds le
  have dk := PyData.depthAll_keys_le (ks.zip ds)
  have dv := PyData.depthAll_vals_le (ks.zip ds)
  rw [ek] at dk
  rw [ev] at dv
  have r : Reads h (.ref a) (.dict (ks.zip ds)) _ := .dict h1 h2 h3 (by rw [ek]; exact rs) (by rw [ev]; exact rs')
  have mm : ReadAtMost h (PyData.depthKv (ks.zip ds)) (bs ++ bs') := (m.mono dk).append (m'.mono dv)
  have out : a ∉ bs ++ bs' := not_mem_of_deeper r (by simp only [PyData.depth]; omega) mm
  refine ⟨_, a :: (bs ++ bs'), r, ReadAtMost.cons r (by simp only [PyData.depth]; omega) mm, fun hs hz => ?_⟩
  have hz' : (dictText (PyData.shownKv (ks.zip ds))).length ≤ sizeLine := by simpa only [PyData.shown] using hz
  obtain ⟨s1, s2⟩ := PyData.showableKv_split (ks.zip ds) (by simpa [PyData.showable] using hs)
  rw [ek] at s1
  rw [ev] at s2
  have k1 := k s1 fun t ht => by
    obtain ⟨p, hp, hl⟩ := PyData.shownKv_key_le (ks.zip ds) t (by rw [ek]; exact ht)
    exact Nat.le_trans hl (Nat.le_trans (dictText_mem_le hp) hz')
  have k2 := k' s2 fun t ht => by
    obtain ⟨p, hp, hl⟩ := PyData.shownKv_val_le (ks.zip ds) t (by rw [ev]; exact ht)
    exact Nat.le_trans hl (Nat.le_trans (dictText_mem_le hp) hz')
  simp only [PyData.depth, PyData.shown, PyData.shownKv_eq, ek, ev]
  exact ReprK.dict h1 h2 h3 sys out (ReprEntriesK.of_two es.toList _ _ (k1.more_le (fun b z => List.mem_append_left _ z) dk) (k2.more_le (fun b z => List.mem_append_right _ z) dv))
end
end Rt
namespace Rt
open PySem PySem.Spec L2
open PyProof.Rows hiding St
section
variable {X : Cx} {pins : List (Addr × Obj)} {σ : St} {H : Hp} {s : Shared}
theorem keys_told : ∀ {es : List DictEntry} {kvs : List (Key × V)} {vs : List (Key × Value)}, KV kvs vs → Pairs (mixKind X.prog X.w) es vs →
    ToldAll X.prog X.w s.heap (es.map (·.key)) (kvs.map fun p => kd p.1) ∧ Vals (kvs.map (·.2)) (es.map (·.val))
  | _, _, _, .nil, .nil => ⟨.nil, .nil⟩
  | e :: es, p :: kvs, q :: vs, .cons r t, .cons k v ps => by
    obtain ⟨a, b⟩ := keys_told t ps
    obtain ⟨ep, rv⟩ := r
    refine ⟨.cons ?_ a, .cons ?_ b⟩
    · have k' : keyIs p.1 e.key = true := by
        rw [ep]
        exact k
      show Told X.prog X.w s.heap e.key (kd p.1)
      rcases keyIs_shape k' with ⟨i, tk, e1, e2⟩ | ⟨x, tk, e1, e2⟩
      · rw [e1, e2]
        refine ⟨[], [], .int i tk, (fun _ z => nomatch z), fun hs hz => ?_⟩
        simp only [kd, PyData.shown]
        exact .of_is (ReprIs.int tk (by simpa [PyData.showable, kd] using hs)) _ _ _
      · rw [e1, e2]
        refine ⟨[], [], .str x tk, (fun _ z => nomatch z), fun hs hz => ?_⟩
        simp only [PyData.shown, kd] at hz ⊢
        exact .of_is (ReprIs.str x tk hz) _ _ _
    · show L2.RelV p.2 e.val
      rw [v]
      exact rv
mutual
theorem dx_told (I : Inv X pins σ H s) : ∀ (v : V) (d : PyData) (u : Value), Dx X.K H v d → L2.RelV v u → Told X.prog X.w s.heap u d
  | _, _, _, .non, r => by
    cases r
    exact ⟨[], [], .none, (fun _ z => nomatch z), fun _ _ => by simp only [PyData.shown]; exact .of_is ReprIs.none _ _ _⟩
  | _, _, _, .bl b, r => by
    cases r
    exact ⟨[], [], .bool b, (fun _ z => nomatch z), fun _ _ => by simp only [PyData.shown]; exact .of_is (ReprIs.bool b) _ _ _⟩
  | _, _, _, .int i, r => by
    obtain ⟨tk, rfl⟩ := r
    exact ⟨[], [], .int i tk, (fun _ z => nomatch z), fun hs _ => by simp only [PyData.shown]; exact .of_is (ReprIs.int tk (by simpa [PyData.showable] using hs)) _ _ _⟩
  | _, _, _, .str x, r => by
    obtain ⟨tk, rfl⟩ := r
    exact ⟨[], [], .str x tk, (fun _ z => nomatch z), fun _ hz => by
      simp only [PyData.shown] at hz ⊢
      exact .of_is (ReprIs.str x tk hz) _ _ _⟩
  | _, _, _, .lst hs ha, r => by
    cases r
    obtain ⟨its, rv, ⟨o, n, ho, hc, _, hd⟩, _⟩ := I.list hs
    exact Told.list ho hc hd (dx_toldAll I _ _ _ ha rv)
  | _, _, _, .tup hs ha, r => by
    cases r
    obtain ⟨its, rv, ⟨o, ho, hc, n, hd⟩, _⟩ := I.tuple hs
    exact Told.tuple ho hc hd (dx_toldAll I _ _ _ ha rv)
  | _, _, _, .dic (a := a) (kvs := kvs) (ds := ds) hs ha, r => by
    cases r
    obtain ⟨_, sys, vs, kv, o, es, ep, ho, hx, hd, _, ps, _⟩ := (show ObjOk X.prog X.w H s.heap a (.dK kvs) from I.hok a _ hs)
    obtain ⟨t1, rv⟩ := keys_told (s := s) kv ps
    exact Told.dict ho hx.1 hd sys (by rw [List.length_map, ← ha.length, List.length_map]) t1 (dx_toldAll I _ _ _ ha rv)
theorem dx_toldAll (I : Inv X pins σ H s) : ∀ (vs : List V) (ds : List PyData) (us : List Value), DxAll X.K H vs ds → Vals vs us → ToldAll X.prog X.w s.heap us ds
  | _, _, _, .nil, r => by
    cases r
    exact .nil
  | _, _, _, .cons h t, r => by
    cases r with
    | cons r1 r2 => exact .cons (dx_told I _ _ _ h r1) (dx_toldAll I _ _ _ t r2)
end
end
def rReprX (K : PySem.W.Frag) : List V → Hp → VK → Prop := fun xs H Q => ∃ v d, xs = [v] ∧ Dx K H v d ∧ d.showable = true ∧ d.depth ≤ 60 ∧ d.shown.length ≤ sizeLine ∧ Q (.str d.shown) H
section
variable {X : Cx}
/-- repr(v), v of data, also of dicts -/
theorem call_reprX (hg : X.A.guards = some []) (hu : X.A.units + 64 < cLine) : CallR X (.builtin "repr") (rReprX X.K) := by
  intro pins s σ H xs us Q I r h
  obtain ⟨v, d, rfl, hd, hs, dep, hz, q⟩ := h
  obtain ⟨u, rfl, ru⟩ := vals1 r
  have end0 : ∀ tk, EP X pins σ Q (.str d.shown s.toks) { s with toks := tk } := fun tk => ⟨.str d.shown, H, I.tok _, ⟨_, rfl⟩, q⟩
  have endH : ∀ h' u tk, (∀ b o, s.heap.get? b = some o → h'.get? b = some o) → EP X pins σ Q (.str d.shown u) { s with heap := h', toks := tk } := fun h' u tk kp => ⟨.str d.shown, H, I.kept kp, ⟨u, rfl⟩, q⟩
  have t := dx_told I _ _ _ hd ru
  cases hd with
  | non =>
    cases ru
    exact PySem.P.repr_of_none (by simpa only [PyData.shown] using end0 (s.toks + 1))
  | bl b =>
    cases ru
    exact PySem.P.repr_of_bool (by simpa only [PyData.shown] using end0 (s.toks + 1))
  | int i =>
    obtain ⟨tk, rfl⟩ := ru
    exact PySem.P.repr_of_int (by simpa [PyData.showable] using hs) (by simpa only [PyData.shown] using end0 (s.toks + 1))
  | str x =>
    obtain ⟨tk, rfl⟩ := ru
    exact PySem.P.repr_of_str (by simpa only [PyData.shown] using end0 (s.toks + 1)) (by simpa only [PyData.shown] using hz)
  | @lst a xs ds hl ha =>
    cases ru
    obtain ⟨its, rv, ⟨o, n, ho, hc, _, hdt⟩, _⟩ := I.list hl
    obtain ⟨as, bs, rs, m, k⟩ := (dx_toldAll I _ _ _ ha rv).ex
    have rd : Reads s.heap (.ref a) (.list ds) _ := .list ho hc hdt rs
    have out : a ∉ bs := not_mem_of_deeper rd (by simp only [PyData.depth]; omega) m
    have hz' : (listText (PyData.shownAll ds)).length ≤ sizeLine := by simpa only [PyData.shown] using hz
    have kk := k (by simpa [PyData.showable] using hs) fun t ht => Nat.le_trans (listText_mem_le ht) hz'
    simp only [PyData.depth] at dep
    simp only [PyData.shown] at endH
    refine call_repr_slot (by omega) ⟨o, ho, hc⟩ F.slot_list_repr.toG ?_
    have hu1 : X.A.in1.units + (PyData.depthAll ds + 1) < cLine := by
      show X.A.units + 1 + (PyData.depthAll ds + 1) < cLine
      omega
    cases its with
    | nil =>
      cases rs
      simp only [PyData.shownAll, listText_nil] at endH
      exact call_list_repr_empty ⟨o, ho, hc⟩ ho hdt ⟨_, _, rfl, endH s.heap _ _ fun _ _ e => e⟩
    | cons x l =>
      exact call_list_reprK ho hc hdt out (by simpa using kk.length_eq) (fun i y e => kk.item i y (by simpa using e)) hg (fun b _ => Clear.nil b) hu1 (fun _ _ e => e) (fun h' u tk kp => ⟨_, _, rfl, endH h' u tk kp⟩) hz'
  | @tup a xs ds hl ha =>
    cases ru
    obtain ⟨its, rv, ⟨o, ho, hc, n, hdt⟩, _⟩ := I.tuple hl
    obtain ⟨as, bs, rs, m, k⟩ := (dx_toldAll I _ _ _ ha rv).ex
    have rd : Reads s.heap (.ref a) (.tuple ds) _ := .tuple ho hc hdt rs
    have out : a ∉ bs := not_mem_of_deeper rd (by simp only [PyData.depth]; omega) m
    have hz' : (tupleText (PyData.shownAll ds)).length ≤ sizeLine := by simpa only [PyData.shown] using hz
    have kk := k (by simpa [PyData.showable] using hs) fun t ht => Nat.le_trans (tupleText_mem_le ht) hz'
    simp only [PyData.depth] at dep
    simp only [PyData.shown] at endH
    refine call_repr_slot (by omega) ⟨o, ho, hc⟩ F.slot_tuple_repr ?_
    have hu1 : X.A.in1.units + (PyData.depthAll ds + 1) < cLine := by
      show X.A.units + 1 + (PyData.depthAll ds + 1) < cLine
      omega
    exact call_tuple_reprK ho hc hdt out kk hg (fun b _ => Clear.nil b) hu1 (fun _ _ e => e) (fun h' u tk kp => ⟨_, _, rfl, endH h' u tk kp⟩) hz'
  | @dic a kvs ds hl ha =>
    cases ru
    obtain ⟨_, sys, vs, kv, o, es, ep, ho, hx, hdt, _, ps, _⟩ := (show ObjOk X.prog X.w H s.heap a (.dK kvs) from I.hok a _ hl)
    obtain ⟨t1, rv⟩ := keys_told (s := s) kv ps
    obtain ⟨as, bs, rs, m, k⟩ := t1.ex
    obtain ⟨as', bs', rs', m', k'⟩ := (dx_toldAll I _ _ _ ha rv).ex
    have le : (kvs.map fun p => kd p.1).length = ds.length := by rw [List.length_map, ← ha.length, List.length_map]
    clear end0 t
    revert rs m k le hs dep hz endH
    generalize (kvs.map fun p => kd p.1) = ks
    intro hs dep hz endH rs m k le
    have ek := zip_fst ks ds le
    have ev := zip_snd ks ds le
    have dk := PyData.depthAll_keys_le (ks.zip ds)
    have dv := PyData.depthAll_vals_le (ks.zip ds)
    rw [ek] at dk
    rw [ev] at dv
    have rd : Reads s.heap (.ref a) (.dict (ks.zip ds)) _ := .dict ho hx.1 hdt (by rw [ek]; exact rs) (by rw [ev]; exact rs')
    have mm : ReadAtMost s.heap (PyData.depthKv (ks.zip ds)) (bs ++ bs') := (m.mono dk).append (m'.mono dv)
    have out : a ∉ bs ++ bs' := not_mem_of_deeper rd (by simp only [PyData.depth]; omega) mm
    have hz' : (dictText (PyData.shownKv (ks.zip ds))).length ≤ sizeLine := by simpa only [PyData.shown] using hz
    obtain ⟨s1, s2⟩ := PyData.showableKv_split (ks.zip ds) (by simpa [PyData.showable] using hs)
    rw [ek] at s1
    rw [ev] at s2
    have k1 := k s1 fun t ht => by
      obtain ⟨p, hp, hl⟩ := PyData.shownKv_key_le (ks.zip ds) t (by rw [ek]; exact ht)
      exact Nat.le_trans hl (Nat.le_trans (dictText_mem_le hp) hz')
    have k2 := k' s2 fun t ht => by
      obtain ⟨p, hp, hl⟩ := PyData.shownKv_val_le (ks.zip ds) t (by rw [ev]; exact ht)
      exact Nat.le_trans hl (Nat.le_trans (dictText_mem_le hp) hz')
    simp only [PyData.depth] at dep
    simp only [PyData.shown, PyData.shownKv_eq, ek, ev] at endH
    rw [PyData.shownKv_eq, ek, ev] at hz'
    refine call_repr_slot (by omega) ⟨o, ho, hx.1⟩ F.slot_dict_repr ?_
    have hu1 : X.A.in1.units + (PyData.depthKv (ks.zip ds) + 1) < cLine := by
      show X.A.units + 1 + (PyData.depthKv (ks.zip ds) + 1) < cLine
      omega
    exact call_dict_reprK ho hx.1 hdt sys out (ReprEntriesK.of_two es.toList _ _ (k1.more_le (fun b z => List.mem_append_left _ z) dk) (k2.more_le (fun b z => List.mem_append_right _ z) dv))
      hg (fun b _ => Clear.nil b) hu1 (fun _ _ e => e) (fun h' u tk kp => ⟨_, _, rfl, endH h' u tk kp⟩) hz'
end
end Rt
namespace K06
open PySem PySem.Spec L2 Rt
open PyProof.Rows hiding St
abbrev sOdd : Stmt := top 32
/-! ### data -/
theorem sqT_same {K : PySem.W.Frag} {H H' : Hp} {a : Addr} {xs : List V} (s : Same H H') (h : SqT K H a xs) : SqT K H' a xs := by
  rcases h with (h | ⟨o, h⟩) | h
  · exact .inl (.inl (s _ _ h))
  · exact .inl (.inr ⟨o, s _ _ h⟩)
  · exact .inr h
mutual
theorem Dx.same {K : PySem.W.Frag} {H H' : Hp} (s : Same H H') : ∀ (v : V) (d : PyData), Dx K H v d → Dx K H' v d
  | _, _, .non => .non
  | _, _, .bl b => .bl b
  | _, _, .int i => .int i
  | _, _, .str x => .str x
  | _, _, .lst h a => .lst (s.seq h) (DxAll.same s _ _ a)
  | _, _, .tup h a => .tup (sqT_same s h) (DxAll.same s _ _ a)
  | _, _, .dic h a => .dic (s _ _ h) (DxAll.same s _ _ a)
theorem DxAll.same {K : PySem.W.Frag} {H H' : Hp} (s : Same H H') : ∀ (vs : List V) (ds : List PyData), DxAll K H vs ds → DxAll K H' vs ds
  | _, _, .nil => .nil
  | _, _, .cons h t => .cons (Dx.same s _ _ h) (DxAll.same s _ _ t)
end
/-- data that is told shortly -/
structure Nice (d : PyData) : Prop where
  sh : d.showable = true
  dp : d.depth ≤ 5
  ln : d.shown.length ≤ 10000
theorem Nice.one {d : PyData} (n : Nice d) : d.showable = true ∧ d.depth ≤ 60 ∧ d.shown.length ≤ sizeLine := ⟨n.sh, Nat.le_trans n.dp (by decide), Nat.le_trans n.ln (by decide)⟩
theorem Nice.two {d : PyData} (n : Nice d) : (PyData.list [d, d]).showable = true ∧ (PyData.list [d, d]).depth ≤ 60 ∧ (PyData.list [d, d]).shown.length ≤ sizeLine := by
  have h1 := n.dp
  have h2 := n.ln
  refine ⟨by simp [PyData.showable, PyData.showableAll, n.sh], ?_, ?_⟩
  · simp only [PyData.depth, PyData.depthAll]
    omega
  · simp only [PyData.shown, PyData.shownAll]
    refine Nat.le_trans (listText_len_le _) ?_
    simp only [List.map_cons, List.map_nil, List.sum_cons, List.sum_nil, List.length_cons, List.length_nil]
    rw [sizeLine_eq]
    omega
theorem Nice.four {d : PyData} (n : Nice d) : (PyData.list [d, d, d, d]).showable = true ∧ (PyData.list [d, d, d, d]).depth ≤ 60 ∧ (PyData.list [d, d, d, d]).shown.length ≤ sizeLine := by
  have h1 := n.dp
  have h2 := n.ln
  refine ⟨by simp [PyData.showable, PyData.showableAll, n.sh], ?_, ?_⟩
  · simp only [PyData.depth, PyData.depthAll]
    omega
  · simp only [PyData.shown, PyData.shownAll]
    refine Nat.le_trans (listText_len_le _) ?_
    simp only [List.map_cons, List.map_nil, List.sum_cons, List.sum_nil, List.length_cons, List.length_nil]
    rw [sizeLine_eq]
    omega

structure Sm (d : PyData) : Prop where
  sh : d.showable = true
  dp : d.depth ≤ 2
  ln : d.shown.length ≤ 450
theorem Sm.nice {d : PyData} (h : Sm d) : Nice d := ⟨h.sh, Nat.le_trans h.dp (by decide), Nat.le_trans h.ln (by decide)⟩
theorem sm_int {i : Int} (h : i.natAbs < 10 ^ 40) : Sm (.int i) := by
  refine ⟨?_, by simp [PyData.depth], ?_⟩
  · simp only [PyData.showable, decide_eq_true_eq]
    rcases Nat.eq_zero_or_pos i.natAbs with z | z
    · rw [z]
      decide
    · rw [Nat.log2_lt (Nat.ne_of_gt z)]
      exact Nat.lt_trans h (by decide +kernel)
  · simp only [PyData.shown]
    rw [ofString_len]
    exact Nat.le_trans (int_text_length_le10 (k := 40) (by decide) h) (by decide)
theorem sm_text {i : Int} (h : i.natAbs < 10 ^ 40) : Sm (.str (Str.ofString (toString i))) := by
  refine ⟨by simp [PyData.showable], by simp [PyData.depth], ?_⟩
  simp only [PyData.shown]
  have l : (Str.ofString (toString i)).length ≤ 41 := by
    rw [ofString_len]
    exact int_text_length_le10 (k := 40) (by decide) h
  refine Nat.le_trans (StrLaws.reprText_len _ fun c m => ?_) (by omega)
  refine Nat.lt_of_not_le fun z => int_text_free' c ⟨?_, ?_⟩ i m
  · omega
  · omega
theorem sum_le {ds : List PyData} (h : ∀ d, d ∈ ds → Sm d) : ((PyData.shownAll ds).map (·.length)).sum ≤ 450 * ds.length ∧ (PyData.shownAll ds).length = ds.length ∧ PyData.showableAll ds = true ∧ PyData.depthAll ds ≤ 2 := by
  induction ds with
  | nil => exact ⟨by simp [PyData.shownAll], by simp [PyData.shownAll], by simp [PyData.showableAll], by simp [PyData.depthAll]⟩
  | cons d ds ih =>
    obtain ⟨i1, i2, i3, i4⟩ := ih fun x m => h x (List.mem_cons_of_mem _ m)
    have s := h d List.mem_cons_self
    have s1 := s.ln
    have s2 := s.dp
    refine ⟨?_, ?_, ?_, ?_⟩
    · simp only [PyData.shownAll, List.map_cons, List.sum_cons, List.length_cons]
      omega
    · simp only [PyData.shownAll, List.length_cons, i2]
    · simp only [PyData.showableAll, s.sh, i3, Bool.and_self]
    · simp only [PyData.depthAll]
      omega
theorem nice_tup {ds : List PyData} (h : ∀ d, d ∈ ds → Sm d) (le : ds.length ≤ 12) : Nice (.tuple ds) := by
  obtain ⟨i1, i2, i3, i4⟩ := sum_le h
  refine ⟨by simpa only [PyData.showable] using i3, by simp only [PyData.depth]; omega, ?_⟩
  simp only [PyData.shown]
  have := tupleText_len_le (PyData.shownAll ds)
  omega
theorem nice_lst {ds : List PyData} (h : ∀ d, d ∈ ds → Sm d) (le : ds.length ≤ 12) : Nice (.list ds) := by
  obtain ⟨i1, i2, i3, i4⟩ := sum_le h
  refine ⟨by simpa only [PyData.showable] using i3, by simp only [PyData.depth]; omega, ?_⟩
  simp only [PyData.shown]
  have := listText_len_le (PyData.shownAll ds)
  omega
theorem nice_dic {ds : List PyData} (h : ∀ d, d ∈ ds → Sm d) (le : ds.length ≤ 12) : Nice (.dict [(.int 0, .tuple ds)]) := by
  obtain ⟨i1, i2, i3, i4⟩ := sum_le h
  have e0 : (PyData.shown (.int 0)).length ≤ 450 := (sm_int (i := 0) (by decide)).ln
  have e1 : PyData.showable (.int 0) = true := (sm_int (i := 0) (by decide)).sh
  refine ⟨?_, by simp only [PyData.depth, PyData.depthKv]; omega, ?_⟩
  · simp only [PyData.showable, PyData.showableKv, i3, Bool.and_true]
    exact e1
  · simp only [PyData.shown, PyData.shownKv]
    have q := dictText_len_le [PyData.shown (.int 0) ++ ": " ++ tupleText (PyData.shownAll ds)]
    have t := tupleText_len_le (PyData.shownAll ds)
    simp only [List.map_cons, List.map_nil, List.sum_cons, List.sum_nil, List.length_cons, List.length_nil] at q
    rw [Str.length_append, Str.length_append, show (Str.ofString ": ").length = 2 by decide +kernel] at q
    simp only [PyData.shown] at q e0 ⊢
    omega
theorem Jd.same {K : PySem.W.Frag} {H H' : Hp} {v : V} {xo : Option (List V)} (s : Same H H') (h : Jd K H v xo) : Jd K H' v xo := by
  cases h with
  | no ty k => exact .no (fun H2 s2 => ty H2 (s.trans s2)) k
  | lst h o => exact .lst (s _ _ h) fun x m => Od.same s (o x m)
  | tup h o => exact .tup (s _ _ h) fun x m => Od.same s (o x m)
/-- an item of a value -/
structure It (K : PySem.W.Frag) (M : Hp) (v : V) : Prop where
  od : Od M v
  ex : ∃ d, Dx K M v d ∧ Sm d
theorem It.same {K : PySem.W.Frag} {M M' : Hp} {v : V} (h : It K M v) (s : Same M M') : It K M' v := by
  obtain ⟨d, x, n⟩ := h.ex
  exact ⟨Od.same s h.od, d, Dx.same s _ _ x, n⟩
theorem it_int {K : PySem.W.Frag} {M : Hp} {i : Int} (h : i.natAbs < 10 ^ 40) : It K M (.int i) := ⟨True.intro, _, .int i, sm_int h⟩
/-- a value that is judged and told -/
def Vl (K : PySem.W.Frag) (M : Hp) (v : V) : Prop := ∃ xo d, Jd K M v xo ∧ Dx K M v d ∧ Nice d
theorem Vl.same {K : PySem.W.Frag} {M M' : Hp} {v : V} (h : Vl K M v) (s : Same M M') : Vl K M' v := by
  obtain ⟨xo, d, j, x, n⟩ := h
  exact ⟨xo, d, j.same s, Dx.same s _ _ x, n⟩
theorem its_all {K : PySem.W.Frag} {M : Hp} : ∀ xs : List V, (∀ x, x ∈ xs → It K M x) → ∃ ds, DxAll K M xs ds ∧ ∀ d, d ∈ ds → Sm d
  | [], _ => ⟨[], .nil, fun d h => nomatch h⟩
  | x :: xs, h => by
    obtain ⟨d, hd, sd⟩ := (h x List.mem_cons_self).ex
    obtain ⟨ds, hs, ss⟩ := its_all xs fun y m => h y (List.mem_cons_of_mem _ m)
    refine ⟨d :: ds, .cons hd hs, fun y m => ?_⟩
    rcases List.mem_cons.mp m with rfl | m
    · exact sd
    · exact ss y m
theorem vl_tup {K : PySem.W.Frag} {M : Hp} {q : Addr} {xs : List V} (h : M q = some (.tup xs)) (its : ∀ x, x ∈ xs → It K M x) (le : xs.length ≤ 12) : Vl K M (.ref q) := by
  obtain ⟨ds, hs, ss⟩ := its_all xs its
  exact ⟨_, _, .tup h fun x m => (its x m).od, .tup (SqT.of h) hs, nice_tup ss (by rw [← hs.length]; exact le)⟩
theorem vl_lst {K : PySem.W.Frag} {M : Hp} {q : Addr} {xs : List V} (h : M q = some (.lst xs)) (its : ∀ x, x ∈ xs → It K M x) (le : xs.length ≤ 12) : Vl K M (.ref q) := by
  obtain ⟨ds, hs, ss⟩ := its_all xs its
  exact ⟨_, _, .lst h fun x m => (its x m).od, .lst (SqL.of h) hs, nice_lst ss (by rw [← hs.length]; exact le)⟩
/-- an odd value: an item and a value -/
structure Ov (K : PySem.W.Frag) (M : Hp) (v : V) : Prop where
  it : It K M v
  vl : Vl K M v
theorem Ov.same {K : PySem.W.Frag} {M M' : Hp} {v : V} (h : Ov K M v) (s : Same M M') : Ov K M' v := ⟨h.it.same s, h.vl.same s⟩
theorem ov_mk {K : PySem.W.Frag} {M : Hp} {v : V} {xo : Option (List V)} {d : PyData} (od : Od M v) (j : Jd K M v xo) (x : Dx K M v d) (s : Sm d) : Ov K M v := ⟨⟨od, d, x, s⟩, xo, d, j, x, s.nice⟩
theorem jd_flat {K : PySem.W.Frag} {M : Hp} {v : V} {T : String} (t : ∀ H, TyX K H v (.type T)) (h1 : kitB T "list" = some false) (h2 : kitB T "tuple" = some false) : Jd K M v none := .no (fun H _ => t H) (kitLT0 h1 h2)
theorem od_ints {M : Hp} {xs : List V} (h : xs.all isI = true) : ∀ x, x ∈ xs → Od M x := fun x m => by
  have q := List.all_eq_true.mp h x m
  cases x with
  | int i => exact True.intro
  | _ => cases q
theorem od_two {M : Hp} {x y : V} (hx : Od M x) (hy : Od M y) : ∀ z, z ∈ [x, y] → Od M z := fun z m => by
  rcases List.mem_cons.mp m with rfl | m
  · exact hx
  · cases List.mem_singleton.mp m
    exact hy
def Ovs (K : PySem.W.Frag) (M : Hp) (xs : List V) : Prop := ∀ v, v ∈ xs → Ov K M v
theorem ovN {K : PySem.W.Frag} {M : Hp} : Ovs K M [] := fun _ h => nomatch h
theorem ovC {K : PySem.W.Frag} {M : Hp} {v : V} {xs : List V} (x : Ov K M v) (r : Ovs K M xs) : Ovs K M (v :: xs) := fun u h => by
  rcases List.mem_cons.mp h with e | h
  · subst e
    exact x
  · exact r u h
theorem merge1 {k : Key} {x : V} : mergeK [] [(k, x)] = [(k, x)] := by
  unfold mergeK putK
  simp
def spOdd (K : PySem.W.Frag) : Sp := fun vs H Q _ => ∃ (d c : Addr), vs = [.ref d] ∧ Src H d c ∧ ∀ (v : V) (H' : Hp), Ov K (mask d c H') v → Src H' d c → Keep d c H H' → Q v H'
section
variable {P : Program} {w : World} {K : PySem.W.Frag} {mg : Str → Option Value} {base : Heap} {f : Addr} {fd : FuncData}
theorem scOdd : FnScope ["source", "some"] ["source"] (defScope sOdd) := ⟨rfl, rfl, rfl, by decide +kernel, rfl, by decide +kernel, by decide +kernel⟩
theorem ok_odd (F : Fun K "_law_odd" "_law_odd" sOdd f fd) (cO : Cb P w K mg base 2 "_law_of" spOf) : FnG P w K mg base 3 f fd ["source"] (spOdd K) := by
  refine okG F scOdd (fun vs H Q E h => ?_) (fun cdv A outer s H vs Q E hg hr h => ?_)
  · obtain ⟨d, c, rfl, _⟩ := h
    rfl
  · obtain ⟨d, c, rfl, S, k⟩ := h
    refine ⟨_, (pss_cons (ps_set (i := 1) scOdd.nd rfl (.inl rfl) (pe_lst (pa_cons pe_non (pa_cons pe_bl (pa_cons pe_bl (pa_cons (pe_un un_neg pe_int) (pa_cons pe_int (pa_cons (pe_op op_pow pe_int pe_int) (pa_cons pe_str (pa_cons pe_str (pa_cons pe_str (pa_cons (pe_tup pa_nil) (pa_cons (pe_lst pa_nil) (pa_cons pe_dnewK (pa_cons (pe_tup (pa_cons pe_int pa_nil)) (pa_cons (pe_lst (pa_cons pe_int pa_nil)) (pa_cons (pe_tup (pa_cons pe_int (pa_cons pe_int pa_nil))) (pa_cons (pe_disp (pps_cons pe_int pe_int pps_nil) (by rfl) (by rfl) (fun z => by cases z) (by decide)) (pa_cons (pe_tup (pa_cons (pe_tup (pa_cons pe_int (pa_cons pe_int pa_nil))) (pa_cons pe_int pa_nil))) pa_nil)))))))))))))))))))
      (pss_one (ps_ret (pe_k cO hg hr (by decide) (by rfl) (pa_cons (pv 0) (pa_cons (pv 1) pa_nil)))))), ?_⟩
    refine ⟨_, rfl, _, _, rfl, rfl, ⟨by decide, by decide, by decide⟩, ?_⟩
    refine ⟨(by show 0 ≤ sizeLine; decide), fun t0 nt0 => ?_⟩
    have at0 := S.away nt0
    have St0 := S.new (o := .tup []) nt0
    have gt0 := mask_new (d := d) (c := c) (o := .tup []) nt0
    have kt0 := Keep.refl.new (d := d) (c := c) (o := .tup []) nt0
    have ft0 := mask_at (d := d) (c := c) at0 (upd_same (H := H) (a := t0) (o := .tup []))
    revert St0 gt0 kt0 ft0
    generalize upd H t0 (.tup []) = ht0
    intro St0 gt0 kt0 ft0
    refine ⟨(by show 0 ≤ sizeLine; decide), fun l0 nl0 => ?_⟩
    have al0 := St0.away nl0
    have Sl0 := St0.new (o := .lst []) nl0
    have gl0 := mask_new (d := d) (c := c) (o := .lst []) nl0
    have kl0 := Keep.refl.new (d := d) (c := c) (o := .lst []) nl0
    have fl0 := mask_at (d := d) (c := c) al0 (upd_same (H := ht0) (a := l0) (o := .lst []))
    revert Sl0 gl0 kl0 fl0
    generalize upd ht0 l0 (.lst []) = hl0
    intro Sl0 gl0 kl0 fl0
    intro d0 nd0
    have ad0 := Sl0.away nd0
    have Sd0 := Sl0.new (o := .dK []) nd0
    have gd0 := mask_new (d := d) (c := c) (o := .dK []) nd0
    have kd0 := Keep.refl.new (d := d) (c := c) (o := .dK []) nd0
    have fd0 := mask_at (d := d) (c := c) ad0 (upd_same (H := hl0) (a := d0) (o := .dK []))
    revert Sd0 gd0 kd0 fd0
    generalize upd hl0 d0 (.dK []) = hd0
    intro Sd0 gd0 kd0 fd0
    refine ⟨(by show 1 ≤ sizeLine; decide), fun t1 nt1 => ?_⟩
    have at1 := Sd0.away nt1
    have St1 := Sd0.new (o := .tup [.int 0]) nt1
    have gt1 := mask_new (d := d) (c := c) (o := .tup [.int 0]) nt1
    have kt1 := Keep.refl.new (d := d) (c := c) (o := .tup [.int 0]) nt1
    have ft1 := mask_at (d := d) (c := c) at1 (upd_same (H := hd0) (a := t1) (o := .tup [.int 0]))
    revert St1 gt1 kt1 ft1
    generalize upd hd0 t1 (.tup [.int 0]) = ht1
    intro St1 gt1 kt1 ft1
    refine ⟨(by show 1 ≤ sizeLine; decide), fun l1 nl1 => ?_⟩
    have al1 := St1.away nl1
    have Sl1 := St1.new (o := .lst [.int 0]) nl1
    have gl1 := mask_new (d := d) (c := c) (o := .lst [.int 0]) nl1
    have kl1 := Keep.refl.new (d := d) (c := c) (o := .lst [.int 0]) nl1
    have fl1 := mask_at (d := d) (c := c) al1 (upd_same (H := ht1) (a := l1) (o := .lst [.int 0]))
    revert Sl1 gl1 kl1 fl1
    generalize upd ht1 l1 (.lst [.int 0]) = hl1
    intro Sl1 gl1 kl1 fl1
    refine ⟨(by show 2 ≤ sizeLine; decide), fun t2 nt2 => ?_⟩
    have at2 := Sl1.away nt2
    have St2 := Sl1.new (o := .tup [.int 0, .int 1]) nt2
    have gt2 := mask_new (d := d) (c := c) (o := .tup [.int 0, .int 1]) nt2
    have kt2 := Keep.refl.new (d := d) (c := c) (o := .tup [.int 0, .int 1]) nt2
    have ft2 := mask_at (d := d) (c := c) at2 (upd_same (H := hl1) (a := t2) (o := .tup [.int 0, .int 1]))
    revert St2 gt2 kt2 ft2
    generalize upd hl1 t2 (.tup [.int 0, .int 1]) = ht2
    intro St2 gt2 kt2 ft2
    intro d1 nd1
    refine ⟨upd_same, [(Sum.inl 0, .int 1)], rfl, (by decide), ?_⟩
    rw [upd_upd, merge1]
    have ad1 := St2.away nd1
    have Sd1 := St2.new (o := .dK [((Sum.inl 0 : Key), V.int 1)]) nd1
    have gd1 := mask_new (d := d) (c := c) (o := .dK [((Sum.inl 0 : Key), V.int 1)]) nd1
    have kd1 := Keep.refl.new (d := d) (c := c) (o := .dK [((Sum.inl 0 : Key), V.int 1)]) nd1
    have fd1 := mask_at (d := d) (c := c) ad1 (upd_same (H := ht2) (a := d1) (o := .dK [((Sum.inl 0 : Key), V.int 1)]))
    revert Sd1 gd1 kd1 fd1
    generalize upd ht2 d1 (.dK [((Sum.inl 0 : Key), V.int 1)]) = hd1
    intro Sd1 gd1 kd1 fd1
    refine ⟨(by show 2 ≤ sizeLine; decide), fun t3 nt3 => ?_⟩
    have at3 := Sd1.away nt3
    have St3 := Sd1.new (o := .tup [.int 0, .int 1]) nt3
    have gt3 := mask_new (d := d) (c := c) (o := .tup [.int 0, .int 1]) nt3
    have kt3 := Keep.refl.new (d := d) (c := c) (o := .tup [.int 0, .int 1]) nt3
    have ft3 := mask_at (d := d) (c := c) at3 (upd_same (H := hd1) (a := t3) (o := .tup [.int 0, .int 1]))
    revert St3 gt3 kt3 ft3
    generalize upd hd1 t3 (.tup [.int 0, .int 1]) = ht3
    intro St3 gt3 kt3 ft3
    refine ⟨(by show 2 ≤ sizeLine; decide), fun t4 nt4 => ?_⟩
    have at4 := St3.away nt4
    have St4 := St3.new (o := .tup [.ref t3, .int 2]) nt4
    have gt4 := mask_new (d := d) (c := c) (o := .tup [.ref t3, .int 2]) nt4
    have kt4 := Keep.refl.new (d := d) (c := c) (o := .tup [.ref t3, .int 2]) nt4
    have ft4 := mask_at (d := d) (c := c) at4 (upd_same (H := ht3) (a := t4) (o := .tup [.ref t3, .int 2]))
    revert St4 gt4 kt4 ft4
    generalize upd ht3 t4 (.tup [.ref t3, .int 2]) = ht4
    intro St4 gt4 kt4 ft4
    have menu : Ovs K (mask d c ht4) [.non, .bl true, .bl false, .int (-1), .int 0, .int (10 ^ 39), .str "", .str "a", .str "0", .ref t0, .ref l0, .ref d0, .ref t1, .ref l1, .ref t2, .ref d1, .ref t4] := (ovC (ov_mk True.intro (jd_flat (fun _ => .base .non) (by decide +kernel) (by decide +kernel)) .non ⟨by decide +kernel, by decide +kernel, by decide +kernel⟩)
      (ovC (ov_mk True.intro (jd_flat (fun _ => .base (.bl _)) (by decide +kernel) (by decide +kernel)) (.bl _) ⟨by decide +kernel, by decide +kernel, by decide +kernel⟩)
      (ovC (ov_mk True.intro (jd_flat (fun _ => .base (.bl _)) (by decide +kernel) (by decide +kernel)) (.bl _) ⟨by decide +kernel, by decide +kernel, by decide +kernel⟩)
      (ovC (ov_mk True.intro (jd_flat (fun _ => .base (.int _)) (by decide +kernel) (by decide +kernel)) (.int _) ⟨by decide +kernel, by decide +kernel, by decide +kernel⟩)
      (ovC (ov_mk True.intro (jd_flat (fun _ => .base (.int _)) (by decide +kernel) (by decide +kernel)) (.int _) ⟨by decide +kernel, by decide +kernel, by decide +kernel⟩)
      (ovC (ov_mk True.intro (jd_flat (fun _ => .base (.int _)) (by decide +kernel) (by decide +kernel)) (.int _) ⟨by decide +kernel, by decide +kernel, by decide +kernel⟩)
      (ovC (ov_mk True.intro (jd_flat (fun _ => .base (.str _)) (by decide +kernel) (by decide +kernel)) (.str _) ⟨by decide +kernel, by decide +kernel, by decide +kernel⟩)
      (ovC (ov_mk True.intro (jd_flat (fun _ => .base (.str _)) (by decide +kernel) (by decide +kernel)) (.str _) ⟨by decide +kernel, by decide +kernel, by decide +kernel⟩)
      (ovC (ov_mk True.intro (jd_flat (fun _ => .base (.str _)) (by decide +kernel) (by decide +kernel)) (.str _) ⟨by decide +kernel, by decide +kernel, by decide +kernel⟩)
      (ovC (ov_mk (d := .tuple []) ⟨_, _, (gt4 _ _ (gt3 _ _ (gd1 _ _ (gt2 _ _ (gl1 _ _ (gt1 _ _ (gd0 _ _ (gl0 _ _ ft0)))))))), rfl⟩ (.tup (gt4 _ _ (gt3 _ _ (gd1 _ _ (gt2 _ _ (gl1 _ _ (gt1 _ _ (gd0 _ _ (gl0 _ _ ft0)))))))) (fun _ m => nomatch m)) (.tup (SqT.of (gt4 _ _ (gt3 _ _ (gd1 _ _ (gt2 _ _ (gl1 _ _ (gt1 _ _ (gd0 _ _ (gl0 _ _ ft0))))))))) .nil) ⟨by decide +kernel, by decide +kernel, by decide +kernel⟩)
      (ovC (ov_mk (d := .list []) ⟨_, _, (gt4 _ _ (gt3 _ _ (gd1 _ _ (gt2 _ _ (gl1 _ _ (gt1 _ _ (gd0 _ _ fl0))))))), rfl⟩ (.lst (gt4 _ _ (gt3 _ _ (gd1 _ _ (gt2 _ _ (gl1 _ _ (gt1 _ _ (gd0 _ _ fl0))))))) (fun _ m => nomatch m)) (.lst (SqL.of (gt4 _ _ (gt3 _ _ (gd1 _ _ (gt2 _ _ (gl1 _ _ (gt1 _ _ (gd0 _ _ fl0)))))))) .nil) ⟨by decide +kernel, by decide +kernel, by decide +kernel⟩)
      (ovC (ov_mk (d := .dict []) ⟨_, _, (gt4 _ _ (gt3 _ _ (gd1 _ _ (gt2 _ _ (gl1 _ _ (gt1 _ _ fd0)))))), rfl⟩ (.no (fun _ z => .base (.dK (z _ _ (gt4 _ _ (gt3 _ _ (gd1 _ _ (gt2 _ _ (gl1 _ _ (gt1 _ _ fd0))))))))) (kitLT0 (by decide +kernel) (by decide +kernel))) (.dic (ds := []) (gt4 _ _ (gt3 _ _ (gd1 _ _ (gt2 _ _ (gl1 _ _ (gt1 _ _ fd0)))))) .nil) ⟨by decide +kernel, by decide +kernel, by decide +kernel⟩)
      (ovC (ov_mk (d := .tuple [.int 0]) ⟨_, _, (gt4 _ _ (gt3 _ _ (gd1 _ _ (gt2 _ _ (gl1 _ _ ft1))))), rfl⟩ (.tup (gt4 _ _ (gt3 _ _ (gd1 _ _ (gt2 _ _ (gl1 _ _ ft1))))) (od_ints (by simp [isI]))) (.tup (SqT.of (gt4 _ _ (gt3 _ _ (gd1 _ _ (gt2 _ _ (gl1 _ _ ft1)))))) (.cons (.int _) .nil)) ⟨by decide +kernel, by decide +kernel, by decide +kernel⟩)
      (ovC (ov_mk (d := .list [.int 0]) ⟨_, _, (gt4 _ _ (gt3 _ _ (gd1 _ _ (gt2 _ _ fl1)))), rfl⟩ (.lst (gt4 _ _ (gt3 _ _ (gd1 _ _ (gt2 _ _ fl1)))) (od_ints (by simp [isI]))) (.lst (SqL.of (gt4 _ _ (gt3 _ _ (gd1 _ _ (gt2 _ _ fl1))))) (.cons (.int _) .nil)) ⟨by decide +kernel, by decide +kernel, by decide +kernel⟩)
      (ovC (ov_mk (d := .tuple [.int 0, .int 1]) ⟨_, _, (gt4 _ _ (gt3 _ _ (gd1 _ _ ft2))), rfl⟩ (.tup (gt4 _ _ (gt3 _ _ (gd1 _ _ ft2))) (od_ints (by simp [isI]))) (.tup (SqT.of (gt4 _ _ (gt3 _ _ (gd1 _ _ ft2)))) (.cons (.int _) (.cons (.int _) .nil))) ⟨by decide +kernel, by decide +kernel, by decide +kernel⟩)
      (ovC (ov_mk (d := .dict [(.int 0, .int 1)]) ⟨_, _, (gt4 _ _ (gt3 _ _ fd1)), rfl⟩ (.no (fun _ z => .base (.dK (z _ _ (gt4 _ _ (gt3 _ _ fd1))))) (kitLT0 (by decide +kernel) (by decide +kernel))) (.dic (ds := [.int 1]) (gt4 _ _ (gt3 _ _ fd1)) (.cons (.int _) .nil)) ⟨by decide +kernel, by decide +kernel, by decide +kernel⟩)
      (ovC (ov_mk (d := .tuple [.tuple [.int 0, .int 1], .int 2]) ⟨_, _, ft4, rfl⟩ (.tup ft4 (od_two ⟨_, _, (gt4 _ _ ft3), rfl⟩ True.intro)) (.tup (SqT.of ft4) (.cons (.tup (SqT.of (gt4 _ _ ft3)) (.cons (.int _) (.cons (.int _) .nil))) (.cons (.int _) .nil))) ⟨by decide +kernel, by decide +kernel, by decide +kernel⟩)
      ovN)))))))))))))))))
    have kk := ((((((((kt0.trans kl0).trans kd0).trans kt1).trans kl1).trans kt2).trans kd1).trans kt3).trans kt4)
    refine ⟨(by show 17 ≤ sizeLine; decide), fun p np => ?_⟩
    have ap := St4.away np
    refine ⟨_, rfl, _, rfl, d, c, p, _, rfl, St4.new np, upd_same, ap.2, (by show 0 < 17; decide), (by show 17 < 1000000000; decide), fun i v H' hi S' kp => ?_⟩
    exact k v H' ((menu v (List.mem_of_getElem? hi)).same ((mask_new np).trans (mask_keep kp))) S' ((kk.new np).trans kp)
end
end K06
/-! own rules: a tuple turned round by a slice -/
namespace Rt
open PySem PySem.Spec L2
open PyProof.Rows hiding St
section
variable {prog : Program} {w : World} {A : Around} {E : Value → Shared → Prop} {s : Shared}
theorem slice_back {sl : Addr} {v1 v2 v3 : Value} {n : Nat} {Q : Int × Int × Nat → Shared → Prop} (isS : s.heap.IsSliceOf sl v1 v2 v3) (p1 : IsPart v1 none) (p2 : IsPart v2 none) (p3 : IsPart v3 (some (-1))) (now : Q ((n : Int) - 1, -1, n) s) :
    wpAny (model prog w) A (Builtin.Slice.sliceApplied (.ref sl) (pure (n : Int))) Q E s := by
  obtain ⟨ob, hob, cls, dat⟩ := id isS
  cases p1
  cases p2
  cases p3 with
  | int _ tk =>
    unfold Builtin.Slice.sliceApplied
    unfold Builtin.Slice.sliceFields
    refine wpAny_bind (wpAny_bind (wpAny_field hob dat (x := .none) rfl (wpAny_bind (wpAny_field hob dat (x := .none) rfl (wpAny_bind (wpAny_field hob dat (x := .int (-1) tk) rfl (wpAny_pure ?_)))))))
    refine wpAny_bind (slicePart_int ?_)
    show wpAny _ _ (if ((-1 : Int) == 0) = true then _ else _) _ _ s
    rw [if_neg (by decide)]
    refine wpAny_bind (slicePart_none (wpAny_bind (slicePart_none (wpAny_bind (wpAny_pure ?_)))))
    show wpAny _ _ (pure ((n : Int) - 1, (-1 : Int), Builtin.Slice.slicePlaces ((n : Int) - 1) (-1) (-1))) _ _ s
    have e : Builtin.Slice.slicePlaces ((n : Int) - 1) (-1) (-1) = n := by
      unfold Builtin.Slice.slicePlaces
      rw [if_neg (by decide)]
      split
      · rw [show (-(-1 : Int)) = 1 by decide, Int.ediv_one]
        omega
      · omega
    rw [e]
    exact wpAny_pure now
theorem pick_all {α : Type} : ∀ (n : Nat) (f : Nat → Option α) (ys : List α), ys.length = n → (∀ k, k < n → f k = ys[k]?) → (List.range n).filterMap f = ys
  | 0, f, ys, l, _ => by
    rw [List.eq_nil_of_length_eq_zero l]
    rfl
  | n + 1, f, ys, l, h => by
    rw [List.range_succ, List.filterMap_append, pick_all n f (ys.take n) (by rw [List.length_take]; omega) (fun k hk => by rw [h k (by omega), List.getElem?_take_of_lt hk])]
    have e := h n (Nat.lt_succ_self n)
    have lt : n < ys.length := by omega
    rw [List.getElem?_eq_getElem lt] at e
    have all : ys.take (n + 1) = ys := List.take_of_length_le (by omega)
    rw [List.take_succ, List.getElem?_eq_getElem lt] at all
    show ys.take n ++ [n].filterMap f = ys
    rw [show [n].filterMap f = [ys[n]] by simp [e]]
    exact all
theorem back_pick (xs : Array Value) : ((List.range xs.size).filterMap fun (k : Nat) => xs[((xs.size : Int) - 1 + (k : Int) * (-1)).toNat]?).toArray = xs.toList.reverse.toArray := by
  congr 1
  refine pick_all _ _ _ (by rw [List.length_reverse, Array.length_toList]) fun k lt => ?_
  rw [List.getElem?_reverse (by rw [Array.length_toList]; exact lt), Array.length_toList, Array.getElem?_toList]
  congr 1
  omega
theorem item_back {t sl : Addr} {items : Array Value} {v1 v2 v3 : Value} {Q : Value → Shared → Prop} (htp : IsTup s.heap t items) (isS : s.heap.IsSliceOf sl v1 v2 v3) (p1 : IsPart v1 none) (p2 : IsPart v2 none) (p3 : IsPart v3 (some (-1)))
    (now : Q (.ref s.heap.objs.size) { s with heap := s.heap.push { cls := .type "tuple", data := .seq items.toList.reverse.toArray } }) (small : items.size ≤ sizeLine) : wpAny (model prog w) A (getItem (.ref t) (.ref sl)) Q E s := by
  have fits : sizeOk (.seq items.toList.reverse.toArray) := by
    show items.toList.reverse.toArray.size ≤ sizeLine
    rw [List.size_toArray, List.length_reverse, Array.length_toList]
    exact small
  obtain ⟨ob, hob, cls, dat⟩ := id isS
  have isT : s.TypeIs (.ref sl) "slice" := ⟨ob, hob, cls⟩
  unfold getItem
  try with_reducible refine wpAny_holding ?_
  first | refine wpAny_bind (wpAny_pure ?_) | skip
  refine wpAny_bind (wpAny_sequenceKey htp.typeIs (by decide) ?_)
  refine wpAny_bind (wpAny_callSpecial?_slot (name := Str.ofString "__getitem__") htp.typeIs PyProof.Rows.slot_tuple_getitem (wpAny_call_entry PyProof.Rows.slot_tuple_getitem htp.typeIs entry_tuple_getitem ?_ (args_tuple_getitem _ _)))
  show wpAny _ _ (Builtin.Tuple.tupleItemsOf (.ref t) >>= _) _ _ s
  refine wpAny_bind (tupleItemsOf_ htp (wpAny_bind (wpAny_typeOf isT ?_)))
  rw [if_pos (by decide)]
  refine wpAny_bind (slice_back isS p1 p2 p3 ?_)
  have no : ¬ ((((items.size : Int) - 1 == 0) && ((-1 : Int) == 1) && (items.size == items.size)) = true) := by
    rw [show ((-1 : Int) == 1) = false by decide, Bool.and_false, Bool.false_and]
    exact Bool.false_ne_true
  show wpAny _ _ (if (((items.size : Int) - 1 == 0) && ((-1 : Int) == 1) && (items.size == items.size)) = true then _ else _) _ _ s
  rw [if_neg no, back_pick]
  first
    | exact wpAny_bind (m := Builtin.Tuple.tupleExact _) (wpAny_newObj_type (wpAny_pure ⟨_, rfl, wpAny_pure now⟩) fits)
    | exact wpAny_bind (m := Builtin.Tuple.tupleExact _) (wpAny_newObj_type (wpAny_bind (wpAny_pure (wpAny_pure ⟨_, rfl, wpAny_pure now⟩))) fits)
    | exact wpAny_bind (wpAny_bind (m := Builtin.Tuple.tupleExact _) (wpAny_newObj_type (wpAny_pure (wpAny_pure ⟨_, rfl, wpAny_pure now⟩)) fits))
    | exact wpAny_bind (wpAny_bind (m := Builtin.Tuple.tupleExact _) (wpAny_newObj_type (wpAny_pure ⟨_, rfl, wpAny_pure now⟩) fits))
end
def tBack (K : PySem.W.Frag) (te : TE) : TE := fun σ H Q => te σ H fun x H1 => ∃ (b : Addr) (us : List V), x = .ref b ∧ SqT K H1 b us ∧ ∀ n, H1 n = none → Q (.ref n) (upd H1 n (.tup us.reverse))
theorem pe_back {X : Cx} {e : Expr} {te : TE} {k : Nat} {q1 q2 q3 q : Pos} (he : PE X e te) : PE X (.Subscript e (.Slice none none (some (.UnaryOp .USub (.Constant (.int 1) k q1) q2)) q3) q) (tBack X.K te) := by
  constructor
  intro pins s σ H Q I want
  refine Subscript_ (thn (he.run pins s σ H _ I want) ?_)
  rintro v s1 ⟨x, H1, I1, r1, b, us, rfl, hb, now⟩
  cases r1
  have neg : PO X (some (.UnaryOp .USub (.Constant (.int 1) k q1) q2)) (tPart (tUn (rU fun i => .int (-i)) (tC (.int 1)))) := po_some (pe_un un_neg pe_int)
  refine wpAny_Slice (thn (po_none.run pins s1 σ H1 (fun o H2 => o = none ∧ H2 = H1) I1 ⟨rfl, rfl⟩) ?_)
  rintro w1 s2 ⟨_, H2, I2, p1, rfl, rfl⟩
  refine thn (po_none.run pins s2 σ H2 (fun o H3 => o = none ∧ H3 = H2) I2 ⟨rfl, rfl⟩) ?_
  rintro w2 s3 ⟨_, H3, I3, p2, rfl, rfl⟩
  refine thn (neg.run pins s3 σ H3 (fun o H4 => o = some (-1) ∧ H4 = H3) I3 ⟨1, rfl, -1, rfl, rfl, rfl⟩) ?_
  rintro w3 s4 ⟨_, H4, I4, p3, rfl, rfl⟩
  have I5 : Inv X pins σ H4 { s4 with heap := s4.heap.push { cls := .type "slice", data := .fields #[w1, w2, w3] } } := I4.kept (t' := s4.toks) fun c oc z => Heap.get?_push_of_some _ z
  obtain ⟨its, rv, htp, small⟩ := I5.tuple hb
  have same := rv.length
  show wpAny (model X.prog X.w) X.A (subscriptTail e (.Slice none none (some (.UnaryOp .USub (.Constant (.int 1) k q1) q2)) q3) (.ref b) (.ref s4.heap.objs.size)) (EP X pins σ Q) X.xe { s4 with heap := s4.heap.push { cls := .type "slice", data := .fields #[w1, w2, w3] } }
  refine tail_any (ops := [.ref b, .ref s4.heap.objs.size]) htp.typeIs (PyProof.Rows.slot_tuple_getitem.lookup) ?_ (by with_unfolding_all rfl)
  refine item_back htp (Heap.IsSliceOf.new _ w1 w2 w3) p1 p2 p3 ?_ (by rw [List.size_toArray]; omega)
  refine ⟨.ref _, _, I5.laid (t' := s4.toks) (o := .tup us.reverse) (fun c oc z => Heap.get?_push_of_some _ z) (Nat.le_refl _) ?_, rfl, now _ (I5.hok.fresh (Nat.le_refl _))⟩
  exact ⟨by rw [List.length_reverse]; exact small, _, rv.reverse, IsTup.new _ _⟩
end Rt
namespace K06
open PySem PySem.Spec L2 Rt
open PyProof.Rows hiding St
abbrev sNear : Stmt := top 43
/-! ### heaps that only grow -/
def Ext (H H' : Hp) : Prop := ∀ d c, Src H d c → Src H' d c ∧ Keep d c H H'
theorem Ext.refl {H : Hp} : Ext H H := fun _ _ S => ⟨S, Keep.refl⟩
theorem Ext.new {H : Hp} {p : Addr} {o : HO} (n : H p = none) : Ext H (upd H p o) := fun _ _ S => ⟨S.new n, Keep.refl.new n⟩
theorem slA_of {K : PySem.W.Frag} {H : Hp} {a : Addr} {xs : List V} {lo hi : Option Int} {Q : VK} (ha : H a = some (.tup xs)) (k : ∀ (b : Addr) (H' : Hp), Ext H H' → H' b = some (.tup (cutV xs lo hi)) → Q (.ref b) H') : rSlA K (.ref a) lo hi H Q := by
  refine ⟨a, xs, rfl, SqT.of ha, fun ⟨h1, h2⟩ => k a H Ext.refl ?_, fun _ p np => k p _ (Ext.new np) upd_same⟩
  unfold cutV
  rw [h1, h2, List.drop_zero, Nat.sub_zero, List.take_of_length_le (Nat.le_refl _)]
  exact ha
theorem catA_of {K : PySem.W.Frag} {H : Hp} {a b : Addr} {xs ys : List V} {Q : VK} (ha : H a = some (.tup xs)) (hb : H b = some (.tup ys)) (le : xs.length + ys.length ≤ 1000) (k : ∀ (r : Addr) (H' : Hp), Ext H H' → H' r = some (.tup (xs ++ ys)) → Q (.ref r) H') : rCatA K (.ref a) (.ref b) H Q := by
  refine ⟨a, b, xs, ys, rfl, rfl, SqT.of ha, SqT.of hb, Nat.le_of_lt (small1000 le), fun e => k b H Ext.refl ?_, fun _ e => k a H Ext.refl ?_, fun _ _ p np => k p _ (Ext.new np) upd_same⟩
  · rw [e, List.nil_append]
    exact hb
  · rw [e, List.append_nil]
    exact ha
def TabI (xs : List Int) : Prop := ∀ x, x ∈ xs → x.natAbs < 10 ^ 39
theorem it_cut {K : PySem.W.Frag} {M : Hp} {xs : List V} {lo hi : Option Int} (h : ∀ x, x ∈ xs → It K M x) : ∀ x, x ∈ cutV xs lo hi → It K M x := fun x m => h x (List.mem_of_mem_drop (List.mem_of_mem_take m))
theorem its_ints {K : PySem.W.Frag} {M : Hp} {xs : List Int} (h : TabI xs) : ∀ x, x ∈ xs.map V.int → It K M x := fun x m => by
  obtain ⟨i, hi, rfl⟩ := List.mem_map.mp m
  exact it_int (Nat.lt_trans (h i hi) (by decide))
theorem log_small {i : Int} (h : i.natAbs < 10 ^ 40) : i.natAbs.log2 < 1920 := by
  rcases Nat.eq_zero_or_pos i.natAbs with z | z
  · rw [z]
    decide
  · rw [Nat.log2_lt (Nat.ne_of_gt z)]
    exact Nat.lt_trans h (by decide +kernel)
theorem its_app {K : PySem.W.Frag} {M : Hp} {xs ys : List V} (h : ∀ x, x ∈ xs → It K M x) (g : ∀ x, x ∈ ys → It K M x) : ∀ x, x ∈ xs ++ ys → It K M x := fun x m => (List.mem_append.mp m).elim (h x) (g x)
theorem vlN {K : PySem.W.Frag} {M : Hp} : ∀ v, v ∈ ([] : List V) → Vl K M v := fun _ h => nomatch h
theorem vlC {K : PySem.W.Frag} {M : Hp} {v : V} {xs : List V} (x : Vl K M v) (r : ∀ v, v ∈ xs → Vl K M v) : ∀ u, u ∈ v :: xs → Vl K M u := fun u h => by
  rcases List.mem_cons.mp h with e | h
  · subst e
    exact x
  · exact r u h
/-! ### the heap without one more object -/
def hide (p : Addr) (M : Hp) : Hp := fun b => if b = p then none else M b
theorem hide_same {p : Addr} {M : Hp} : Same (hide p M) M := fun b u e => by
  unfold hide at e
  split at e
  · cases e
  · exact e
theorem hide_up {p : Addr} {M M' : Hp} (s : Sbut p M M') : Same (hide p M) (hide p M') := fun b u e => by
  unfold hide at e ⊢
  split at e
  · cases e
  · rename_i n
    rw [if_neg n]
    exact s b u e n
theorem hide_in {p : Addr} {M M' : Hp} (n : M p = none) (s : Same M M') : Same M (hide p M') := fun b u e => by
  unfold hide
  rw [if_neg (ne_of_none e n)]
  exact s b u e
theorem Keep.free {d c p : Addr} {H H' : Hp} (a : Keep d c H H') (n : p ≠ d ∧ p ≠ c) (h : H' p = none) : H p = none := by
  cases e : H p with
  | none => rfl
  | some o =>
    rw [a p o e n.1 n.2] at h
    cases h
theorem hide_at {p b : Addr} {M : Hp} {o : HO} (n : b ≠ p) (e : M b = some o) : hide p M b = some o := by
  unfold hide
  rw [if_neg n]
  exact e
theorem itN {K : PySem.W.Frag} {M : Hp} : ∀ v, v ∈ ([] : List V) → It K M v := fun _ h => nomatch h
theorem itC {K : PySem.W.Frag} {M : Hp} {v : V} {xs : List V} (x : It K M v) (r : ∀ v, v ∈ xs → It K M v) : ∀ u, u ∈ v :: xs → It K M u := fun u h => by
  rcases List.mem_cons.mp h with e | h
  · subst e
    exact x
  · exact r u h
theorem vl_all {K : PySem.W.Frag} {M M' : Hp} {xs : List V} (h : ∀ v, v ∈ xs → Vl K M v) (s : Same M M') : ∀ v, v ∈ xs → Vl K M' v := fun v m => (h v m).same s
theorem it_all {K : PySem.W.Frag} {M M' : Hp} {xs : List V} (h : ∀ v, v ∈ xs → It K M v) (s : Same M M') : ∀ v, v ∈ xs → It K M' v := fun v m => (h v m).same s
theorem cutV_fst (xs : List V) (k : Nat) : (cutV xs none (some (k : Int))).length ≤ k := by
  unfold cutV
  rw [List.length_take, List.length_drop, HT.sIx_nat]
  have : HT.sIx xs.length 0 none = 0 := rfl
  omega
theorem cutV_snd (xs : List V) (k : Nat) (h : k < xs.length) : (cutV xs (some ((k : Int) + 1)) none).length + k + 1 ≤ xs.length := by
  unfold cutV
  have e : HT.sIx xs.length 0 (some ((k : Int) + 1)) = min (k + 1) xs.length := HT.sIx_nat xs.length 0 (k + 1)
  rw [List.length_take, List.length_drop, e]
  omega
theorem noPart {K : PySem.W.Frag} {x : V} {l : Option Int} {σ : L2.St} {H : Hp} {Q : VK} (h : rSlA K x l none H Q) : (fun (l : Option Int) (H2 : Hp) => tNoPart σ H2 fun u H3 => rSlA K x l u H3 Q) l H := h
theorem flat_len {n : Nat} {v : V} : (List.replicate n [v]).flatten.length = n := by
  induction n with
  | zero => rfl
  | succ n ih => rw [List.replicate_succ, List.flatten_cons, List.length_append, ih]; show 1 + n = n + 1; omega
def spNear (K : PySem.W.Frag) : Sp := fun vs H Q _ => ∃ (d c n t : Addr) (ps : List Pt) (rs : List Rl) (xs : List Int), vs = [.ref d, .ref n, .ref t] ∧ Src H d c ∧ LNet (mask d c H) n ps rs ∧ 0 < ps.length ∧ ps.length ≤ 6 ∧ (∀ p, p ∈ ps → PtD p) ∧ mask d c H t = some (.tup (xs.map V.int)) ∧ xs.length = ps.length ∧ TabI xs ∧
  ∀ (L : Addr) (vals : List V) (H' : Hp), mask d c H' L = some (.lst vals) → vals.length ≤ 100 → (∀ v, v ∈ vals → Vl K (mask d c H') v) → Src H' d c → Keep d c H H' → Q (.ref L) H'
section
variable {P : Program} {w : World} {K : PySem.W.Frag} {mg : Str → Option Value} {base : Heap} {f : Addr} {fd : FuncData}
theorem scNear : FnScope ["source", "net", "table", "k", "odd", "step", "found", "other", "number"] ["source", "net", "table"] (defScope sNear) := ⟨rfl, rfl, rfl, by decide +kernel, rfl, by decide +kernel, by decide +kernel⟩
theorem ok_near (F : Fun K "_law_near" "_law_near" sNear f fd) (T : Lw mg) (cP : Cb P w K mg base 1 "_law_pick" spPick) (cOdd : Cb P w K mg base 3 "_law_odd" (spOdd K)) : FnG P w K mg base 4 f fd ["source", "net", "table"] (spNear K) := by
  refine okG F scNear (fun vs H Q E h => ?_) (fun cdv A outer s H vs Q E hg hr h => ?_)
  · obtain ⟨d, c, n, t, ps, rs, xs, rfl, _⟩ := h
    rfl
  · obtain ⟨d, c, n, t, ps, rs, xs, rfl, S, net, p0, p6, pt, ht, lx, big, k⟩ := h
    have hu := hu_of hr
    refine ⟨_, (pss_cons (ps_par (i := 3) (j := 4) rfl scNear.nd rfl rfl (by decide) rfl rfl (pa_cons (pe_k cP hg hr (by decide) (by rfl) (pa_cons (pv 0) (pa_cons (pe_callB call_len_seq (by rfl) T.zlen (by decide +kernel) (pa_cons (pv 2) pa_nil)) pa_nil))) (pa_cons (pe_k cOdd hg hr (by decide) (by rfl) (pa_cons (pv 0) pa_nil)) pa_nil)) (by rfl))
      (pss_cons (ps_par (i := 5) (j := 6) rfl scNear.nd rfl rfl (by decide) rfl rfl (pa_cons (pe_ix ix_tup (pe_ix ix_list (pe_dget hu (pv 1) pe_str (fun _ _ => rfl)) (pv 3) (fun _ _ => rfl)) pe_int (fun _ _ => rfl)) (pa_cons (pe_lst (pa_cons (pe_callTy call_list_of (by rfl) T.zlist (by decide +kernel) (pa_cons (pv 2) pa_nil)) (pa_cons (pe_slice sl_tupA (pv 2) po_none (po_some (pe_un un_neg pe_int))) (pa_cons (pe_op op_catA (pv 2) (pe_slice sl_tupA (pv 2) po_none (po_some pe_int))) (pa_cons (pv 4) (pa_cons pe_non pa_nil)))))) pa_nil)) (by rfl))
      (pss_cons (ps_for PassesOwn.never rfl (pi_list (pe_lst (pa_cons (pe_op op_add (pe_ix ix_tup (pv 2) (pv 3) (fun _ _ => rfl)) (pv 5)) (pa_cons (pe_op op_sub (pe_ix ix_tup (pv 2) (pv 3) (fun _ _ => rfl)) (pv 5)) (pa_cons (pe_op op_add (pe_ix ix_tup (pv 2) (pv 3) (fun _ _ => rfl)) pe_int) (pa_cons (pe_op op_sub (pe_ix ix_tup (pv 2) (pv 3) (fun _ _ => rfl)) (pe_op op_mul pe_int (pv 5))) (pa_cons (pv 4) (pa_cons pe_bl (pa_cons (pe_callTy call_str_int (by rfl) T.zstr (by decide +kernel) (pa_cons (pe_ix ix_tup (pv 2) (pv 3) (fun _ _ => rfl)) pa_nil)) pa_nil))))))))) (pg_name (i := 7) scNear.nd rfl (.inl rfl))
        (pss_one (ps_expr (pe_bm PySem.F.plainAttrs_list PySem.F.slot_list_append PySem.F.type_list_append mt_append (pv 6) (pa_cons (pe_op op_catA (pe_op op_catA (pe_slice sl_tupA (pv 2) po_none (po_some (pv 3))) (pe_tup (pa_cons (pv 7) pa_nil))) (pe_slice sl_tupA (pv 2) (po_some (pe_op op_add (pv 3) pe_int)) po_none)) pa_nil)))))
      (pss_one (ps_ret (pe_op op_cat (pv 6) (pe_lst (pa_cons (pe_lc (own := [("number", 8)]) (by rfl) scNear.nd (pi_tup (pv 2)) (blkOk_by (N := ["source", "net", "table", "k", "odd", "step", "found", "other", "number"]) (sc := defScope sNear) (by decide +kernel)) (fun _ _ _ _ _ => (pg_name (i := 8) scNear.nd rfl (.inl rfl))) (fun _ _ _ _ _ => pts_nil) (fun _ _ _ _ _ => (pe_op op_add (pv 8) pe_int))) (pa_cons (pe_callTy call_tuple_of (by rfl) T.ztuple (by decide +kernel) (pa_cons (pe_op op_rep (pe_lst (pa_cons pe_int pa_nil)) (pe_callB call_len_seq (by rfl) T.zlen (by decide +kernel) (pa_cons (pv 2) pa_nil))) pa_nil)) (pa_cons (pe_disp (pps_cons pe_int (pv 2) pps_nil) (by rfl) (by rfl) (fun z => by cases z) (by decide)) (pa_cons (pe_back (pv 2)) pa_nil))))))))))), ?_⟩
    obtain ⟨PA, RA, as, bs, h1, h2, h3, h4, h5⟩ := net.ex
    refine ⟨_, rfl, _, rfl, t, _, rfl, .inr (SqT.of (mask_same _ _ ht)), d, c, _, rfl, S, by rw [List.length_map]; omega, fun kk H1 r0 r1 S1 k1 => ?_⟩
    obtain ⟨kn, rfl⟩ : ∃ kn : Nat, kk = (kn : Int) := ⟨kk.toNat, (Int.toNat_of_nonneg r0).symm⟩
    have hk : kn < xs.length := by rw [List.length_map] at r1; omega
    refine ⟨_, rfl, d, c, rfl, S1, fun ov H2 hov S2 k2 => ?_⟩
    refine ⟨_, _, rfl, ?_⟩
    have g2 := (mask_keep (k1.trans k2))
    have hkp : kn < ps.length := by omega
    have hka : kn < as.length := by rw [h4.1]; exact hkp
    have ea : (as.map V.ref)[kn]? = some (.ref as[kn]) := by rw [List.getElem?_map, List.getElem?_eq_getElem hka]; rfl
    have pa : H2 as[kn] = some (.tup [.str ps[kn].1, .int ps[kn].2.1, .int ps[kn].2.2]) := mask_same _ _ (g2 _ _ (h4.2 kn _ _ (List.getElem?_eq_getElem hka) (List.getElem?_eq_getElem hkp)))
    have pd := pt _ (List.getElem_mem hkp)
    have pd1 := pd.s1
    have pd2 := pd.s12
    refine ⟨_, rfl, n, _, rfl, get_pts (mask_same _ _ (g2 _ _ h1)), _, rfl, PA, _, _, _, rfl, rfl, SqL.of (mask_same _ _ (g2 _ _ h2)), atN ea, as[kn], _, 2, _, rfl, rfl, SqT.of pa, rfl, ?_⟩
    have ht2 := g2 _ _ ht
    have nt2 := mask_same _ _ ht2
    -- list(table)
    refine ⟨_, rfl, t, _, rfl, .inr (SqT.of nt2), fun l1 n1 => ?_⟩
    have a1 := S2.away n1
    have S3 := S2.new (o := .lst (xs.map V.int)) n1
    have g3 := mask_new (d := d) (c := c) (o := .lst (xs.map V.int)) n1
    have f1 := mask_at (d := d) (c := c) a1 (upd_same (H := H2) (a := l1) (o := .lst (xs.map V.int)))
    have k3 := (k1.trans k2).new (o := .lst (xs.map V.int)) n1
    revert S3 g3 f1 k3
    generalize upd H2 l1 (.lst (xs.map V.int)) = H3
    intro S3 g3 f1 k3
    have ht3 := g3 _ _ ht2
    have big12 : (xs.map V.int).length ≤ 6 := by rw [List.length_map]; omega
    refine ⟨_, rfl, 1, rfl, _, rfl, slA_of (mask_same _ _ ht3) fun b1 H4 x4 hb1 => ?_⟩
    obtain ⟨S4, e4⟩ := x4 d c S3
    have g4 := mask_keep e4
    have mb1 := mask_at (S4.nd hb1) hb1
    have ht4 := g4 _ _ ht3
    refine ⟨_, rfl, _, rfl, _, rfl, slA_of (mask_same _ _ ht4) fun b2 H5 x5 hb2 => ?_⟩
    obtain ⟨S5, e5⟩ := x5 d c S4
    have g5 := mask_keep e5
    have ht5 := g5 _ _ ht4
    have cl : ∀ lo hi, (cutV (xs.map V.int) lo hi).length ≤ 6 := fun lo hi => Nat.le_trans (cutV_length _ _ _) big12
    refine catA_of (mask_same _ _ ht5) hb2 (by have := cl none (some 1); omega) fun b3 H6 x6 hb3 => ?_
    obtain ⟨S6, e6⟩ := x6 d c S5
    have g6 := mask_keep e6
    have mb3 := mask_at (S6.nd hb3) hb3
    have ht6 := g6 _ _ ht5
    refine ⟨_, rfl, (by show 5 ≤ sizeLine; decide), fun F0 nF => ⟨_, _, rfl, ?_⟩⟩
    have aF := S6.away nF
    have k6 := ((k3.trans e4).trans e5).trans e6
    have nF0 : H F0 = none := k6.free aF nF
    have S7 := S6.new (o := .lst [.ref l1, .ref b1, .ref b3, ov, .non]) nF
    have g7 := mask_new (d := d) (c := c) (o := .lst [.ref l1, .ref b1, .ref b3, ov, .non]) nF
    have mF7 := mask_at (d := d) (c := c) aF (upd_same (H := H6) (a := F0) (o := .lst [.ref l1, .ref b1, .ref b3, ov, .non]))
    have k7 := k6.new (o := .lst [.ref l1, .ref b1, .ref b3, ov, .non]) nF
    have nF6 : mask d c H6 F0 = none := by
      unfold mask
      rw [if_neg (fun z => z.elim aF.1 aF.2)]
      exact nF
    have i7 : Same (mask d c H6) (hide F0 (mask d c (upd H6 F0 (.lst [.ref l1, .ref b1, .ref b3, ov, .non])))) := hide_in nF6 g7
    have itT : ∀ (M : Hp) (lo hi : Option Int), ∀ x, x ∈ cutV (xs.map V.int) lo hi → It K M x := fun M lo hi => it_cut (its_ints big)
    have vals0 : ∀ v, v ∈ [V.ref l1, .ref b1, .ref b3, ov, .non] → Vl K (hide F0 (mask d c (upd H6 F0 (.lst [.ref l1, .ref b1, .ref b3, ov, .non])))) v :=
      vlC (((vl_lst f1 (its_ints big) (by omega)).same ((g4.trans g5).trans g6)).same i7)
      (vlC (((vl_tup mb1 (itT _ _ _) (by have := cl none (some (-1)); omega)).same (g5.trans g6)).same i7)
      (vlC ((vl_tup mb3 (its_app (its_ints big) (itT _ _ _)) (by rw [List.length_append]; have := cl none (some 1); omega)).same i7)
      (vlC ((hov.vl.same (((g3.trans g4).trans g5).trans g6)).same i7)
      (vlC ⟨none, .none, jd_flat (fun _ => .base .non) (by decide +kernel) (by decide +kernel), .non, ⟨by decide +kernel, by decide +kernel, by decide +kernel⟩⟩ vlN))))
    have ht7 := i7 _ _ ht6
    have ov7 := (hov.it.same (((g3.trans g4).trans g5).trans g6)).same i7
    revert S7 mF7 k7 vals0 ht7 ov7
    generalize upd H6 F0 (.lst [.ref l1, .ref b1, .ref b3, ov, .non]) = H7
    intro S7 mF7 k7 vals0 ht7 ov7
    have hid : ∀ {H' : Hp} {b : Addr} {o : HO}, hide F0 (mask d c H') b = some o → H' b = some o := fun z => mask_same _ _ (hide_same _ _ z)
    have ek : (xs.map V.int)[kn]? = some (.int xs[kn]) := by rw [List.getElem?_map, List.getElem?_eq_getElem hk]; rfl
    have bk := big _ (List.getElem_mem hk)
    have bk2 : (xs[kn] : Int).natAbs < 10 ^ 40 := Nat.lt_trans bk (by decide)
    -- the seven others
    refine ⟨_, rfl, _, rfl, t, _, _, _, rfl, rfl, SqT.of (hid ht7), atN ek, _, rfl, _, _, rfl, rfl, ?_⟩
    refine ⟨_, rfl, _, rfl, t, _, _, _, rfl, rfl, SqT.of (hid ht7), atN ek, _, rfl, _, _, rfl, rfl, ?_⟩
    refine ⟨_, rfl, _, rfl, t, _, _, _, rfl, rfl, SqT.of (hid ht7), atN ek, _, _, rfl, rfl, ?_⟩
    refine ⟨_, rfl, _, rfl, t, _, _, _, rfl, rfl, SqT.of (hid ht7), atN ek, _, rfl, _, _, rfl, rfl, .inl ⟨by decide, by decide⟩, _, _, rfl, rfl, ?_⟩
    refine ⟨_, rfl, _, rfl, _, rfl, t, _, _, _, rfl, rfl, SqT.of (hid ht7), atN ek, _, rfl, log_small bk2, (by show 7 ≤ sizeLine; decide), fun O nO => ?_⟩
    have O_F : O ≠ F0 := (ne_of_none (mask_same _ _ mF7) nO).symm
    have aO := S7.away nO
    have it8 : ∀ y, y ∈ [V.int (xs[kn] + ps[kn].2.2), .int (xs[kn] - ps[kn].2.2), .int (xs[kn] + 1), .int (xs[kn] - 7 * ps[kn].2.2), ov, .bl true, .str (Str.ofString (toString xs[kn]))] → It K (hide F0 (mask d c H7)) y :=
      itC (it_int (by omega)) (itC (it_int (by omega)) (itC (it_int (by omega)) (itC (it_int (by omega)) (itC ov7 (itC ⟨True.intro, _, .bl true, ⟨by decide +kernel, by decide +kernel, by decide +kernel⟩⟩ (itC ⟨True.intro, _, .str _, sm_text bk2⟩ itN))))))
    have S8 := S7.new (o := .lst [V.int (xs[kn] + ps[kn].2.2), .int (xs[kn] - ps[kn].2.2), .int (xs[kn] + 1), .int (xs[kn] - 7 * ps[kn].2.2), ov, .bl true, .str (Str.ofString (toString xs[kn]))]) nO
    have g8 := mask_new (d := d) (c := c) (o := .lst [V.int (xs[kn] + ps[kn].2.2), .int (xs[kn] - ps[kn].2.2), .int (xs[kn] + 1), .int (xs[kn] - 7 * ps[kn].2.2), ov, .bl true, .str (Str.ofString (toString xs[kn]))]) nO
    have hO8 := upd_same (H := H7) (a := O) (o := .lst [V.int (xs[kn] + ps[kn].2.2), .int (xs[kn] - ps[kn].2.2), .int (xs[kn] + 1), .int (xs[kn] - 7 * ps[kn].2.2), ov, .bl true, .str (Str.ofString (toString xs[kn]))])
    have mO8 : hide F0 (mask d c (upd H7 O (.lst [V.int (xs[kn] + ps[kn].2.2), .int (xs[kn] - ps[kn].2.2), .int (xs[kn] + 1), .int (xs[kn] - 7 * ps[kn].2.2), ov, .bl true, .str (Str.ofString (toString xs[kn]))]))) O = _ := hide_at O_F (mask_at aO hO8)
    have k8 := k7.new (o := .lst [V.int (xs[kn] + ps[kn].2.2), .int (xs[kn] - ps[kn].2.2), .int (xs[kn] + 1), .int (xs[kn] - 7 * ps[kn].2.2), ov, .bl true, .str (Str.ofString (toString xs[kn]))]) nO
    refine ⟨O, rfl, ⟨_, SqL.of hO8⟩, ?_⟩
    revert S8 g8 hO8 mO8 k8 it8
    generalize upd H7 O (.lst [V.int (xs[kn] + ps[kn].2.2), .int (xs[kn] - ps[kn].2.2), .int (xs[kn] + 1), .int (xs[kn] - 7 * ps[kn].2.2), ov, .bl true, .str (Str.ofString (toString xs[kn]))]) = H8
    have len7 : [V.int (xs[kn] + ps[kn].2.2), .int (xs[kn] - ps[kn].2.2), .int (xs[kn] + 1), .int (xs[kn] - 7 * ps[kn].2.2), ov, .bl true, .str (Str.ofString (toString xs[kn]))].length = 7 := rfl
    revert len7
    generalize [V.int (xs[kn] + ps[kn].2.2), .int (xs[kn] - ps[kn].2.2), .int (xs[kn] + 1), .int (xs[kn] - 7 * ps[kn].2.2), ov, .bl true, .str (Str.ofString (toString xs[kn]))] = ys
    intro len7 it8 S8 g8 hO8 mO8 k8
    have h78 : Same (hide F0 (mask d c H7)) (hide F0 (mask d c H8)) := hide_up (Sbut.of g8)
    have ht8 := h78 _ _ ht7
    have vals8 := vl_all vals0 h78
    have it8 := it_all it8 h78
    have mF8 := g8 _ _ mF7
    refine for_it walk_list (fun i σ H9 => ∃ (v7 v8 : Option V) (vals : List V), σ = [some (.ref d), some (.ref n), some (.ref t), some (.int (kn : Nat)), some ov, some (.int ps[kn].2.2), some (.ref F0), v7, v8] ∧
        Same (hide F0 (mask d c H8)) (hide F0 (mask d c H9)) ∧ Src H9 d c ∧ Keep d c H H9 ∧ mask d c H9 F0 = some (.lst vals) ∧ vals.length = 5 + i ∧ ∀ v, v ∈ vals → Vl K (hide F0 (mask d c H9)) v)
      ⟨_, _, _, rfl, Same.refl _, S8, k8, mF8, rfl, vals8⟩ (fun i σ H9 _ ⟨_, _, _, _, z, _⟩ => SqL.of (hid (z _ _ mO8))) ?_ ?_
    · rintro i y σ H9 H10 hi ⟨v7, v8, vals, rfl, q9, S9, k9, mF9, lv, okv⟩ ⟨rfl, hy⟩
      have hF9 := mask_same _ _ mF9
      have ht9 := q9 _ _ ht8
      have iy : It K (hide F0 (mask d c H10)) y := (it8 y (List.mem_of_getElem? hy)).same q9
      refine ⟨_, rfl, .inl ⟨rfl, _, SqL.of hF9⟩, _, rfl, _, rfl, _, rfl, slA_of (hid ht9) fun c1 H11 x11 hc1 => ?_⟩
      obtain ⟨S11, e11⟩ := x11 d c S9
      have q11 := hide_up (p := F0) (Sbut.of (mask_keep e11))
      refine ⟨_, rfl, (by show 1 ≤ sizeLine; decide), fun tp ntp => ?_⟩
      have S12 := S11.new (o := .tup [y]) ntp
      have e12 := e11.new (o := .tup [y]) ntp
      have hc12 : (upd H11 tp (.tup [y])) c1 = some (.tup (cutV (xs.map V.int) none (some (kn : Int)))) := by rw [upd_ne (ne_of_none hc1 ntp)]; exact hc1
      refine catA_of hc12 upd_same (by have := cl none (some (kn : Int)); show _ + 1 ≤ 1000; omega) fun c2 H13 x13 hc2 => ?_
      obtain ⟨S13, e13⟩ := x13 d c S12
      have e13 := e12.trans e13
      have ht13 := hide_up (p := F0) (Sbut.of (mask_keep e13)) _ _ ht9
      refine ⟨_, rfl, _, rfl, _, _, rfl, rfl, _, rfl, ?_⟩
      refine noPart ?_
      refine slA_of (hid ht13) fun c3 H14 x14 hc3 => ?_
      obtain ⟨S14, e14⟩ := x14 d c S13
      have hc14 : H14 c2 = some (.tup (cutV (xs.map V.int) none (some (kn : Int)) ++ [y])) := (e14 c2 _ hc2 (S13.nd hc2).1 (S13.nd hc2).2)
      have e14 := e13.trans e14
      refine catA_of hc14 hc3 (by have := cl none (some (kn : Int)); have := cl (some ((kn : Int) + 1)) none; rw [List.length_append]; show _ + 1 + _ ≤ 1000; omega) fun c4 H15 x15 hc4 => ?_
      obtain ⟨S15, e15⟩ := x15 d c S14
      have e15 := e14.trans e15
      have q15 : Same (hide F0 (mask d c H10)) (hide F0 (mask d c H15)) := hide_up (Sbut.of (mask_keep e15))
      have mF15 := mask_keep e15 _ _ mF9
      have hF15 := mask_same _ _ mF15
      have c4F : c4 ≠ F0 := ne_of hc4 hF15 (by intro z; cases z)
      have mc4 := hide_at c4F (mask_at (S15.nd hc4) hc4)
      have vl4 : Vl K (hide F0 (mask d c H15)) (.ref c4) := vl_tup mc4 (its_app (its_app (itT _ _ _) (itC (iy.same q15) itN)) (itT _ _ _)) (by
        have := cl none (some (kn : Int)); have := cl (some ((kn : Int) + 1)) none
        rw [List.length_append, List.length_append]
        have cut1 := cutV_fst (xs.map V.int) kn
        have cut2 := cutV_snd (xs.map V.int) kn (by rw [List.length_map]; exact hk)
        show _ + 1 + _ ≤ 12
        omega)
      refine ⟨F0, vals, _, rfl, rfl, hF15, small1000 (by omega), ?_⟩
      have qF : Same (hide F0 (mask d c H15)) (hide F0 (mask d c (upd H15 F0 (.lst (vals ++ [.ref c4]))))) := hide_up mask_but
      refine ⟨_, _, vals ++ [.ref c4], rfl, (q9.trans q15).trans qF, S15.put aF, (k9.trans e15).put nF0, mask_at aF upd_same, by rw [List.length_append, lv]; rfl, fun v hv => ?_⟩
      rcases List.mem_append.mp hv with h | h
      · exact ((okv v h).same q15).same qF
      · cases List.mem_singleton.mp h
        exact vl4.same qF
    · rintro σ H9 ⟨v7, v8, vals, rfl, q9, S9, k9, mF9, lv, okv⟩
      have mt9 := hide_same _ _ (q9 _ _ ht8)
      have ok9 : ∀ v, v ∈ vals → Vl K (mask d c H9) v := fun v m => (okv v m).same hide_same
      refine ⟨_, rfl, _, rfl, t, rfl, ⟨_, SqT.of (mask_same _ _ mt9)⟩, fun D nD => ?_⟩
      have aD := S9.away nD
      refine lc_it walk_tup (fun i H10 => Keep d c H9 H10 ∧ Src H10 d c ∧ mask d c H10 D = some (.lst (((xs.map fun x => x + 3).take i).map V.int))) ⟨Keep.refl.new nD, S9.new nD, mask_at aD upd_same⟩ (fun i H10 _ z => SqT.of (mask_same _ _ (mask_keep z.1 _ _ mt9))) ?_ ?_
      · rintro i y H10 H11 hi ⟨e10, S10, mD⟩ ⟨rfl, hy⟩
        obtain ⟨z, hz, rfl⟩ := int_at hy
        obtain ⟨hzi, rfl⟩ := List.getElem?_eq_some_iff.mp hz
        refine ⟨rfl, _, rfl, _, _, rfl, rfl, _, mask_same _ _ mD, small1000 (by rw [List.length_map, List.length_take, List.length_map]; omega), e10.put nD, S10.put aD, mask_at aD ?_⟩
        rw [upd_same, List.take_succ, List.getElem?_map, List.getElem?_eq_getElem hzi, List.map_append]
        rfl
      · rintro H10 ⟨e10, S10, mD⟩
        rw [List.take_of_length_le (by rw [List.length_map, List.length_map]; exact Nat.le_refl _)] at mD
        have g10 := mask_keep e10
        have v1 : Vl K (mask d c H10) (.ref D) := vl_lst mD (fun x m => by
          obtain ⟨i, hi, rfl⟩ := List.mem_map.mp m
          obtain ⟨j, hj, rfl⟩ := List.mem_map.mp hi
          have := big j hj
          exact it_int (by omega)) (by rw [List.length_map, List.length_map]; omega)
        refine ⟨(by show 1 ≤ sizeLine; decide), fun z nz => ?_⟩
        have S11 := S10.new (o := .lst [V.int 0]) nz
        have e11 := e10.new (o := .lst [V.int 0]) nz
        have mt11 := mask_keep e11 _ _ mt9
        refine ⟨_, rfl, t, _, rfl, .inr (SqT.of (mask_same _ _ mt11)), z, _, _, rfl, rfl, upd_same, by omega, by omega, by show 1 * _ ≤ sizeLine; exact Nat.le_trans (by omega : _ ≤ 6) (by decide), fun p np => ?_⟩
        have S12 := S11.new (o := .lst (List.replicate ((xs.map V.int).length : Int).toNat [V.int 0]).flatten) np
        have e12 := e11.new (o := .lst (List.replicate ((xs.map V.int).length : Int).toNat [V.int 0]).flatten) np
        refine ⟨p, _, rfl, .inl ⟨SqL.of upd_same, fun t2 nt2 => ?_⟩⟩
        have S13 := S12.new (o := .tup (List.replicate ((xs.map V.int).length : Int).toNat [V.int 0]).flatten) nt2
        have e13 := e12.new (o := .tup (List.replicate ((xs.map V.int).length : Int).toNat [V.int 0]).flatten) nt2
        have m13 := mask_at (d := d) (c := c) (S12.away nt2) (upd_same (H := upd (upd H10 z (.lst [V.int 0])) p (.lst (List.replicate ((xs.map V.int).length : Int).toNat [V.int 0]).flatten)) (a := t2) (o := .tup (List.replicate ((xs.map V.int).length : Int).toNat [V.int 0]).flatten))
        have g13 : Same (mask d c H10) _ := ((mask_new (d := d) (c := c) nz).trans (mask_new np)).trans (mask_new (o := .tup (List.replicate ((xs.map V.int).length : Int).toNat [V.int 0]).flatten) nt2)
        revert S13 e13 m13 g13
        generalize upd (upd (upd H10 z (.lst [V.int 0])) p (.lst (List.replicate ((xs.map V.int).length : Int).toNat [V.int 0]).flatten)) t2 (.tup (List.replicate ((xs.map V.int).length : Int).toNat [V.int 0]).flatten) = H13
        intro S13 e13 m13 g13
        have v2 : Vl K (mask d c H13) (.ref t2) := vl_tup m13 (fun x m => by
          obtain ⟨l, hl, hx⟩ := List.mem_flatten.mp m
          rw [(List.mem_replicate.mp hl).2] at hx
          cases List.mem_singleton.mp hx
          exact it_int (by decide)) (by
            rw [flat_len]
            omega)
        intro d0 nd0
        have mt13 := mask_keep e13 _ _ mt9
        refine ⟨_, rfl, upd_same, [(Sum.inl 0, .ref t)], rfl, (by show 1 ≤ 15; decide), ?_⟩
        rw [upd_upd, merge1]
        have S14 := S13.new (o := .dK [((Sum.inl 0 : Key), V.ref t)]) nd0
        have e14 := e13.new (o := .dK [((Sum.inl 0 : Key), V.ref t)]) nd0
        have m14 := mask_at (d := d) (c := c) (S13.away nd0) (upd_same (H := H13) (a := d0) (o := .dK [((Sum.inl 0 : Key), V.ref t)]))
        have g14 := mask_new (d := d) (c := c) (o := .dK [((Sum.inl 0 : Key), V.ref t)]) nd0
        revert S14 e14 m14 g14
        generalize upd H13 d0 (.dK [((Sum.inl 0 : Key), V.ref t)]) = H14
        intro S14 e14 m14 g14
        have mt14 := mask_keep e14 _ _ mt9
        have v3 : Vl K (mask d c H14) (.ref d0) := by
          obtain ⟨ds, hs, ss⟩ := its_all (xs.map V.int) (its_ints (K := K) (M := mask d c H14) big)
          exact ⟨none, _, .no (fun _ z => .base (.dK (z _ _ m14))) (kitLT0 (by decide +kernel) (by decide +kernel)), .dic (ds := [.tuple ds]) m14 (.cons (.tup (SqT.of mt14) hs) .nil), nice_dic ss (by rw [← hs.length]; omega)⟩
        refine ⟨_, rfl, t, _, rfl, SqT.of (mask_same _ _ mt14), fun rv nrv => ?_⟩
        have S15 := S14.new (o := .tup (xs.map V.int).reverse) nrv
        have e15 := e14.new (o := .tup (xs.map V.int).reverse) nrv
        have m15 := mask_at (d := d) (c := c) (S14.away nrv) (upd_same (H := H14) (a := rv) (o := .tup (xs.map V.int).reverse))
        have g15 := mask_new (d := d) (c := c) (o := .tup (xs.map V.int).reverse) nrv
        have v4 : Vl K (mask d c (upd H14 rv (.tup (xs.map V.int).reverse))) (.ref rv) := vl_tup m15 (fun x m => its_ints big x (List.mem_reverse.mp m)) (by rw [List.length_reverse]; omega)
        refine ⟨(by show 4 ≤ sizeLine; decide), fun L4 nL4 => ?_⟩
        have S16 := S15.new (o := .lst [.ref D, .ref t2, .ref d0, .ref rv]) nL4
        have e16 := e15.new (o := .lst [.ref D, .ref t2, .ref d0, .ref rv]) nL4
        have g16 := mask_new (d := d) (c := c) (o := .lst [.ref D, .ref t2, .ref d0, .ref rv]) nL4
        refine ⟨F0, L4, vals, _, rfl, rfl, mask_same _ _ (mask_keep e16 _ _ mF9), upd_same, by show _ + 4 ≤ sizeLine; exact Nat.le_trans (by omega : _ ≤ 16) (by decide), fun L nL => ?_⟩
        have g17 := mask_new (d := d) (c := c) (o := .lst (vals ++ [.ref D, .ref t2, .ref d0, .ref rv])) nL
        refine k L (vals ++ [.ref D, .ref t2, .ref d0, .ref rv]) _ (mask_at (S16.away nL) upd_same) (by rw [List.length_append]; show _ + 4 ≤ 100; omega) (fun v hv => ?_) (S16.new nL) ((k9.trans e16).new nL)
        rcases List.mem_append.mp hv with h | h
        · exact (ok9 v h).same ((mask_keep e16).trans g17)
        · exact vlC (v1.same ((((g13.trans g14).trans g15).trans g16).trans g17)) (vlC (v2.same (((g14.trans g15).trans g16).trans g17)) (vlC (v3.same ((g15.trans g16).trans g17)) (vlC (v4.same (g16.trans g17)) vlN))) v h
end
end K06
/-! own rules: the greater and the less one of a pair of ints -/
namespace Rt
open PySem PySem.Spec L2
open PyProof.Rows hiding St
def rBest (K : PySem.W.Frag) (op : Int → Int → Int) : List V → Hp → VK → Prop := fun vs H Q => ∃ (b : Addr) (i j : Int), vs = [.ref b] ∧ SqT K H b [.int i, .int j] ∧ Q (.int (op i j)) H
theorem alike2 (i j : Int) : PySem.W.AlikeAll [.int i, .int j] := by
  refine ⟨fun x hx y hy => ?_, fun x hx => ?_⟩
  · rcases List.mem_cons.mp hx with rfl | hx <;> rcases List.mem_cons.mp hy with rfl | hy
    all_goals first
      | rfl
      | (cases List.mem_singleton.mp hx; first | rfl | (cases List.mem_singleton.mp hy; rfl))
      | (cases List.mem_singleton.mp hy; rfl)
  · rcases List.mem_cons.mp hx with rfl | hx
    · exact fun z => nomatch z
    · cases List.mem_singleton.mp hx
      exact fun z => nomatch z
theorem call_maxP {X : Cx} (hc : X.calm = true) (hu : X.A.units + 64 < cLine) : CallR X (.builtin "max") (rBest X.K fun i j => if j > i then j else i) := by
  intro pins s σ H vs us Q I rv want
  obtain ⟨b, i, j, rfl, hb, q⟩ := want
  obtain ⟨its, r, htp, _⟩ := I.tuple hb
  rw [Vals.ref1 rv]
  cases r with
  | cons r1 r =>
    cases r with
    | cons r2 r =>
      cases r
      obtain ⟨t1, rfl⟩ := r1
      obtain ⟨t2, rfl⟩ := r2
      refine PySem.W.max_tuple_data (I.ok.hd hc) htp (.cons (.int i t1) (.cons (.int j t2) .nil)) (alike2 i j) (by simp only [PyData.depthAll, PyData.depth]; omega) fun k v h' tk bs _ rd keep => ?_
      have e : PySem.W.maxD (.int i) [.int j] = .int (if j > i then j else i) := by
        refine (PySem.W.maxD_ints i [j]).trans (congrArg PyData.int ?_)
        show max i j = _
        split <;> omega
      rw [e] at rd
      cases rd with
      | int _ t => exact ⟨.int _, H, I.kept (t' := tk) keep, ⟨_, rfl⟩, q⟩
theorem call_minP {X : Cx} (hc : X.calm = true) (hu : X.A.units + 64 < cLine) : CallR X (.builtin "min") (rBest X.K fun i j => if j < i then j else i) := by
  intro pins s σ H vs us Q I rv want
  obtain ⟨b, i, j, rfl, hb, q⟩ := want
  obtain ⟨its, r, htp, _⟩ := I.tuple hb
  rw [Vals.ref1 rv]
  cases r with
  | cons r1 r =>
    cases r with
    | cons r2 r =>
      cases r
      obtain ⟨t1, rfl⟩ := r1
      obtain ⟨t2, rfl⟩ := r2
      refine PySem.W.min_tuple_data (I.ok.hd hc) htp (.cons (.int i t1) (.cons (.int j t2) .nil)) (alike2 i j) (by simp only [PyData.depthAll, PyData.depth]; omega) fun k v h' tk bs _ rd keep => ?_
      have e : PySem.W.minD (.int i) [.int j] = .int (if j < i then j else i) := by
        refine (PySem.W.minD_ints i [j]).trans (congrArg PyData.int ?_)
        show min i j = _
        split <;> omega
      rw [e] at rd
      cases rd with
      | int _ t => exact ⟨.int _, H, I.kept (t' := tk) keep, ⟨_, rfl⟩, q⟩
end Rt
/-! own rules: zip of two tuples whose pairs are kept under one name -/
namespace Rt
open PySem PySem.Spec L2 RZ
open PyProof.Rows hiding St
/-- a zip, whatever its first two fields tell of the pair that it handed out -/
abbrev ZAt (h : Heap) (z TI TO : Addr) (r : Value) (g : Bool) : Prop := h.get? z = some { cls := .type "zip", dict := none, data := .fields #[r, .bool g, .bool false, .ref TI, .ref TO], slots := #[] }
def Out (r : Value) : Prop := r = .none ∨ ∃ T : Nat, r = rawInt T
section
variable {prog : Program} {w : World} {A : Around} {E : Value → Shared → Prop} {s : Shared} {z TI TO i1 i2 l1 l2 : Addr} {r : Value} {g : Bool}
theorem free_or {Q : Bool → Shared → Prop} (hz : ZAt s.heap z TI TO r g) (hr : Out r) (yes : Q true s) (no : ∀ h', ZAt h' z TI TO r true → Heap.SameBut z s.heap h' → Q false { s with heap := h' }) :
    wpAny (model prog w) A (Builtin.SmallTypes.ownedTupleIsFree (.ref z)) Q E s := by
  rcases hr with rfl | ⟨T, rfl⟩
  · unfold Builtin.SmallTypes.ownedTupleIsFree
    exact wpAny_bind (wpAny_field hz rfl (x := .none) rfl (wpAny_pure yes))
  · cases hT : s.heap.get? T with
    | some o => exact wpAny_tupleHeld_zip hz hT fun h' a b => no h' a b
    | none =>
      unfold Builtin.SmallTypes.ownedTupleIsFree
      refine wpAny_bind (wpAny_field hz rfl (x := rawInt T) rfl ?_)
      show wpAny _ _ (loadIfAlive ((T : Int).toNat) >>= _) _ _ _
      rw [Int.toNat_natCast]
      refine wpAny_bind ?_
      have dead : ∀ {R : Option Obj → Shared → Prop}, R none s → wpAny (model prog w) A (loadIfAlive T) R E s := fun {R} q => by
        have q' : R (s.heap.get? T) s := by rw [hT]; exact q
        exact fun _ _ _ => q'
      refine dead ?_
      simp only [Option.isNone_none, if_true]
      exact wpAny_pure yes
/-- what stands behind an item -/
def After (D : Heap) (z TI TO i1 i2 l1 l2 : Addr) (k : Nat) (x y : Value) (h' : Heap) : Prop :=
  (∃ r g, ZAt h' z TI TO r g ∧ Out r) ∧ (∃ a b, IsPair h' TO a b) ∧ h'.IsTupleIter i1 l1 (k + 1) ∧ h'.IsTupleIter i2 l2 (k + 1) ∧ IsPair h' D.objs.size x y ∧ h'.objs.size = D.objs.size + 1 ∧
    ∀ c o, c ≠ z → c ≠ TO → c ≠ i1 → c ≠ i2 → D.get? c = some o → h'.get? c = some o
theorem zn_item {k : Nat} {xs ys : Array Value} {x y a b : Value} {Q : Value → Shared → Prop} (D : ZipApart z TI TO i1 i2 l1 l2) (hz : ZAt s.heap z TI TO r g) (hr : Out r) (pI : IsPair s.heap TI (.ref i1) (.ref i2)) (pO : IsPair s.heap TO a b)
    (u1 : s.heap.IsTupleIter i1 l1 k) (u2 : s.heap.IsTupleIter i2 l2 k) (t1 : s.heap.IsTuple l1 xs) (t2 : s.heap.IsTuple l2 ys) (ex : xs[k]? = some x) (ey : ys[k]? = some y)
    (now : ∀ h', After s.heap z TI TO i1 i2 l1 l2 k x y h' → Q (.ref s.heap.objs.size) { s with heap := h' }) : wpAny (model prog w) A (Builtin.«zip.__next__» ⟨[.ref z], []⟩) (fun fin s' => ∃ v, fin = .done (.ret v) ∧ Q v s') E s := by
  show wpAny _ _ (field (.ref z) 2 >>= _) _ _ _
  refine wpAny_bind (wpAny_field hz rfl (x := .bool false) rfl ?_); show wpAny _ _ (field (.ref z) 3 >>= _) _ _ _
  refine wpAny_bind (wpAny_field hz rfl (x := .ref TI) rfl (wpAny_bind (wpAny_seqItems pI rfl ?_)))
  show wpAny _ _ (Builtin.SmallTypes.ownedTupleIsFree (.ref z) >>= _) _ _ _
  refine wpAny_bind (free_or hz hr ?_ fun ha za sa => ?_)
  · -- the pair is free: it is laid anew out of the kept one
    simp only [if_true]
    refine wpAny_bind (wpAny_rule (wpAny_bind (wpAny_field hz rfl (x := .ref TO) rfl ?_)))
    refine wpAny_bind (wpAny_setField_rec hz (by simp) fun ha za sa => wpAny_bind ?_)
    replace za : ZAt ha z TI TO .ellipsis g := za
    simp only [List.zipIdx_cons, List.zipIdx_nil, List.forIn_cons, List.forIn_nil]
    refine wpAny_bind ?_; refine wpAny_bind (wpAny_onRaise ?_)
    show wpAny _ _ (Builtin.SmallTypes.nextOf (.ref i1) >>= _) _ _ _
    refine wpAny_bind (nextOf_tuple_item (u1.extBut sa.extBut D.i1z) (t1.extBut sa.extBut D.l1z) ex fun hb ub sb => wpAny_pure ?_)
    have pb : IsPair hb TO a b := sb.extBut _ _ D.TOi1 (sa.extBut _ _ D.TOz pO)
    refine wpAny_bind (wpAny_seqItems pb rfl (wpAny_bind (wpAny_updateSeq_pair pb fun hc pc sc => wpAny_bind (wpAny_letGo (wpAny_pure ?_)))))
    replace pc : IsPair hc TO x b := pc
    refine wpAny_bind ?_; refine wpAny_bind (wpAny_onRaise ?_)
    show wpAny _ _ (Builtin.SmallTypes.nextOf (.ref i2) >>= _) _ _ _
    have uc2 := ((u2.extBut sa.extBut D.i2z).extBut sb.extBut D.i12.symm).extBut sc.extBut D.TOi2.symm
    have tc2 := ((t2.extBut sa.extBut D.l2z).extBut sb.extBut D.l2i1).extBut sc.extBut D.l2TO
    refine wpAny_bind (nextOf_tuple_item uc2 tc2 ey fun hd ud sd => wpAny_pure ?_)
    have pd : IsPair hd TO x b := sd.extBut _ _ D.TOi2 pc
    refine wpAny_bind (wpAny_seqItems pd rfl (wpAny_bind (wpAny_updateSeq_pair pd fun he pe se => wpAny_bind (wpAny_letGo (wpAny_pure (wpAny_pure ?_))))))
    replace pe : IsPair he TO x y := pe
    refine wpAny_bind (wpAny_seqItems pe rfl (wpAny_bind (wpAny_newTuple ?_)))
    have size : he.objs.size = s.heap.objs.size := by rw [se.1, sd.1, sc.1, sb.1, sa.1]
    have ze : ZAt he z TI TO .ellipsis g := se.extBut _ _ D.TOz.symm (sd.extBut _ _ D.i2z.symm (sc.extBut _ _ D.TOz.symm (sb.extBut _ _ D.i1z.symm za)))
    have stay : ∀ c o, c ≠ z → c ≠ TO → c ≠ i1 → c ≠ i2 → s.heap.get? c = some o → he.get? c = some o := fun c o n1 n2 n3 n4 e => se.extBut _ _ n2 (sd.extBut _ _ n4 (sc.extBut _ _ n2 (sb.extBut _ _ n3 (sa.extBut _ _ n1 e))))
    have ue1 : he.IsTupleIter i1 l1 (k + 1) := ((ub.extBut sc.extBut D.TOi1.symm).extBut sd.extBut D.i12).extBut se.extBut D.TOi1.symm
    have ue2 : he.IsTupleIter i2 l2 (k + 1) := ud.extBut se.extBut D.TOi2.symm
    have zlt : z < he.objs.size := Heap.lt_size ze
    show wpAny _ _ (Builtin.SmallTypes.ownedTupleHandOut (.ref z) (.ref he.objs.size) >>= _) _ _ _
    refine wpAny_bind ?_
    unfold Builtin.SmallTypes.ownedTupleHandOut
    have zf : ZAt (he.push { cls := .type "tuple", data := .seq #[x, y] }) z TI TO .ellipsis g := Heap.get?_push_of_some _ ze
    refine wpAny_bind (wpAny_setField_rec zf (by simp) fun hf zg sf => ?_)
    replace zg : ZAt hf z TI TO (rawInt he.objs.size) g := zg
    refine wpAny_setField_rec zg (by simp) fun hg zh sg => wpAny_pure ⟨_, rfl, ?_⟩
    replace zh : ZAt hg z TI TO (rawInt he.objs.size) false := zh
    have up : ∀ c o, c ≠ z → he.get? c = some o → hg.get? c = some o := fun c o n e => sg.extBut _ _ n (sf.extBut _ _ n (Heap.get?_push_of_some _ e))
    have pn : IsPair hg he.objs.size x y := sg.extBut _ _ (Nat.ne_of_gt zlt) (sf.extBut _ _ (Nat.ne_of_gt zlt) (Heap.get?_push_size _ rfl))
    have sz : hg.objs.size = he.objs.size + 1 := by rw [sg.1, sf.1, Heap.size_push]
    show Q (.ref he.objs.size) _
    rw [size] at pn sz ⊢
    exact now hg ⟨⟨_, _, zh, .inr ⟨_, rfl⟩⟩, ⟨_, _, up _ _ D.TOz pe⟩, ue1.at fun o e => up _ o D.i1z e, ue2.at fun o e => up _ o D.i2z e, pn, sz, fun c o n1 n2 n3 n4 e => up c o n1 (stay c o n1 n2 n3 n4 e)⟩
  · -- the pair is still out: a new one
    simp only [Bool.false_eq_true, if_false]
    refine wpAny_bind ?_
    rw [← Array.forIn_toList]
    simp only [List.forIn_cons, List.forIn_nil]
    refine wpAny_bind ?_; refine wpAny_bind (wpAny_holding ?_)
    show wpAny _ _ (Builtin.SmallTypes.nextOf (.ref i1) >>= _) _ _ _
    refine wpAny_bind (nextOf_tuple_item (s := { s with heap := ha }) (u1.extBut sa.extBut D.i1z) (t1.extBut sa.extBut D.l1z) ex fun hb ub sb => wpAny_pure (wpAny_pure ?_))
    refine wpAny_bind ?_; refine wpAny_bind (wpAny_holding ?_)
    show wpAny _ _ (Builtin.SmallTypes.nextOf (.ref i2) >>= _) _ _ _
    have ub2 := (u2.extBut sa.extBut D.i2z).extBut sb.extBut D.i12.symm
    have tb2 := (t2.extBut sa.extBut D.l2z).extBut sb.extBut D.l2i1
    refine wpAny_bind (nextOf_tuple_item (s := { s with heap := hb }) ub2 tb2 ey fun hc uc sc => wpAny_pure (wpAny_pure (wpAny_pure ?_)))
    show wpAny _ _ (newTuple [x, y] >>= _) _ _ _
    refine wpAny_bind (wpAny_newTuple (wpAny_pure ⟨_, rfl, ?_⟩))
    have size : hc.objs.size = s.heap.objs.size := by rw [sc.1, sb.1, sa.1]
    have zc : ZAt hc z TI TO r true := sc.extBut _ _ D.i2z.symm (sb.extBut _ _ D.i1z.symm za)
    have stay : ∀ c o, c ≠ z → c ≠ i1 → c ≠ i2 → s.heap.get? c = some o → hc.get? c = some o := fun c o n1 n2 n3 e => sc.extBut _ _ n3 (sb.extBut _ _ n2 (sa.extBut _ _ n1 e))
    have uc1 : hc.IsTupleIter i1 l1 (k + 1) := ub.extBut sc.extBut D.i12
    have pn : IsPair (hc.push { cls := .type "tuple", data := .seq #[x, y] }) hc.objs.size x y := Heap.get?_push_size _ rfl
    have sz : (hc.push { cls := .type "tuple", data := .seq #[x, y] }).objs.size = hc.objs.size + 1 := Heap.size_push ..
    show Q (.ref hc.objs.size) _
    rw [size] at pn sz ⊢
    exact now _ ⟨⟨_, _, Heap.get?_push_of_some _ zc, hr⟩, ⟨_, _, Heap.get?_push_of_some _ (stay _ _ D.TOz D.TOi1 D.TOi2 pO)⟩, uc1.at fun o e => Heap.get?_push_of_some _ e, uc.at fun o e => Heap.get?_push_of_some _ e, pn, sz,
      fun c o n1 _ n3 n4 e => Heap.get?_push_of_some _ (stay c o n1 n3 n4 e)⟩
end
end Rt
/-! own rules: zip of two tuples as what a loop or a comprehension with one name goes over -/
namespace Rt
open PySem PySem.Spec L2 RZ
open PyProof.Rows hiding St
section
variable {prog : Program} {w : World} {A : Around} {E : Value → Shared → Prop} {s : Shared} {z TI TO i1 i2 l1 l2 : Addr} {r : Value} {g : Bool}
theorem zn_end {k : Nat} {xs ys : Array Value} {a b : Value} {Q : Fin → Shared → Prop} (hh : A.handled = none) (D : ZipApart z TI TO i1 i2 l1 l2) (hz : ZAt s.heap z TI TO r g) (hr : Out r) (pI : IsPair s.heap TI (.ref i1) (.ref i2))
    (u1 : s.heap.IsTupleIter i1 l1 k) (t1 : s.heap.IsTuple l1 xs) (ex : xs[k]? = none)
    (out : ∀ h' e, (∀ c o, c ≠ z → c ≠ TO → c ≠ i1 → c ≠ i2 → s.heap.get? c = some o → h'.get? c = some o) → (∃ o, h'.get? e = some o ∧ o.cls = .type "StopIteration") → E (.ref e) { s with heap := h' }) : wpAny (model prog w) A (Builtin.«zip.__next__» ⟨[.ref z], []⟩) Q E s := by
  show wpAny _ _ (field (.ref z) 2 >>= _) _ _ _
  refine wpAny_bind (wpAny_field hz rfl (x := .bool false) rfl ?_); show wpAny _ _ (field (.ref z) 3 >>= _) _ _ _
  refine wpAny_bind (wpAny_field hz rfl (x := .ref TI) rfl (wpAny_bind (wpAny_seqItems pI rfl ?_)))
  show wpAny _ _ (Builtin.SmallTypes.ownedTupleIsFree (.ref z) >>= _) _ _ _
  refine wpAny_bind (free_or hz hr ?_ fun ha za sa => ?_)
  · simp only [if_true]
    refine wpAny_bind (wpAny_rule (wpAny_bind (wpAny_field hz rfl (x := .ref TO) rfl ?_)))
    refine wpAny_bind (wpAny_setField_rec hz (by simp) fun ha za sa => wpAny_bind ?_)
    replace za : ZAt ha z TI TO .ellipsis g := za
    simp only [List.zipIdx_cons, List.zipIdx_nil, List.forIn_cons, List.forIn_nil]
    refine wpAny_bind ?_; refine wpAny_bind (wpAny_onRaise ?_)
    show wpAny _ _ (Builtin.SmallTypes.nextOf (.ref i1) >>= _) _ _ _
    refine wpAny_bind (nextOf_tuple_end hh (u1.extBut sa.extBut D.i1z) (t1.extBut sa.extBut D.l1z) ex fun hb e sb he => ?_)
    obtain ⟨oe, e1, e2⟩ := he
    have zb : ZAt hb z TI TO .ellipsis g := sb _ _ D.i1z.symm za
    have ne : e ≠ z := fun same => by subst same; rw [zb] at e1; cases e1; simp at e2
    refine wpAny_setField_rec zb (by simp) fun hc _ sc => out hc e (fun c o n1 _ n3 _ q => ?_) ⟨oe, sc.extBut _ _ ne e1, e2⟩
    exact sc.extBut _ _ n1 (sb _ _ n3 (sa.extBut _ _ n1 q))
  · simp only [Bool.false_eq_true, if_false]
    refine wpAny_bind ?_
    rw [← Array.forIn_toList]
    simp only [List.forIn_cons, List.forIn_nil]
    refine wpAny_bind ?_; refine wpAny_bind (wpAny_holding ?_)
    show wpAny _ _ (Builtin.SmallTypes.nextOf (.ref i1) >>= _) _ _ _
    refine wpAny_bind (nextOf_tuple_end (s := { s with heap := ha }) hh (u1.extBut sa.extBut D.i1z) (t1.extBut sa.extBut D.l1z) ex fun hb e sb he => out hb e (fun c o n1 _ n3 _ q => ?_) he)
    exact sb _ _ n3 (sa.extBut _ _ n1 q)
theorem next_zn {k : Nat} {xs ys : Array Value} {x y a b : Value} {Q : Option Value → Shared → Prop} (D : ZipApart z TI TO i1 i2 l1 l2) (hz : ZAt s.heap z TI TO r g) (hr : Out r) (pI : IsPair s.heap TI (.ref i1) (.ref i2)) (pO : IsPair s.heap TO a b)
    (u1 : s.heap.IsTupleIter i1 l1 k) (u2 : s.heap.IsTupleIter i2 l2 k) (t1 : s.heap.IsTuple l1 xs) (t2 : s.heap.IsTuple l2 ys) (ex : xs[k]? = some x) (ey : ys[k]? = some y)
    (now : ∀ h', After s.heap z TI TO i1 i2 l1 l2 k x y h' → Q (some (.ref s.heap.objs.size)) { s with heap := h' }) : wpAny (model prog w) A (pyNext (.ref z)) Q E s := by
  have isZ : s.TypeIs (.ref z) "zip" := ⟨_, hz, rfl⟩
  unfold pyNext
  refine wpAny_bind (wpAny_attempt (wpAny_callSpecial?_slot (name := Str.ofString "__next__") isZ F.slot_zip_next (wpAny_call_entry F.slot_zip_next isZ F.entry_zip_next ?_ (F.args_zip_next_1 _))))
  exact zn_item D hz hr pI pO u1 u2 t1 t2 ex ey fun h' q => wpAny_pure (now h' q)
theorem stop_zn {k : Nat} {xs : Array Value} {Q : Option Value → Shared → Prop} (hh : A.handled = none) (D : ZipApart z TI TO i1 i2 l1 l2) (hz : ZAt s.heap z TI TO r g) (hr : Out r) (pI : IsPair s.heap TI (.ref i1) (.ref i2)) (u1 : s.heap.IsTupleIter i1 l1 k) (t1 : s.heap.IsTuple l1 xs) (ex : xs[k]? = none)
    (now : ∀ h', (∀ c o, c ≠ z → c ≠ TO → c ≠ i1 → c ≠ i2 → s.heap.get? c = some o → h'.get? c = some o) → Q none { s with heap := h' }) : wpAny (model prog w) A (pyNext (.ref z)) Q E s := by
  have isZ : s.TypeIs (.ref z) "zip" := ⟨_, hz, rfl⟩
  unfold pyNext
  refine wpAny_bind (wpAny_attempt (wpAny_callSpecial?_slot (name := Str.ofString "__next__") isZ F.slot_zip_next (wpAny_call_entry F.slot_zip_next isZ F.entry_zip_next ?_ (F.args_zip_next_1 _))))
  refine zn_end (xs := xs) (ys := xs) (a := .none) (b := .none) hh D hz hr pI u1 t1 ex fun h' e stay he => ?_
  obtain ⟨o, e1, e2⟩ := he
  refine wpAny_bind (wpAny_isInstance (T := "StopIteration") (b := true) ⟨o, e1, e2⟩ isSubtype_stop (wpAny_pure (now _ stay)))
theorem iter_zn {Q : Value → Shared → Prop} (hz : ZAt s.heap z TI TO r g) (now : Q (.ref z) s) : wpAny (model prog w) A (pyIter (.ref z)) Q E s := by
  have isZ : s.TypeIs (.ref z) "zip" := ⟨_, hz, rfl⟩
  refine wpAny_pyIter_slot isZ F.slot_zip_iter (wpAny_call_entry F.slot_zip_iter isZ F.entry_zip_iter ?_ (F.args_zip_iter_1 _))
  show wpAny _ _ (ret (.ref z)) _ _ s
  exact wpAny_pure ⟨_, rfl, "zip", _, isZ, F.slot_zip_next.lookup, now⟩
end
/-- two tuples of one length, their items in new pairs -/
def Itn (K : PySem.W.Frag) (a b : Addr) : It where
  go i H := ∃ (xs ys : List V) (x y : V), SqT K H a xs ∧ SqT K H b ys ∧ xs[i]? = some x ∧ ys[i]? = some y
  yld i H v H' := ∃ (T : Addr) (x y : V), v = .ref T ∧ H T = none ∧ H' = upd H T (.tup [x, y]) ∧ (∀ xs, SqT K H a xs → xs[i]? = some x) ∧ ∀ ys, SqT K H b ys → ys[i]? = some y
  stop i H := ∃ xs : List V, SqT K H a xs ∧ xs.length ≤ i
def Zn (z TI TO i1 i2 a b : Addr) (i : Nat) (h : Heap) : Prop := (∃ r g, ZAt h z TI TO r g ∧ Out r) ∧ IsPair h TI (.ref i1) (.ref i2) ∧ (∃ x y, IsPair h TO x y) ∧ h.IsTupleIter i1 a i ∧ h.IsTupleIter i2 b i
theorem five {z TI TO i1 i2 c : Addr} (h : c ∈ [z, TI, TO, i1, i2]) : c = z ∨ c = TI ∨ c = TO ∨ c = i1 ∨ c = i2 := by simpa using h
theorem turn_zn {P : Program} {w : World} {K : PySem.W.Frag} {nm : Str} {px : Pos} {a b z TI TO i1 i2 : Addr} (D : ZipApart z TI TO i1 i2 a b) : Turn P w K (.Name nm px) (Itn K a b) [z, TI, TO, i1, i2] z (Zn z TI TO i1 i2 a b) := by
  refine ⟨by simp, ?_, ?_, ?_, ?_, ?_⟩
  · rintro i h ⟨⟨r, g, hz, _⟩, hI, ⟨x, y, hO⟩, ⟨o1, e1, _, d1⟩, ⟨o2, e2, _, d2⟩⟩ c hc
    rcases five hc with rfl | rfl | rfl | rfl | rfl
    · exact ⟨_, hz, fun v q => nomatch q⟩
    · exact ⟨_, hI, fun v q => nomatch q⟩
    · exact ⟨_, hO, fun v q => nomatch q⟩
    · exact ⟨o1, e1, fun v q => by rw [d1] at q; cases q⟩
    · exact ⟨o2, e2, fun v q => by rw [d2] at q; cases q⟩
  · rintro i h h' ⟨⟨r, g, hz, hr⟩, hI, ⟨x, y, hO⟩, u1, u2⟩ k
    exact ⟨⟨r, g, k z (by simp) _ hz, hr⟩, k TI (by simp) _ hI, ⟨x, y, k TO (by simp) _ hO⟩, u1.at fun o q => k i1 (by simp) o q, u2.at fun o q => k i2 (by simp) o q⟩
  · intro X hP hw hK hc i pins s σ H E I free st hg
    subst hP hw hK
    obtain ⟨⟨r, g, hz, hr⟩, hI, ⟨x0, y0, hO⟩, u1, u2⟩ := st
    obtain ⟨xs, ys, x, y, qx, qy, hx, hy⟩ := hg
    obtain ⟨its, rv, p, _⟩ := I.tuple qx
    obtain ⟨its2, rv2, p2, _⟩ := I.tuple qy
    obtain ⟨v1, hv1, r1⟩ := rv.get hx
    obtain ⟨v2, hv2, r2⟩ := rv2.get hy
    refine next_zn D hz hr hI hO u1 u2 p p2 (x := v1) (y := v2) (by simpa using hv1) (by simpa using hv2) fun h' ⟨zz, oo, n1, n2, pn, sz, stay⟩ => ?_
    refine ⟨_, rfl, wpAny_pure ?_⟩
    have new : ObjOk X.prog X.w (upd H s.heap.objs.size (.tup [x, y])) h' s.heap.objs.size (.tup [x, y]) := ⟨by show 2 ≤ sizeLine; decide, [v1, v2], .cons r1 (.cons r2 .nil), ⟨_, pn, rfl, _, rfl⟩⟩
    have I1 : Inv X pins σ (upd H s.heap.objs.size (.tup [x, y])) { s with heap := h' } :=
      I.turnedNew (t' := s.toks) (ch := [z, TI, TO, i1, i2]) (fun c o out q => stay c o (fun e => out (by simp [e])) (fun e => out (by simp [e])) (fun e => out (by simp [e])) (fun e => out (by simp [e])) q) free (Nat.le_refl _) new
    have hI' : IsPair h' TI (.ref i1) (.ref i2) := stay _ _ D.TIz D.TITO D.TIi1 D.TIi2 hI
    refine ⟨.ref s.heap.objs.size, _, I1, rfl, ⟨_, x, y, rfl, I.hok.fresh (Nat.le_refl _), rfl, fun l hl => by rw [I.tuple_inj hl qx]; exact hx, fun l hl => by rw [I.tuple_inj hl qy]; exact hy⟩, ⟨zz, hI', oo, n1, n2⟩, fun c hcm => ?_⟩
    have lt : c < s.heap.objs.size := by
      rcases five hcm with rfl | rfl | rfl | rfl | rfl
      · exact Heap.lt_size hz
      · exact Heap.lt_size hI
      · exact Heap.lt_size hO
      · obtain ⟨_, e, _⟩ := u1
        exact Heap.lt_size e
      · obtain ⟨_, e, _⟩ := u2
        exact Heap.lt_size e
    rw [upd_ne (Nat.ne_of_lt lt)]
    exact (free c hcm).1
  · intro X hP hw hK hc i pins s σ H E I free st hg
    subst hP hw hK
    obtain ⟨⟨r, g, hz, hr⟩, hI, ⟨x0, y0, hO⟩, u1, u2⟩ := st
    obtain ⟨xs, qx, le⟩ := hg
    obtain ⟨its, rv, p, _⟩ := I.tuple qx
    have same := rv.length
    refine stop_zn (I.ok.hd hc) D hz hr hI u1 p (by simp; omega) fun h' stay => ⟨rfl, I.turnedL (t' := s.toks) (ch := [z, TI, TO, i1, i2]) (fun c o out q => ?_) free⟩
    exact stay c o (fun e => out (by simp [e])) (fun e => out (by simp [e])) (fun e => out (by simp [e])) (fun e => out (by simp [e])) q
  · rintro A i s Q E ⟨⟨r, g, hz, _⟩, _⟩ h
    exact iter_zn hz h
def iZipN (K : PySem.W.Frag) (ta : TA) : TI := fun σ H R => ta σ H fun vs H1 => ∃ (a b : Addr) (xs ys : List V), vs = [.ref a, .ref b] ∧ SqT K H1 a xs ∧ SqT K H1 b ys ∧ R (Itn K a b) H1
theorem pi_zipN {X : Cx} {e e2 : Expr} {ta : TA} {p pos px : Pos} {nm : Str} (hg : Gl X "zip") (hm : X.mg "zip" = none) (ha : PA X [e, e2] ta) (hs : starEach [e, e2] X.env = (false, eval e X.env) :: starEach [e2] X.env := by rfl)
    (hpl : (backTo pos (starEach [e2] X.env)).any (·.1) = false := by rfl) : PI X (.Name nm px) (.Call (.Name "zip" p) [e, e2] [] pos) (iZipN X.K ta) := by
  constructor
  intro pins s σ H R I want
  refine Call_ (ld_blt I hg hm PyProof.Rows.boot_zip (PyProof.Rows.callWith_type1 (thn (ha.run pos pins s σ H _ I want) ?_) hs hpl))
  rintro us s1 ⟨vs, H1, J, rv, a, b, xs, ys, rfl, qx, qy, now⟩
  obtain ⟨u1, u2, rfl, r1, r2⟩ := vals2 rv
  cases r1
  cases r2
  obtain ⟨its, rx, p1, _⟩ := J.tuple qx
  obtain ⟨its2, ry, p2, _⟩ := J.tuple qy
  obtain ⟨o1, ho1, _⟩ := id p1
  obtain ⟨o2, ho2, _⟩ := id p2
  refine call_zipT (show s1.heap.IsTuple a its.toArray from p1) (show s1.heap.IsTuple b its2.toArray from p2) fun h' hz hI hO v1 v2 size keep => ?_
  have hz' : ZAt h' (s1.heap.objs.size + 4) (s1.heap.objs.size + 2) (s1.heap.objs.size + 3) .none false := hz
  refine iter_zn hz' ?_
  have J2 : Inv X pins σ H1 { s1 with heap := h' } := J.kept (t' := s1.toks) keep
  refine ⟨s1.heap.objs.size + 4, [s1.heap.objs.size + 4, s1.heap.objs.size + 2, s1.heap.objs.size + 3, s1.heap.objs.size, s1.heap.objs.size + 1], _, _, H1, rfl, J2, turn_zn (PySem.W.ktu_apart s1.heap.objs.size a b (Heap.lt_size ho1) (Heap.lt_size ho2)), ⟨⟨_, _, hz', .inl rfl⟩, hI, ⟨_, _, hO⟩, v1, v2⟩, fun c hc => ?_, now⟩
  have le : s1.heap.objs.size ≤ c := by
    rcases five hc with rfl | rfl | rfl | rfl | rfl <;> omega
  exact J.fpOk le (J.hok.fresh le)
theorem walk_zn {K : PySem.W.Frag} {a b : Addr} {xs ys : List V} (same : xs.length = ys.length) : Walk (Itn K a b) xs.length (fun H => SqT K H a xs ∧ SqT K H b ys) (YPair (fun i => xs[i]?) (fun i => ys[i]?)) := by
  refine ⟨fun i H lt ⟨h1, h2⟩ => ⟨xs, ys, xs[i], ys[i]'(by omega), h1, h2, List.getElem?_eq_getElem lt, List.getElem?_eq_getElem (by omega)⟩, fun H ⟨h1, _⟩ => ⟨xs, h1, Nat.le_refl _⟩, ?_⟩
  rintro i H v H' lt ⟨h1, h2⟩ ⟨T, x, y, rfl, nT, rfl, q1, q2⟩
  exact ⟨T, x, y, rfl, nT, rfl, q1 xs h1, q2 ys h2⟩
end Rt
namespace Rt
open PySem PySem.Spec L2
open PyProof.Rows hiding St
theorem call_maxK {X : Cx} {K : PySem.W.Frag} (hK : X.K = K) (hc : X.calm = true) (hu : X.A.units + 64 < cLine) : CallR X (.builtin "max") (rBest K fun i j => if j > i then j else i) := by
  subst hK
  exact call_maxP hc hu
theorem call_minK {X : Cx} {K : PySem.W.Frag} (hK : X.K = K) (hc : X.calm = true) (hu : X.A.units + 64 < cLine) : CallR X (.builtin "min") (rBest K fun i j => if j < i then j else i) := by
  subst hK
  exact call_minP hc hu
end Rt
namespace K06
open PySem PySem.Spec L2 Rt
open PyProof.Rows hiding St
/-! ### timetables of timetables -/
theorem row_zip {ps : List Pt} {xs ys : List Int} {r : Rl} {a b e f : Int} (op : Int → Int → Int) (nd : (namesOf ps).Nodup) (h : rowAt ps (xs.map V.int) r a b) (g : rowAt ps (ys.map V.int) r e f) : rowAt ps ((List.zipWith op xs ys).map V.int) r (op a e) (op b f) := by
  obtain ⟨i, j, h1, h2, h3, h4⟩ := h
  obtain ⟨k, l, g1, g2, g3, g4⟩ := g
  cases name_uniq nd h1 g1
  cases name_uniq nd h2 g2
  have at_ : ∀ (m : Nat) (u v : Int), (xs.map V.int)[m]? = some (.int u) → (ys.map V.int)[m]? = some (.int v) → ((List.zipWith op xs ys).map V.int)[m]? = some (.int (op u v)) := fun m u v q1 q2 => by
    have e1 := int_get q1
    have e2 := int_get q2
    rw [List.getElem?_map, List.getElem?_zipWith, e1, e2]
    rfl
  exact ⟨i, j, h1, h2, at_ i a e h3 g3, at_ j b f h4 g4⟩
theorem fine_zip {ps : List Pt} {rs : List Rl} {xs ys : List Int} (op : Int → Int → Int) (pick : ∀ i j, op i j = i ∨ op i j = j) (mono : ∀ a b c d l : Int, a + l ≤ b → c + l ≤ d → op a c + l ≤ op b d) (nd : (namesOf ps).Nodup) (h : Tab ps rs xs) (g : Tab ps rs ys) :
    Tab ps rs (List.zipWith op xs ys) := by
  refine ⟨by rw [List.length_zipWith, h.len, g.len, Nat.min_self], fun j hj => ?_, fun j hj => ?_, fun x hx => ?_, fun x hx => ?_⟩
  · obtain ⟨p, x, h1, h2, h3⟩ := h.on j hj
    obtain ⟨q, y, g1, g2, g3⟩ := g.on j hj
    cases h1.symm.trans g1
    obtain ⟨u, rfl⟩ := onB_int h3
    obtain ⟨v, rfl⟩ := onB_int g3
    refine ⟨p, .int (op u v), h1, ?_, ?_⟩
    · rw [List.getElem?_map, List.getElem?_zipWith, int_get h2, int_get g2]
      rfl
    · rcases pick u v with e | e
      · rw [e]; exact h3
      · rw [e]; exact g3
  · obtain ⟨r, a, b, h1, h2, h3⟩ := h.keep j hj
    obtain ⟨q, e, f, g1, g2, g3⟩ := g.keep j hj
    cases h1.symm.trans g1
    exact ⟨r, _, _, h1, row_zip op nd h2 g2, mono _ _ _ _ _ h3 g3⟩
  all_goals
    obtain ⟨i, hi, rfl⟩ := List.getElem_of_mem hx
    rw [List.getElem_zipWith]
    have l1 : i < xs.length := by rw [List.length_zipWith] at hi; omega
    have l2 : i < ys.length := by rw [List.length_zipWith] at hi; omega
    rcases pick xs[i] ys[i] with e | e <;> rw [e]
    all_goals first
      | exact h.lo _ (List.getElem_mem l1)
      | exact g.lo _ (List.getElem_mem l2)
      | exact h.hi _ (List.getElem_mem l1)
      | exact g.hi _ (List.getElem_mem l2)
theorem mx_pick (i j : Int) : mx i j = i ∨ mx i j = j := by unfold mx; split <;> simp
theorem mn_pick (i j : Int) : mn i j = i ∨ mn i j = j := by unfold mn; split <;> simp
theorem mx_mono (a b c d l : Int) (h : a + l ≤ b) (g : c + l ≤ d) : mx a c + l ≤ mx b d := by unfold mx; split <;> split <;> omega
theorem mn_mono (a b c d l : Int) (h : a + l ≤ b) (g : c + l ≤ d) : mn a c + l ≤ mn b d := by unfold mn; split <;> split <;> omega
theorem mn_comm (i j : Int) : mn i j = mn j i := by unfold mn; split <;> split <;> omega
theorem zip_mn (xs ys : List Int) : List.zipWith mn xs ys = List.zipWith mn ys xs := by
  rw [List.zipWith_comm]
  congr 1
  funext a b
  exact mn_comm b a
/-- what a shifted one keeps -/
theorem fine_shift {ps : List Pt} {rs : List Rl} {xs : List Int} {t : Int} (h : Tab ps rs xs) (dv : ∀ p, p ∈ ps → p.2.2 ∣ t) :
    (xs.map (· + t)).length = ps.length ∧ (∀ j, j < ps.length → onAt ps ((xs.map (· + t)).map V.int) j) ∧ ∀ j, j < rs.length → keepsAt ps rs ((xs.map (· + t)).map V.int) j := by
  have at_ : ∀ (m : Nat) (u : Int), (xs.map V.int)[m]? = some (.int u) → ((xs.map (· + t)).map V.int)[m]? = some (.int (u + t)) := fun m u q => by
    rw [List.getElem?_map, List.getElem?_map, int_get q]
    rfl
  refine ⟨by rw [List.length_map, h.len], fun j hj => ?_, fun j hj => ?_⟩
  · obtain ⟨p, x, h1, h2, h3⟩ := h.on j hj
    obtain ⟨u, rfl⟩ := onB_int h3
    refine ⟨p, _, h1, at_ _ _ h2, ?_⟩
    obtain ⟨q, hq⟩ := dv p (List.mem_of_getElem? h1)
    have e : (u - p.2.1) % p.2.2 = 0 := of_decide_eq_true h3
    refine decide_eq_true ?_
    rw [hq, show u + p.2.2 * q - p.2.1 = (u - p.2.1) + p.2.2 * q by omega, Int.add_mul_emod_self_left]
    exact e
  · obtain ⟨r, a, b, h1, ⟨i, k, n1, n2, q1, q2⟩, h3⟩ := h.keep j hj
    exact ⟨r, a + t, b + t, h1, ⟨i, k, n1, n2, at_ _ _ q1, at_ _ _ q2⟩, by omega⟩
end K06
namespace K06
open PySem PySem.Spec L2 Rt
open PyProof.Rows hiding St
abbrev sPr : Stmt := top 44
theorem lay_two (as bs : List Int) : PyData.canLay0 (.list [.tuple (as.map PyData.int), .tuple (bs.map PyData.int)]) = true := by
  simp [PyData.canLay0, PyData.canLayAll0, lay_ints]
theorem shaped_two (as bs : List Int) : SeqAt.shaped (.list [.tuple (as.map PyData.int), .tuple (bs.map PyData.int)]) = true := by
  unfold SeqAt.shaped
  simp [PyData.canLay0, PyData.canLayAll0, lay_ints, PyData.depth, PyData.depthAll, depth_ints]
theorem dxAll_ints {K : PySem.W.Frag} {H : Hp} : ∀ ks : List Int, DxAll K H (ks.map V.int) (ks.map PyData.int)
  | [] => .nil
  | k :: ks => .cons (.int k) (dxAll_ints ks)
theorem od_all {H : Hp} (zs : List Int) : ∀ x, x ∈ zs.map V.int → Od H x := fun x m => by
  obtain ⟨i, _, rfl⟩ := List.mem_map.mp m
  exact True.intro
theorem nice_ints {zs : List Int} (b : TabI zs) (le : zs.length ≤ 6) : Nice (.tuple (zs.map PyData.int)) := nice_tup (fun d m => by
  obtain ⟨i, hi, rfl⟩ := List.mem_map.mp m
  exact sm_int (Nat.lt_trans (b i hi) (by decide))) (by rw [List.length_map]; omega)
theorem dx_tab {ps : List Pt} {rs : List Rl} {zs : List Int} (t : Tab ps rs zs) (few : ps.length ≤ 6) : Nice (.tuple (zs.map PyData.int)) := nice_ints (fun x m => by
  have h1 := t.lo x m
  have h2 := t.hi x m
  omega) (by rw [t.len]; exact few)
theorem nice_two {a b : PyData} (h : Nice a) (g : Nice b) : (PyData.list [a, b]).showable = true ∧ (PyData.list [a, b]).depth ≤ 60 ∧ (PyData.list [a, b]).shown.length ≤ sizeLine := by
  have h1 := h.dp
  have h2 := h.ln
  have g1 := g.dp
  have g2 := g.ln
  refine ⟨by simp [PyData.showable, PyData.showableAll, h.sh, g.sh], ?_, ?_⟩
  · simp only [PyData.depth, PyData.depthAll]
    omega
  · simp only [PyData.shown, PyData.shownAll]
    refine Nat.le_trans (listText_len_le _) ?_
    simp only [List.map_cons, List.map_nil, List.sum_cons, List.sum_nil, List.length_cons, List.length_nil]
    rw [sizeLine_eq]
    omega
theorem times_small {z : Int} (h : z ∈ ([0, 1, -1, 5, -(10 ^ 20)] : List Int)) : -(10 ^ 20) ≤ z ∧ z ≤ 10 ^ 20 := by
  simp only [List.mem_cons, List.not_mem_nil, or_false] at h
  rcases h with e | e | e | e | e <;> subst e <;> decide
theorem far_small2 {t x : Int} {n : Nat} (bt : -(10 ^ 20) ≤ t ∧ t ≤ 10 ^ 20) (bn : n ≤ 420) (h1 : -100000000 ≤ x) (h2 : x ≤ 100000000) : (x + t * (n : Int)).natAbs < 10 ^ 39 := by
  have m : (t * (n : Int)).natAbs ≤ 10 ^ 20 * 420 := by
    rw [Int.natAbs_mul, Int.natAbs_natCast]
    exact Nat.mul_le_mul (by omega) bn
  omega
def spPr (C : Addr) : Sp := fun vs H Q _ => ∃ (d c n a p q : Addr) (ps : List Pt) (rs : List Rl) (xs ys : List Int) (most ties : Nat), vs = [.ref d, .ref n, .ref a, .ref p, .ref q] ∧ Src H d c ∧ LNet (mask d c H) n ps rs ∧ Drawn ps rs most ties ∧ ps.length ≤ 6 ∧
  NetAt (mask d c H) C a ps rs ∧ mask d c H p = some (.tup (xs.map V.int)) ∧ mask d c H q = some (.tup (ys.map V.int)) ∧ Tab ps rs xs ∧ Tab ps rs ys ∧ ∀ H', Src H' d c → Keep d c H H' → Q (.bl true) H'
section
variable {P : Program} {w : World} {K : PySem.W.Frag} {mg : Str → Option Value} {base : Heap} {f C : Addr} {fd : FuncData}
theorem scPr : FnScope ["source", "net", "made", "one", "other", "later", "earlier", "told", "times", "due", "pair", "value", "number"] ["source", "net", "made", "one", "other"] (defScope sPr) := ⟨rfl, rfl, rfl, by decide +kernel, rfl, by decide +kernel, by decide +kernel⟩
theorem ok_pr (F : Fun K "_law_pair_right" "_law_pair_right" sPr f fd) (T : Lw mg) (cO : Cb P w K mg base 2 "_law_of" spOf) (cPer : Cb P w K mg base 1 "_law_period" spPeriod) (cLat : Cb P w K mg base 2 "later_of" (spPair C mx)) (cEar : Cb P w K mg base 2 "earlier_of" (spPair C mn))
    (cJu : Cb P w K mg base 4 "judge_timetable" (spJudge K C)) (cSh : Cb P w K mg base 2 "shifted" (spShift C)) : FnG P w K mg base 5 f fd ["source", "net", "made", "one", "other"] (spPr C) := by
  refine okG F scPr (fun vs H Q E h => ?_) (fun cdv A outer s H vs Q E hg hr h => ?_)
  · obtain ⟨d, c, n, a, p, q, ps, rs, xs, ys, m, t, rfl, _⟩ := h
    rfl
  · obtain ⟨d, c, n, a, p, q, ps, rs, xs, ys, m, t, rfl, S, net, dr, few, mad, hp, hq, tx, ty, k⟩ := h
    have hu64 := hr.units
    have hu := hu64
    refine ⟨_, (pss_cons (ps_set (i := 5) scPr.nd rfl (.inl rfl) (pe_callTy call_tuple_of (by rfl) T.ztuple (by decide +kernel) (pa_cons (pe_lc (own := [("pair", 10)]) (by rfl) scPr.nd (pi_zipN (by rfl) T.zzip (pa_cons (pv 3) (pa_cons (pv 4) pa_nil))) (blkOk_by (N := ["source", "net", "made", "one", "other", "later", "earlier", "told", "times", "due", "pair", "value", "number"]) (sc := defScope sPr) (by decide +kernel)) (fun _ _ _ _ _ => (pg_name (i := 10) scPr.nd rfl (.inl rfl))) (fun _ _ _ _ _ => pts_nil) (fun _ _ _ _ _ => (pe_callB (call_maxK (K := K) rfl (by rfl) hu64) (by rfl) T.zmax (by decide +kernel) (pa_cons (pv 10) pa_nil)))) pa_nil)))
      (pss_cons (ps_set (i := 6) scPr.nd rfl (.inl rfl) (pe_callTy call_tuple_of (by rfl) T.ztuple (by decide +kernel) (pa_cons (pe_lc (own := [("pair", 10)]) (by rfl) scPr.nd (pi_zipN (by rfl) T.zzip (pa_cons (pv 3) (pa_cons (pv 4) pa_nil))) (blkOk_by (N := ["source", "net", "made", "one", "other", "later", "earlier", "told", "times", "due", "pair", "value", "number"]) (sc := defScope sPr) (by decide +kernel)) (fun _ _ _ _ _ => (pg_name (i := 10) scPr.nd rfl (.inl rfl))) (fun _ _ _ _ _ => pts_nil) (fun _ _ _ _ _ => (pe_callB (call_minK (K := K) rfl (by rfl) hu64) (by rfl) T.zmin (by decide +kernel) (pa_cons (pv 10) pa_nil)))) pa_nil)))
      (pss_cons (ps_set (i := 7) scPr.nd rfl (.inl rfl) (pe_lst (pa_cons (pe_k cLat hg hr (by decide) (by rfl) (pa_cons (pv 2) (pa_cons (pv 3) (pa_cons (pv 4) pa_nil)))) (pa_cons (pe_k cEar hg hr (by decide) (by rfl) (pa_cons (pv 2) (pa_cons (pv 4) (pa_cons (pv 3) pa_nil)))) pa_nil))))
      (pss_cons (ps_if (pt_cmpR (op_neD hu64) (pe_lst (pa_cons (pe_k cLat hg hr (by decide) (by rfl) (pa_cons (pv 2) (pa_cons (pe_callTy call_list_of (by rfl) T.zlist (by decide +kernel) (pa_cons (pv 3) pa_nil)) (pa_cons (pv 4) pa_nil)))) (pa_cons (pe_k cEar hg hr (by decide) (by rfl) (pa_cons (pv 2) (pa_cons (pv 3) (pa_cons (pe_callTy call_list_of (by rfl) T.zlist (by decide +kernel) (pa_cons (pv 4) pa_nil)) pa_nil)))) pa_nil))) (pv 7) (nomark _)) (pss_one (ps_ret pe_bl)) pss_nil)
      (pss_cons (ps_if (PW.pt (pw_or (pt_cmpR op_ne (pe_callB (call_reprX hg hu) (by rfl) T.zrepr (by decide +kernel) (pa_cons (pv 7) pa_nil)) (pe_callB (call_reprX hg hu) (by rfl) T.zrepr (by decide +kernel) (pa_cons (pe_lst (pa_cons (pv 5) (pa_cons (pv 6) pa_nil))) pa_nil)) (nomark _)) (pw_or1 (pt_cmpR (op_neD hu) (pe_lc (own := [("value", 11)]) (by rfl) scPr.nd (pi_list (pv 7)) (blkOk_by (N := ["source", "net", "made", "one", "other", "later", "earlier", "told", "times", "due", "pair", "value", "number"]) (sc := defScope sPr) (by decide +kernel)) (fun _ _ _ _ _ => (pg_name (i := 11) scPr.nd rfl (.inl rfl))) (fun _ _ _ _ _ => pts_nil) (fun _ _ _ _ _ => (pe_k cJu hg hr (by decide) (by rfl) (pa_cons (pv 2) (pa_cons (pv 11) pa_nil))))) (pe_lst (pa_cons pe_non (pa_cons pe_non pa_nil))) (nomark _))))) (pss_one (ps_ret pe_bl)) pss_nil)
      (pss_cons (ps_set (i := 8) scPr.nd rfl (.inr rfl) (pe_k cO hg hr (by decide) (by rfl) (pa_cons (pv 0) (pa_cons (pe_lst (pa_cons pe_int (pa_cons pe_int (pa_cons (pe_un un_neg pe_int) (pa_cons pe_int (pa_cons (pe_un un_neg (pe_op op_pow pe_int pe_int)) pa_nil)))))) pa_nil))))
      (pss_cons (ps_set (i := 9) scPr.nd rfl (.inl rfl) (pe_callTy call_tuple_of (by rfl) T.ztuple (by decide +kernel) (pa_cons (pe_lc (own := [("number", 12)]) (by rfl) scPr.nd (pi_tup (pv 3)) (blkOk_by (N := ["source", "net", "made", "one", "other", "later", "earlier", "told", "times", "due", "pair", "value", "number"]) (sc := defScope sPr) (by decide +kernel)) (fun _ _ _ _ _ => (pg_name (i := 12) scPr.nd rfl (.inl rfl))) (fun _ _ _ _ _ => pts_nil) (fun _ _ _ _ _ => (pe_op op_add (pv 12) (pe_op op_mul (pv 8) (pe_k cPer hg hr (by decide) (by rfl) (pa_cons (pv 1) pa_nil)))))) pa_nil)))
      (pss_cons (ps_if (pt_cmpR op_ne (pe_callB (call_reprX hg hu) (by rfl) T.zrepr (by decide +kernel) (pa_cons (pe_lst (pa_cons (pe_k cSh hg hr (by decide) (by rfl) (pa_cons (pv 2) (pa_cons (pv 3) (pa_cons (pv 8) pa_nil)))) (pa_cons (pe_k cSh hg hr (by decide) (by rfl) (pa_cons (pv 2) (pa_cons (pe_callTy call_list_of (by rfl) T.zlist (by decide +kernel) (pa_cons (pv 3) pa_nil)) (pa_cons (pv 8) pa_nil)))) pa_nil))) pa_nil)) (pe_callB (call_reprX hg hu) (by rfl) T.zrepr (by decide +kernel) (pa_cons (pe_lst (pa_cons (pv 9) (pa_cons (pv 9) pa_nil))) pa_nil)) (nomark _)) (pss_one (ps_ret pe_bl)) pss_nil)
      (pss_one (ps_ret (pe_cmpR op_isN (pe_k cJu hg hr (by decide) (by rfl) (pa_cons (pv 2) (pa_cons (pv 9) pa_nil))) pe_non (nomark _)))))))))))), ?_⟩
    have lx : xs.length ≤ 6 := by rw [tx.len]; exact few
    have lxy : (xs.map V.int).length = (ys.map V.int).length := by rw [List.length_map, List.length_map, tx.len, ty.len]
    have np := mask_same _ _ hp
    have nq := mask_same _ _ hq
    -- later
    refine ⟨_, rfl, _, rfl, p, q, _, _, rfl, SqT.of np, SqT.of nq, fun D nD => ?_⟩
    refine lc_it (walk_zn lxy) (fun i H1 => Same H H1 ∧ H1 D = some (.lst (((List.zipWith mx xs ys).take i).map V.int))) ⟨same_new nD, upd_same⟩ (fun i H1 _ z => ⟨SqT.of (z.1 _ _ np), SqT.of (z.1 _ _ nq)⟩) ?_ ?_
    · rintro i y H1 H2 hi ⟨s1, hD⟩ ⟨T0, x1, x2, rfl, nT, rfl, e1, e2⟩
      obtain ⟨u, hu1, rfl⟩ := int_at e1
      obtain ⟨v, hv1, rfl⟩ := int_at e2
      have hD2 : (upd H1 T0 (.tup [.int u, .int v])) D = some (.lst (((List.zipWith mx xs ys).take i).map V.int)) := by
        rw [upd_ne (ne_of_none hD nT)]
        exact hD
      refine ⟨rfl, _, rfl, T0, u, v, rfl, SqT.of upd_same, _, hD2, small1000 (by rw [List.length_map, List.length_take, List.length_zipWith]; omega), fun b o z => by rw [upd_ne (ne_of_none z nD)]; exact (s1.trans (same_new nT)) b o z, ?_⟩
      rw [upd_same, List.take_succ, List.getElem?_zipWith, hu1, hv1, List.map_append]
      rfl
    · rintro H1 ⟨s1, hD⟩
      rw [List.take_of_length_le (by rw [List.length_zipWith, List.length_map]; omega)] at hD
      refine ⟨D, _, rfl, .inl ⟨SqL.of hD, fun l1 nl1 => ?_⟩⟩
      have s2 := s1.trans (same_new (o := .tup ((List.zipWith mx xs ys).map V.int)) nl1)
      have hl1 := upd_same (H := H1) (a := l1) (o := .tup ((List.zipWith mx xs ys).map V.int))
      revert s2 hl1
      generalize upd H1 l1 (.tup ((List.zipWith mx xs ys).map V.int)) = H2
      intro s2 hl1
      -- earlier
      refine ⟨_, rfl, _, rfl, p, q, _, _, rfl, SqT.of (s2 _ _ np), SqT.of (s2 _ _ nq), fun G nG => ?_⟩
      refine lc_it (walk_zn lxy) (fun i H1 => Same H2 H1 ∧ H1 G = some (.lst (((List.zipWith mn xs ys).take i).map V.int))) ⟨same_new nG, upd_same⟩ (fun i H1 _ z => ⟨SqT.of (z.1 _ _ (s2 _ _ np)), SqT.of (z.1 _ _ (s2 _ _ nq))⟩) ?_ ?_
      · rintro i y H1 H3 hi ⟨s1, hD⟩ ⟨T0, x1, x2, rfl, nT, rfl, e1, e2⟩
        obtain ⟨u, hu1, rfl⟩ := int_at e1
        obtain ⟨v, hv1, rfl⟩ := int_at e2
        have hD2 : (upd H1 T0 (.tup [.int u, .int v])) G = some (.lst (((List.zipWith mn xs ys).take i).map V.int)) := by
          rw [upd_ne (ne_of_none hD nT)]
          exact hD
        refine ⟨rfl, _, rfl, T0, u, v, rfl, SqT.of upd_same, _, hD2, small1000 (by rw [List.length_map, List.length_take, List.length_zipWith]; omega), fun b o z => by rw [upd_ne (ne_of_none z nG)]; exact (s1.trans (same_new nT)) b o z, ?_⟩
        rw [upd_same, List.take_succ, List.getElem?_zipWith, hu1, hv1, List.map_append]
        rfl
      · rintro H3 ⟨s3, hG⟩
        rw [List.take_of_length_le (by rw [List.length_zipWith, List.length_map]; omega)] at hG
        refine ⟨G, _, rfl, .inl ⟨SqL.of hG, fun l2 nl2 => ?_⟩⟩
        have s4 := (s2.trans s3).trans (same_new (o := .tup ((List.zipWith mn xs ys).map V.int)) nl2)
        have hl2 := upd_same (H := H3) (a := l2) (o := .tup ((List.zipWith mn xs ys).map V.int))
        have hl1 := (s3.trans (same_new (o := .tup ((List.zipWith mn xs ys).map V.int)) nl2)) _ _ hl1
        revert s4 hl2 hl1
        generalize upd H3 l2 (.tup ((List.zipWith mn xs ys).map V.int)) = H4
        intro s4 hl2 hl1
        have mad0 : NetAt H C a ps rs := mad.same mask_same
        have few100 : ps.length ≤ 100 := by omega
        -- told
        refine ⟨_, rfl, _, rfl, _, rfl, a, p, q, ps, rs, xs, ys, rfl, mad0.same s4, few100, tx.len, ty.len, .inr (s4 _ _ np), .inr (s4 _ _ nq), fun t1 H5 s5 ht1 => ?_⟩
        have z5 := s4.trans s5
        refine ⟨_, rfl, _, rfl, _, rfl, a, q, p, ps, rs, ys, xs, rfl, mad0.same z5, few100, ty.len, tx.len, .inr (z5 _ _ nq), .inr (z5 _ _ np), fun t2 H6 s6 ht2 => ?_⟩
        rw [← zip_mn] at ht2
        have z6 := z5.trans s6
        refine ⟨(by show 2 ≤ sizeLine; decide), fun tl ntl => ?_⟩
        have z7 := z6.trans (same_new (o := .lst [.ref t1, .ref t2]) ntl)
        have htl := upd_same (H := H6) (a := tl) (o := .lst [.ref t1, .ref t2])
        have w6 := s6.trans (same_new (o := .lst [.ref t1, .ref t2]) ntl)
        have ht1 := w6 _ _ ht1
        have ht2 := (same_new (o := .lst [.ref t1, .ref t2]) ntl) _ _ ht2
        have hl1 := (s5.trans w6) _ _ hl1
        have hl2 := (s5.trans w6) _ _ hl2
        revert z7 htl ht1 ht2 hl1 hl2
        generalize upd H6 tl (.lst [.ref t1, .ref t2]) = H7
        intro z7 htl ht1 ht2 hl1 hl2
        -- the same of lists
        refine ⟨_, rfl, _, rfl, p, _, rfl, .inr (SqT.of (z7 _ _ np)), fun lo nlo => ?_⟩
        have z8 := same_new (H := H7) (o := .lst (xs.map V.int)) nlo
        refine ⟨_, rfl, a, lo, q, ps, rs, xs, ys, rfl, mad0.same (z7.trans z8), few100, tx.len, ty.len, .inl upd_same, .inr ((z7.trans z8) _ _ nq), fun t3 H9 s9 ht3 => ?_⟩
        have z9 := z8.trans s9
        refine ⟨_, rfl, _, rfl, _, rfl, q, _, rfl, .inr (SqT.of ((z7.trans z9) _ _ nq)), fun lp nlp => ?_⟩
        have z10 := z9.trans (same_new (H := H9) (o := .lst (ys.map V.int)) nlp)
        refine ⟨a, p, lp, ps, rs, xs, ys, rfl, mad0.same (z7.trans z10), few100, tx.len, ty.len, .inr ((z7.trans z10) _ _ np), .inl upd_same, fun t4 H11 s11 ht4 => ?_⟩
        have z11 := z10.trans s11
        refine ⟨(by show 2 ≤ sizeLine; decide), fun tm ntm => ?_⟩
        have z12 := z11.trans (same_new (H := H11) (o := .lst [.ref t3, .ref t4]) ntm)
        have y12 := same_new (H := H11) (o := .lst [.ref t3, .ref t4]) ntm
        have ht3 := ((same_new (H := H9) (o := .lst (ys.map V.int)) nlp).trans (s11.trans y12)) _ _ ht3
        have ht4 := y12 _ _ ht4
        refine ⟨_, rfl, .list [.tuple ((List.zipWith mx xs ys).map PyData.int), .tuple ((List.zipWith mn xs ys).map PyData.int)], .list [.tuple ((List.zipWith mx xs ys).map PyData.int), .tuple ((List.zipWith mn xs ys).map PyData.int)],
          .lst (SqL.of upd_same) (.cons (.tup (SqT.of ht3) (dpAll_ints _)) (.cons (.tup (SqT.of ht4) (dpAll_ints _)) .nil)), .lst (SqL.of (z12 _ _ htl)) (.cons (.tup (SqT.of (z12 _ _ ht1)) (dpAll_ints _)) (.cons (.tup (SqT.of (z12 _ _ ht2)) (dpAll_ints _)) .nil)), shaped_two _ _, shaped_two _ _, _, rfl, ?_⟩
        rw [SeqAt.eqv_refl _ (lay_two _ _)]
        refine iteF ?_
        have ht1 := z12 _ _ ht1
        have ht2 := z12 _ _ ht2
        have htl := z12 _ _ htl
        have hl1 := z12 _ _ hl1
        have hl2 := z12 _ _ hl2
        have z12 := z7.trans z12
        clear ht3 ht4 y12
        revert z12 ht1 ht2 htl hl1 hl2
        generalize upd H11 tm (.lst [.ref t3, .ref t4]) = H12
        intro ht1 ht2 htl hl1 hl2 z12
        have tmx := fine_zip mx mx_pick mx_mono dr.good.nd tx ty
        have tmn := fine_zip mn mn_pick mn_mono dr.good.nd tx ty
        have two := nice_two (dx_tab tmx few) (dx_tab tmn few)
        -- repr(told) != repr([later, earlier])
        refine ⟨_, rfl, _, _, rfl, .lst (SqL.of htl) (.cons (.tup (SqT.of ht1) (dxAll_ints _)) (.cons (.tup (SqT.of ht2) (dxAll_ints _)) .nil)), two.1, two.2.1, two.2.2, ?_⟩
        refine ⟨_, rfl, _, rfl, (by show 2 ≤ sizeLine; decide), fun tn ntn => ?_⟩
        have z13 := same_new (H := H12) (o := .lst [.ref l1, .ref l2]) ntn
        refine ⟨_, _, rfl, .lst (SqL.of upd_same) (.cons (.tup (SqT.of (z13 _ _ hl1)) (dxAll_ints _)) (.cons (.tup (SqT.of (z13 _ _ hl2)) (dxAll_ints _)) .nil)), two.1, two.2.1, two.2.2, ?_⟩
        refine ⟨rfl, false, by rw [decide_eq_true rfl]; rfl, iteF ?_⟩
        -- judged
        have z14 := z12.trans z13
        refine ⟨_, rfl, tl, rfl, ⟨_, SqL.of (z13 _ _ htl)⟩, fun J nJ => ?_⟩
        refine lc_it walk_list (fun i H1 => Same (upd H12 tn (.lst [.ref l1, .ref l2])) H1 ∧ H1 J = some (.lst (List.replicate i V.non))) ⟨same_new nJ, upd_same⟩ (fun i H1 _ z => SqL.of (z.1 _ _ (z13 _ _ htl))) ?_ ?_
        · rintro i y H1 H13 hi ⟨s1, hJ⟩ ⟨rfl, hy⟩
          have each : ∃ (u : Addr) (zs : List Int), y = .ref u ∧ H13 u = some (.tup (zs.map V.int)) ∧ Tab ps rs zs := by
            match i, hi, hy with
            | 0, _, hy => exact ⟨t1, _, (Option.some.inj hy).symm, s1 _ _ (z13 _ _ ht1), tmx⟩
            | 1, _, hy => exact ⟨t2, _, (Option.some.inj hy).symm, s1 _ _ (z13 _ _ ht2), tmn⟩
          obtain ⟨u, zs, rfl, hu2, tz⟩ := each
          refine ⟨rfl, _, rfl, _, rfl, a, .ref u, ps, rs, _, rfl, mad0.same (z14.trans s1), dr.good, .tup hu2 (od_all zs), fun v r H14 vd tells s14 => ?_⟩
          cases verd_uniq dr.good.nd vd (.fine (by rw [List.length_map]; exact tz.len) tz.on tz.keep)
          cases (show v = .non from tells)
          refine ⟨_, s14 _ _ hJ, small1000 (by rw [List.length_replicate]; have : i < 2 := hi; omega), fun b o z => by rw [upd_ne (ne_of_none z nJ)]; exact (s1.trans s14) b o z, ?_⟩
          rw [upd_same, List.replicate_succ']
        · rintro H14 ⟨s14, hJ⟩
          have hJ : H14 J = some (.lst [.non, .non]) := hJ
          refine ⟨(by show 2 ≤ sizeLine; decide), fun tw ntw => ?_⟩
          have z15 := same_new (H := H14) (o := .lst [.non, .non]) ntw
          refine ⟨.list [.none, .none], .list [.none, .none], .lst (SqL.of (z15 _ _ hJ)) (.cons .non (.cons .non .nil)), .lst (SqL.of upd_same) (.cons .non (.cons .non .nil)), by decide +kernel, by decide +kernel, false, by decide +kernel, iteF ?_⟩
          have z16 := (z14.trans s14).trans z15
          revert z16
          generalize upd H14 tw (.lst [.non, .non]) = H16
          intro z16
          have S16 : Src H16 d c := S.same z16
          -- times
          refine ⟨_, rfl, 1, rfl, _, _, rfl, rfl, ⟨by decide, by decide, by decide⟩, _, rfl, (by show 5 ≤ sizeLine; decide), fun lt nlt => ?_⟩
          refine ⟨d, c, lt, ([0, 1, -1, 5, -(10 ^ 20)] : List Int).map V.int, rfl, S16.new nlt, upd_same, (S16.away nlt).2, (by show 0 < 5; decide), (by show 5 < 1000000000; decide), fun j v H17 hv S17 k17 => ?_⟩
          obtain ⟨tt, htt, rfl⟩ := int_at hv
          have btt := times_small (List.mem_of_getElem? htt)
          have K16 : Keep d c H H16 := fun b o e _ _ => z16 b o e
          have K17 := (K16.new nlt).trans k17
          have g17 := mask_keep K17
          have np17 := mask_same _ _ (g17 _ _ hp)
          have net17 : LNet H17 n ps rs := (net.same g17).same mask_same
          have mad17 : NetAt H17 C a ps rs := (mad.same g17).same mask_same
          have dv420 : ∀ p, p ∈ ps → 1 ≤ p.2.2 ∧ p.2.2 ≤ 60 ∧ p.2.2.toNat ∣ 420 := fun p hp => ⟨(dr.pt p hp).s1, by have := (dr.pt p hp).s12; omega, (dr.pt p hp).dv⟩
          have per : lcmOf ps ≤ 420 := Nat.le_of_dvd (by decide) (lcm_dvd ps 1 (Nat.one_dvd 420) fun p hp => (dr.pt p hp).dv)
          refine ⟨_, rfl, p, rfl, ⟨_, SqT.of np17⟩, fun D5 nD5 => ?_⟩
          refine lc_it walk_tup (fun i H1 => Same H17 H1 ∧ H1 D5 = some (.lst (((xs.map fun x => x + tt * (lcmOf ps : Nat)).take i).map V.int))) ⟨same_new nD5, upd_same⟩ (fun i H1 _ z => SqT.of (z.1 _ _ np17)) ?_ ?_
          · rintro i y H1 H18 hi ⟨s1, hD5⟩ ⟨rfl, hy⟩
            obtain ⟨u, hu2, rfl⟩ := int_at hy
            refine ⟨rfl, _, rfl, _, rfl, _, rfl, n, ps, rs, 420, rfl, net17.same s1, dv420, by decide, by decide, fun H19 s19 => ?_⟩
            refine ⟨_, _, rfl, rfl, .inr ⟨by omega, by omega⟩, _, _, rfl, rfl, _, s19 _ _ hD5, small1000 (by rw [List.length_map, List.length_take, List.length_map]; omega), fun b o z => by rw [upd_ne (ne_of_none z nD5)]; exact (s1.trans s19) b o z, ?_⟩
            rw [upd_same, List.take_succ, List.getElem?_map, hu2, List.map_append]
            rfl
          · rintro H18 ⟨s18, hD5⟩
            rw [List.take_of_length_le (by rw [List.length_map, List.length_map]; exact Nat.le_refl _)] at hD5
            refine ⟨D5, _, rfl, .inl ⟨SqL.of hD5, fun du ndu => ?_⟩⟩
            have z19 := s18.trans (same_new (o := .tup ((xs.map fun x => x + tt * (lcmOf ps : Nat)).map V.int)) ndu)
            have hdu := upd_same (H := H18) (a := du) (o := .tup ((xs.map fun x => x + tt * (lcmOf ps : Nat)).map V.int))
            revert z19 hdu
            generalize upd H18 du (.tup ((xs.map fun x => x + tt * (lcmOf ps : Nat)).map V.int)) = H19
            intro z19 hdu
            have dv2 : ∀ p, p ∈ ps → 1 ≤ p.2.2 ∧ p.2.2.toNat ∣ 420 := fun p hp => ⟨(dr.pt p hp).s1, (dr.pt p hp).dv⟩
            have eqS : (xs.map fun x => x + (lcmOf ps : Nat) * tt) = xs.map fun x => x + tt * (lcmOf ps : Nat) := by
              congr 1
              funext x
              rw [Int.mul_comm]
            -- shifted
            refine ⟨_, rfl, _, rfl, _, rfl, a, p, ps, rs, xs, tt, 420, rfl, mad17.same z19, dv2, by decide, by decide, by omega, .inr (z19 _ _ np17), fun v1 H20 s20 h20 => ?_⟩
            have z20 := z19.trans s20
            refine ⟨_, rfl, _, rfl, p, _, rfl, .inr (SqT.of (z20 _ _ np17)), fun lo2 nlo2 => ?_⟩
            have z21 := z20.trans (same_new (o := .lst (xs.map V.int)) nlo2)
            refine ⟨_, rfl, a, lo2, ps, rs, xs, tt, 420, rfl, mad17.same z21, dv2, by decide, by decide, by omega, .inl upd_same, fun v2 H22 s22 h22 => ?_⟩
            rw [eqS] at h20 h22
            have y22 := (same_new (H := H20) (o := .lst (xs.map V.int)) nlo2).trans s22
            have h20 := y22 _ _ h20
            have hdu := (s20.trans y22) _ _ hdu
            have z22 := z20.trans y22
            refine ⟨(by show 2 ≤ sizeLine; decide), fun lv nlv => ?_⟩
            have y23 := same_new (H := H22) (o := .lst [.ref v1, .ref v2]) nlv
            have nd : Nice (.tuple ((xs.map fun x => x + tt * (lcmOf ps : Nat)).map PyData.int)) := nice_ints (fun x m => by
              obtain ⟨y, hy, rfl⟩ := List.mem_map.mp m
              have h1 := tx.lo y hy
              have h2 := tx.hi y hy
              exact far_small2 btt per h1 h2) (by rw [List.length_map]; exact lx)
            have two2 := nice_two nd nd
            refine ⟨_, _, rfl, .lst (SqL.of upd_same) (.cons (.tup (SqT.of (y23 _ _ h20)) (dxAll_ints _)) (.cons (.tup (SqT.of (y23 _ _ h22)) (dxAll_ints _)) .nil)), two2.1, two2.2.1, two2.2.2, ?_⟩
            refine ⟨_, rfl, _, rfl, (by show 2 ≤ sizeLine; decide), fun lw nlw => ?_⟩
            have y24 := y23.trans (same_new (o := .lst [.ref du, .ref du]) nlw)
            refine ⟨_, _, rfl, .lst (SqL.of upd_same) (.cons (.tup (SqT.of (y24 _ _ hdu)) (dxAll_ints _)) (.cons (.tup (SqT.of (y24 _ _ hdu)) (dxAll_ints _)) .nil)), two2.1, two2.2.1, two2.2.2, ?_⟩
            refine ⟨rfl, false, by rw [decide_eq_true rfl]; rfl, iteF ?_⟩
            -- judged
            have fs := fine_shift (t := tt * (lcmOf ps : Nat)) tx (fun p hp => by
              have e : p.2.2 = ((p.2.2.toNat : Nat) : Int) := (Int.toNat_of_nonneg (by have := (dr.pt p hp).s1; omega)).symm
              rw [e]
              exact Int.dvd_trans (Int.natCast_dvd_natCast.mpr (dvd_lcmOf hp)) (Int.dvd_mul_left _ _))
            refine ⟨_, rfl, _, rfl, a, .ref du, ps, rs, _, rfl, mad17.same (z22.trans y24), dr.good, .tup (y24 _ _ hdu) (od_all _), fun v r H25 vd tells s25 => ?_⟩
            cases verd_uniq dr.good.nd vd (.fine (by rw [List.length_map]; exact fs.1) fs.2.1 fs.2.2)
            cases (show v = .non from tells)
            have z25 := (z22.trans y24).trans s25
            refine ⟨rfl, ?_⟩
            rw [decide_eq_true rfl]
            exact k H25 (S17.same z25) (K17.trans fun b o e _ _ => z25 b o e)
end
end K06
namespace K06
open PySem PySem.Spec L2 Rt
open PyProof.Rows hiding St
abbrev sLaw : Stmt := top 45
def spLaw (K : PySem.W.Frag) : Sp := fun vs H Q _ => ∃ (a : Addr) (ns : List Int), vs = [.ref a] ∧ SqL K H a (ns.map V.int) ∧ ns.length ≤ 63 ∧ ∀ H', Q (.bl true) H'
theorem NetAt.mask {H : Hp} {C a d c : Addr} {ps : List Pt} {rs : List Rl} (h : NetAt H C a ps rs) (S : Src H d c) (p0 : 0 < ps.length) : NetAt (mask d c H) C a ps rs := by
  obtain ⟨dx, PA, RA, DA, as, bs, h1, h2, h3, h4, h5, h6⟩ := h.ex
  obtain ⟨ks, l, m, t, q1, q2⟩ := S.ex
  have tup : ∀ {b : Addr} {xs : List V}, H b = some (.tup xs) → K06.mask d c H b = some (.tup xs) := fun e => mask_at (S.nd e) e
  refine ⟨dx, PA, RA, DA, as, bs, mask_at ⟨ne_of h1 q1 (by intro z; cases z), ne_of h1 q2 (by intro z; cases z)⟩ h1, tup h2, tup h3, mask_at ⟨ne_of h4 q1 ?_, ne_of h4 q2 (by intro z; cases z)⟩ h4, ⟨h5.1, fun i a p e1 e2 => tup (h5.2 i a p e1 e2)⟩, ⟨h6.1, fun i a p e1 e2 => tup (h6.2 i a p e1 e2)⟩⟩
  intro z
  cases ps with
  | nil => exact absurd p0 (by decide)
  | cons p ps =>
    have z1 : (Sum.inr p.1, V.int (0 : Nat)) :: placesFrom 1 (namesOf ps) = srcK c l m t := HO.dK.inj z
    cases congrArg Prod.snd (List.cons.inj z1).1
def flatD : V → PyData
  | .str x => .str x
  | .int i => .int i
  | _ => .none
def tellD : Option (List V) → PyData
  | none => .none
  | some ys => .tuple (ys.map flatD)
theorem nice_non : Nice .none := ⟨by decide +kernel, by decide +kernel, by decide +kernel⟩
theorem sm_form : Sm (.str "form") := ⟨by decide +kernel, by decide +kernel, by decide +kernel⟩
theorem sm_clock : Sm (.str "clock") := ⟨by decide +kernel, by decide +kernel, by decide +kernel⟩
theorem sm_rule : Sm (.str "rule") := ⟨by decide +kernel, by decide +kernel, by decide +kernel⟩
theorem nice_word {x : Str} (h : Sm (.str x)) : Nice (.tuple [.str x]) := nice_tup (fun d m => by cases List.mem_singleton.mp m; exact h) (by show 1 ≤ 12; decide)
theorem nice_pair {x : Str} {k : Nat} (h : Sm (.str x)) (hk : k ≤ 1000) : Nice (.tuple [.str x, .int (k : Nat)]) := nice_tup (fun d m => by
  rcases List.mem_cons.mp m with rfl | m
  · exact h
  · cases List.mem_singleton.mp m
    exact sm_int (by omega)) (by show 2 ≤ 12; decide)
theorem tells_dx {K : PySem.W.Frag} {H : Hp} {ps : List Pt} {rs : List Rl} {xo r : Option (List V)} {u : V} (g : Good ps rs) (vd : Verd ps rs xo r) (t : Tells H r u) : Dx K H u (tellD r) ∧ Nice (tellD r) := by
  have few := g.few
  have fewR := g.fewR
  cases vd with
  | form0 =>
    obtain ⟨q, rfl, hq⟩ := t
    exact ⟨.tup (SqT.of hq) (.cons (.str _) .nil), nice_word sm_form⟩
  | form h =>
    obtain ⟨q, rfl, hq⟩ := t
    exact ⟨.tup (SqT.of hq) (.cons (.str _) .nil), nice_word sm_form⟩
  | clock h b f =>
    obtain ⟨q, rfl, hq⟩ := t
    exact ⟨.tup (SqT.of hq) (.cons (.str _) (.cons (.int _) .nil)), nice_pair sm_clock (by have := f.lt; omega)⟩
  | rule h c b f =>
    obtain ⟨q, rfl, hq⟩ := t
    exact ⟨.tup (SqT.of hq) (.cons (.str _) (.cons (.int _) .nil)), nice_pair sm_rule (by have := f.lt; omega)⟩
  | fine h c b =>
    cases (show u = .non from t)
    exact ⟨.non, nice_non⟩
theorem tells_dp {K : PySem.W.Frag} {H : Hp} {ps : List Pt} {rs : List Rl} {xo r : Option (List V)} {u : V} (vd : Verd ps rs xo r) (t : Tells H r u) : Dp K H u (tellD r) := by
  cases vd with
  | form0 =>
    obtain ⟨q, rfl, hq⟩ := t
    exact .tup (SqT.of hq) (.cons (.str _) .nil)
  | form h =>
    obtain ⟨q, rfl, hq⟩ := t
    exact .tup (SqT.of hq) (.cons (.str _) .nil)
  | clock h b f =>
    obtain ⟨q, rfl, hq⟩ := t
    exact .tup (SqT.of hq) (.cons (.str _) (.cons (.int _) .nil))
  | rule h c b f =>
    obtain ⟨q, rfl, hq⟩ := t
    exact .tup (SqT.of hq) (.cons (.str _) (.cons (.int _) .nil))
  | fine h c b =>
    cases (show u = .non from t)
    exact .non
mutual
theorem Dp.same {K : PySem.W.Frag} {H H' : Hp} (s : Same H H') : ∀ (v : V) (d : PyData), Dp K H v d → Dp K H' v d
  | _, _, .non => .non
  | _, _, .bl b => .bl b
  | _, _, .int i => .int i
  | _, _, .str x => .str x
  | _, _, .lst h a => .lst (s.seq h) (DpAll.same s _ _ a)
  | _, _, .tup h a => .tup (sqT_same s h) (DpAll.same s _ _ a)
theorem DpAll.same {K : PySem.W.Frag} {H H' : Hp} (s : Same H H') : ∀ (vs : List V) (ds : List PyData), DpAll K H vs ds → DpAll K H' vs ds
  | _, _, .nil => .nil
  | _, _, .cons h t => .cons (Dp.same s _ _ h) (DpAll.same s _ _ t)
end
theorem DpAll.snoc {K : PySem.W.Frag} {H : Hp} {v : V} {d : PyData} (h : Dp K H v d) : ∀ (vs : List V) (ds : List PyData), DpAll K H vs ds → DpAll K H (vs ++ [v]) (ds ++ [d])
  | _, _, .nil => .cons h .nil
  | _, _, .cons g t => .cons g (DpAll.snoc h _ _ t)
theorem Row.nil {α : Type} {f : α → HO} {H : Hp} : Row f H [] [] := ⟨rfl, fun i a p h => nomatch h⟩
theorem Row.cons {α : Type} {f : α → HO} {H : Hp} {a : Addr} {p : α} {as : List Addr} {ps : List α} (h : H a = some (f p)) (r : Row f H as ps) : Row f H (a :: as) (p :: ps) := by
  refine ⟨by rw [List.length_cons, List.length_cons, r.1], fun i b q e1 e2 => ?_⟩
  match i with
  | 0 => cases e1; cases e2; exact h
  | i + 1 => exact r.2 i b q e1 e2
/-! ### the fixed network -/
def ps0 : List Pt := [("a", 0, 1), ("b", 1, 2), ("c", 0, 3)]
def rs0 : List Rl := [("a", "b", 2), ("b", "c", 1), ("c", "a", -6)]
theorem word1 {x : Str} {c : Nat} (h : x.cps.toList = [c]) (m : c ∈ LET.cps.toList) : Word x := by
  refine ⟨?_, ⟨c, [], h, m⟩, fun y hy => ?_⟩
  · show x.cps.size ≤ 12
    rw [← Array.length_toList, h]
    show 1 ≤ 12
    decide
  · rw [h] at hy
    cases List.mem_singleton.mp hy
    exact let_sgn _ m
theorem good0 : Good ps0 rs0 := by
  refine ⟨fun x m => ?_, by decide +kernel, by decide, fun r m => ?_, by decide⟩
  · simp only [ps0, List.mem_cons, List.not_mem_nil, or_false] at m
    rcases m with rfl | rfl | rfl
    · exact ⟨word1 (c := 97) (by decide +kernel) (by decide +kernel), by decide, by decide⟩
    · exact ⟨word1 (c := 98) (by decide +kernel) (by decide +kernel), by decide, by decide⟩
    · exact ⟨word1 (c := 99) (by decide +kernel) (by decide +kernel), by decide, by decide⟩
  · simp only [rs0, List.mem_cons, List.not_mem_nil, or_false] at m
    rcases m with rfl | rfl | rfl <;> decide +kernel
theorem goodN : Good [] [] := ⟨fun _ m => (nomatch m), List.nodup_nil, by decide, fun _ m => (nomatch m), by decide⟩
def vals0 : List (List V × Option (List V)) := [([.int 0, .int 3, .int 6], none), ([.int 4, .int 7, .int 9], none), ([.int 0, .int 3, .int 5], some [.str "clock", .int 2]), ([.int 0, .int 1, .int 3], some [.str "rule", .int 0]),
  ([.int 0, .int 3, .int 3], some [.str "rule", .int 1]), ([.int 1, .int 3, .int 9], some [.str "rule", .int 2]), ([.int 0, .int 3], some [.str "form"])]
def dues0 : List PyData := [.none, .none, .tuple [.str "clock", .int 2], .tuple [.str "rule", .int 0], .tuple [.str "rule", .int 1], .tuple [.str "rule", .int 2], .tuple [.str "form"]]
theorem on0 {xs : List V} {a b e : Int} (h : xs = [.int a, .int b, .int e]) (ha : onB 0 1 (.int a) = true) (hb : onB 1 2 (.int b) = true) (he : onB 0 3 (.int e) = true) : ∀ j, j < 3 → onAt ps0 xs j := by
  subst h
  intro j hj
  match j, hj with
  | 0, _ => exact ⟨_, _, rfl, rfl, ha⟩
  | 1, _ => exact ⟨_, _, rfl, rfl, hb⟩
  | 2, _ => exact ⟨_, _, rfl, rfl, he⟩
theorem row0 {a b e : Int} : rowAt ps0 [.int a, .int b, .int e] ("a", "b", 2) a b := ⟨0, 1, rfl, rfl, rfl, rfl⟩
theorem row1 {a b e : Int} : rowAt ps0 [.int a, .int b, .int e] ("b", "c", 1) b e := ⟨1, 2, rfl, rfl, rfl, rfl⟩
theorem row2 {a b e : Int} : rowAt ps0 [.int a, .int b, .int e] ("c", "a", -6) e a := ⟨2, 0, rfl, rfl, rfl, rfl⟩
theorem fine0 {a b e : Int} (ha : onB 0 1 (.int a) = true) (hb : onB 1 2 (.int b) = true) (he : onB 0 3 (.int e) = true) (h1 : a + 2 ≤ b) (h2 : b + 1 ≤ e) (h3 : e + -6 ≤ a) : Verd ps0 rs0 (some [.int a, .int b, .int e]) none := by
  refine .fine rfl (on0 rfl ha hb he) fun j hj => ?_
  match j, hj with
  | 0, _ => exact ⟨_, _, _, rfl, row0, h1⟩
  | 1, _ => exact ⟨_, _, _, rfl, row1, h2⟩
  | 2, _ => exact ⟨_, _, _, rfl, row2, h3⟩
theorem verd0 : ∀ (j : Nat) (x : List V × Option (List V)), vals0[j]? = some x → Verd ps0 rs0 (some x.1) x.2
  | 0, _, rfl => fine0 (by decide) (by decide) (by decide) (by decide) (by decide) (by decide)
  | 1, _, rfl => fine0 (by decide) (by decide) (by decide) (by decide) (by decide) (by decide)
  | 2, _, rfl => .clock (k := 2) rfl (fun j hj => match j, hj with
    | 0, _ => ⟨_, _, rfl, rfl, by decide⟩
    | 1, _ => ⟨_, _, rfl, rfl, by decide⟩) ⟨_, _, rfl, rfl, by decide⟩
  | 3, _, rfl => .rule (k := 0) rfl (on0 rfl (by decide) (by decide) (by decide)) (fun j hj => absurd hj (by omega)) ⟨_, _, _, rfl, row0, by decide⟩
  | 4, _, rfl => .rule (k := 1) rfl (on0 rfl (by decide) (by decide) (by decide)) (fun j hj => match j, hj with
    | 0, _ => ⟨_, _, _, rfl, row0, by decide⟩) ⟨_, _, _, rfl, row1, by decide⟩
  | 5, _, rfl => .rule (k := 2) rfl (on0 rfl (by decide) (by decide) (by decide)) (fun j hj => match j, hj with
    | 0, _ => ⟨_, _, _, rfl, row0, by decide⟩
    | 1, _ => ⟨_, _, _, rfl, row1, by decide⟩) ⟨_, _, _, rfl, row2, by decide⟩
  | 6, _, rfl => .form (by decide)
section
variable {P : Program} {w : World} {K : PySem.W.Frag} {mg : Str → Option Value} {base : Heap} {f C : Addr} {fd : FuncData}
theorem scLaw : FnScope ["script", "source", "lap", "net", "made", "many", "floors", "one", "table", "value", "seen", "due", "other", "points", "rules", "some", "bare", "k", "point"] ["script"] (defScope sLaw) := ⟨rfl, rfl, rfl, by decide +kernel, rfl, by decide +kernel, by decide +kernel⟩
theorem ok_law (F : Fun K "law" "law" sLaw f fd) (T : Lw mg) (mk : Mkr P w K mg base 4 C "Network" (spInit C)) (cSrc : Cb P w K mg base 1 "_law_source" (spSource K)) (cNet : Cb P w K mg base 4 "_law_net" spNet) (cP : Cb P w K mg base 1 "_law_pick" spPick) (cRis : Cb P w K mg base 3 "_law_risen" spRisen)
    (cU : Cb P w K mg base 1 "_law_up" spLUp) (cNear : Cb P w K mg base 4 "_law_near" (spNear K)) (cVe : Cb P w K mg base 3 "_law_verdict" (spVerd K)) (cJu : Cb P w K mg base 4 "judge_timetable" (spJudge K C)) (cPr : Cb P w K mg base 5 "_law_pair_right" (spPr C))
    (cLat : Cb P w K mg base 2 "later_of" (spPair C mx)) (cEar : Cb P w K mg base 2 "earlier_of" (spPair C mn)) (cSh : Cb P w K mg base 2 "shifted" (spShift C)) : FnG P w K mg base 6 f fd ["script"] (spLaw K) := by
  refine okG F scLaw (fun vs H Q E h => ?_) (fun cdv A outer s H vs Q E hg hr h => ?_)
  · obtain ⟨a, ns, rfl, _⟩ := h
    rfl
  · obtain ⟨a, ns, rfl, hS, hl, k⟩ := h
    have hu64 := hr.units
    have hu : _ + 1 < cLine := hu_of hr
    refine ⟨_, (pss_cons (ps_set (i := 1) scLaw.nd rfl (.inr rfl) (pe_k cSrc hg hr (by decide) (by rfl) (pa_cons (pv 0) pa_nil)))
      (pss_cons (ps_for PassesOwn.never rfl (pi_range1 (by rfl) T.zrange (pa_cons pe_int pa_nil)) (pg_name (i := 2) scLaw.nd rfl (.inl rfl))
        (pss_cons (ps_set (i := 3) scLaw.nd rfl (.inl rfl) (pe_k cNet hg hr (by decide) (by rfl) (pa_cons (pv 1) (pa_cons pe_int (pa_cons pe_int pa_nil)))))
        (pss_cons (ps_asg (pe_tup (pa_cons (pe_mkr mk hr (by decide) (by rfl) (pa_cons (pe_dget hu (pv 3) pe_str (fun _ _ => rfl)) (pa_cons (pe_dget hu (pv 3) pe_str (fun _ _ => rfl)) pa_nil))) (pa_cons (pe_callB call_len_seq (by rfl) T.zlen (by decide +kernel) (pa_cons (pe_dget hu (pv 3) pe_str (fun _ _ => rfl)) pa_nil)) pa_nil))) (pg_tup (by rfl) (pgs_cons (pg_name (i := 4) scLaw.nd rfl (.inr rfl)) (pgs_cons (pg_name (i := 5) scLaw.nd rfl (.inl rfl)) pgs_nil))))
        (pss_cons (ps_setLc (i := 6) (own := [("k", 17)]) rfl scLaw.nd rfl rfl (sw_true rfl rfl rfl (by decide +kernel)) (pi_range1 (by rfl) T.zrange (pa_cons (pv 5) pa_nil)) (blkOk_by (N := ["script", "source", "lap", "net", "made", "many", "floors", "one", "table", "value", "seen", "due", "other", "points", "rules", "some", "bare", "k", "point"]) (sc := defScope sLaw) (by decide +kernel)) (fun _ _ _ _ _ => (pg_name (i := 17) scLaw.nd rfl (.inl rfl))) (fun _ _ _ _ _ => pts_nil) (fun _ _ _ _ _ => (pe_op op_sub (pe_k cP hg hr (by decide) (by rfl) (pa_cons (pv 1) (pa_cons pe_int pa_nil))) pe_int)))
        (pss_cons (ps_set (i := 7) scLaw.nd rfl (.inl rfl) (pe_k cRis hg hr (by decide) (by rfl) (pa_cons (pv 3) (pa_cons (pv 6) pa_nil))))
        (pss_cons (ps_set (i := 8) scLaw.nd rfl (.inl rfl) (pe_ifExp (pt_cmpR op_notN (pv 7) pe_non (nomark _)) (pv 7) (pe_callTy call_tuple_of (by rfl) T.ztuple (by decide +kernel) (pa_cons (pe_lc (own := [("point", 18)]) (by rfl) scLaw.nd (pi_list (pe_dget hu (pv 3) pe_str (fun _ _ => rfl))) (blkOk_by (N := ["script", "source", "lap", "net", "made", "many", "floors", "one", "table", "value", "seen", "due", "other", "points", "rules", "some", "bare", "k", "point"]) (sc := defScope sLaw) (by decide +kernel)) (fun _ _ _ _ _ => (pg_name (i := 18) scLaw.nd rfl (.inl rfl))) (fun _ _ _ _ _ => pts_nil) (fun _ _ _ _ _ => (pe_k cU hg hr (by decide) (by rfl) (pa_cons (pe_tup (pa_cons (pe_ix (ix_tup : IxR _ (rIxT K)) (pv 18) pe_int (fun _ _ => rfl)) (pa_cons (pe_ix (ix_tup : IxR _ (rIxT K)) (pv 18) pe_int (fun _ _ => rfl)) pa_nil))) (pa_cons pe_int pa_nil))))) pa_nil))))
        (pss_cons (ps_for PassesOwn.never rfl (pi_list (pe_op op_cat (pe_k cNear hg hr (by decide) (by rfl) (pa_cons (pv 1) (pa_cons (pv 3) (pa_cons (pv 8) pa_nil)))) (pe_lst (pa_cons (pv 8) pa_nil)))) (pg_name (i := 9) scLaw.nd rfl (.inl rfl))
          (pss_cons (ps_par (i := 10) (j := 11) rfl scLaw.nd rfl rfl (by decide) rfl rfl (pa_cons (pe_callB (call_reprX hg hu64) (by rfl) T.zrepr (by decide +kernel) (pa_cons (pv 9) pa_nil)) (pa_cons (pe_k cVe hg hr (by decide) (by rfl) (pa_cons (pv 3) (pa_cons (pv 9) pa_nil))) pa_nil)) (by rfl))
          (pss_one (ps_if (PW.pt (pw_or (pt_cmpR op_ne (pe_callB (call_reprX hg hu64) (by rfl) T.zrepr (by decide +kernel) (pa_cons (pe_k cJu hg hr (by decide) (by rfl) (pa_cons (pv 4) (pa_cons (pv 9) pa_nil))) pa_nil)) (pe_callB (call_reprX hg hu64) (by rfl) T.zrepr (by decide +kernel) (pa_cons (pv 11) pa_nil)) (nomark _)) (pw_or1 (pt_cmpR op_ne (pe_callB (call_reprX hg hu64) (by rfl) T.zrepr (by decide +kernel) (pa_cons (pv 9) pa_nil)) (pv 10) (nomark _))))) (pss_one (ps_ret pe_bl)) pss_nil))))
        (pss_one (ps_if (pt_cmpR op_notN (pv 7) pe_non (nomark _)) (pss_cons (ps_set (i := 12) scLaw.nd rfl (.inl rfl) (pe_k cRis hg hr (by decide) (by rfl) (pa_cons (pv 3) (pa_cons (pe_lc (own := [("k", 17)]) (by rfl) scLaw.nd (pi_range1 (by rfl) T.zrange (pa_cons (pv 5) pa_nil)) (blkOk_by (N := ["script", "source", "lap", "net", "made", "many", "floors", "one", "table", "value", "seen", "due", "other", "points", "rules", "some", "bare", "k", "point"]) (sc := defScope sLaw) (by decide +kernel)) (fun _ _ _ _ _ => (pg_name (i := 17) scLaw.nd rfl (.inl rfl))) (fun _ _ _ _ _ => pts_nil) (fun _ _ _ _ _ => (pe_op op_sub (pe_k cP hg hr (by decide) (by rfl) (pa_cons (pv 1) (pa_cons pe_int pa_nil))) pe_int))) pa_nil))))
          (pss_one (ps_if (pt_not (pt_val (pe_k cPr hg hr (by decide) (by rfl) (pa_cons (pv 1) (pa_cons (pv 3) (pa_cons (pv 4) (pa_cons (pv 7) (pa_cons (pv 12) pa_nil)))))))) (pss_one (ps_ret pe_bl)) pss_nil))) pss_nil)))))))))
      (pss_cons (ps_par (i := 13) (j := 14) rfl scLaw.nd rfl rfl (by decide) rfl rfl (pa_cons (pe_lst (pa_cons (pe_tup (pa_cons pe_str (pa_cons pe_int (pa_cons pe_int pa_nil)))) (pa_cons (pe_tup (pa_cons pe_str (pa_cons pe_int (pa_cons pe_int pa_nil)))) (pa_cons (pe_tup (pa_cons pe_str (pa_cons pe_int (pa_cons pe_int pa_nil)))) pa_nil)))) (pa_cons (pe_lst (pa_cons (pe_tup (pa_cons pe_str (pa_cons pe_str (pa_cons pe_int pa_nil)))) (pa_cons (pe_tup (pa_cons pe_str (pa_cons pe_str (pa_cons pe_int pa_nil)))) (pa_cons (pe_tup (pa_cons pe_str (pa_cons pe_str (pa_cons (pe_un un_neg pe_int) pa_nil)))) pa_nil)))) pa_nil)) (by rfl))
      (pss_cons (ps_set (i := 4) scLaw.nd rfl (.inr rfl) (pe_mkr mk hr (by decide) (by rfl) (pa_cons (pv 13) (pa_cons (pv 14) pa_nil))))
      (pss_cons (ps_set (i := 15) scLaw.nd rfl (.inl rfl) (pe_lst (pa_cons (pe_tup (pa_cons pe_int (pa_cons pe_int (pa_cons pe_int pa_nil)))) (pa_cons (pe_lst (pa_cons pe_int (pa_cons pe_int (pa_cons pe_int pa_nil)))) (pa_cons (pe_tup (pa_cons pe_int (pa_cons pe_int (pa_cons pe_int pa_nil)))) (pa_cons (pe_tup (pa_cons pe_int (pa_cons pe_int (pa_cons pe_int pa_nil)))) (pa_cons (pe_tup (pa_cons pe_int (pa_cons pe_int (pa_cons pe_int pa_nil)))) (pa_cons (pe_tup (pa_cons pe_int (pa_cons pe_int (pa_cons pe_int pa_nil)))) (pa_cons (pe_tup (pa_cons pe_int (pa_cons pe_int pa_nil))) pa_nil)))))))))
      (pss_cons (ps_set (i := 11) scLaw.nd rfl (.inl rfl) (pe_lst (pa_cons pe_non (pa_cons pe_non (pa_cons (pe_tup (pa_cons pe_str (pa_cons pe_int pa_nil))) (pa_cons (pe_tup (pa_cons pe_str (pa_cons pe_int pa_nil))) (pa_cons (pe_tup (pa_cons pe_str (pa_cons pe_int pa_nil))) (pa_cons (pe_tup (pa_cons pe_str (pa_cons pe_int pa_nil))) (pa_cons (pe_tup (pa_cons pe_str pa_nil)) pa_nil)))))))))
      (pss_cons (ps_set (i := 16) scLaw.nd rfl (.inl rfl) (pe_mkr mk hr (by decide) (by rfl) (pa_cons (pe_lst pa_nil) (pa_cons (pe_lst pa_nil) pa_nil))))
      (pss_cons (ps_if (pt_cmpR (op_neD hu64) (pe_lst (pa_cons (pe_k cLat hg hr (by decide) (by rfl) (pa_cons (pv 16) (pa_cons (pe_tup pa_nil) (pa_cons (pe_tup pa_nil) pa_nil)))) (pa_cons (pe_k cEar hg hr (by decide) (by rfl) (pa_cons (pv 16) (pa_cons (pe_tup pa_nil) (pa_cons (pe_tup pa_nil) pa_nil)))) (pa_cons (pe_k cSh hg hr (by decide) (by rfl) (pa_cons (pv 16) (pa_cons (pe_tup pa_nil) (pa_cons pe_int pa_nil)))) pa_nil)))) (pe_lst (pa_cons (pe_tup pa_nil) (pa_cons (pe_tup pa_nil) (pa_cons (pe_tup pa_nil) pa_nil)))) (nomark _)) (pss_one (ps_ret pe_bl)) pss_nil)
      (pss_one (ps_ret (pe_and (pe_cmpR (op_eqD hu64) (pe_lc (own := [("value", 9)]) (by rfl) scLaw.nd (pi_list (pv 15)) (blkOk_by (N := ["script", "source", "lap", "net", "made", "many", "floors", "one", "table", "value", "seen", "due", "other", "points", "rules", "some", "bare", "k", "point"]) (sc := defScope sLaw) (by decide +kernel)) (fun _ _ _ _ _ => (pg_name (i := 9) scLaw.nd rfl (.inl rfl))) (fun _ _ _ _ _ => pts_nil) (fun _ _ _ _ _ => (pe_k cJu hg hr (by decide) (by rfl) (pa_cons (pv 4) (pa_cons (pv 9) pa_nil))))) (pv 11) (nomark _)) (pe_one (pe_cmpR op_isN (pe_k cJu hg hr (by decide) (by rfl) (pa_cons (pv 16) (pa_cons (pe_tup pa_nil) pa_nil))) pe_non (nomark _)))))))))))))), ?_⟩
    refine ⟨_, rfl, a, ns, rfl, hS, hl, fun d c H0 nd nc S0 s0 => ?_⟩
    refine ⟨5, rfl, by decide, by decide, ?_⟩
    refine for_range (lo := 0) (fun i σ H1 => ∃ (v2 v3 v4 v5 v6 v7 v8 v9 v10 v11 v12 v13 v14 v15 v16 v17 v18 : Option V), σ = [some (.ref a), some (.ref d), v2, v3, v4, v5, v6, v7, v8, v9, v10, v11, v12, v13, v14, v15, v16, v17, v18] ∧ Src H1 d c)
      ⟨_, _, _, _, _, _, _, _, _, _, _, _, _, _, _, _, _, rfl, S0⟩ ?_ ?_
    · rintro i σ H1 hi ⟨v2, v3, v4, v5, v6, v7, v8, v9, v10, v11, v12, v13, v14, v15, v16, v17, v18, rfl, S1⟩
      -- net
      refine ⟨_, rfl, d, c, 6, 9, rfl, S1, by decide, by decide, by decide, fun n ps rs H2 net dr S2 k2 => ?_⟩
      obtain ⟨PA, RA, as, bs, h1, h2, h3, h4, h5⟩ := net.ex
      have few6 : ps.length ≤ 6 := dr.pm
      -- made, many
      refine ⟨_, rfl, n, _, rfl, get_pts (mask_same _ _ h1), _, rfl, n, _, rfl, get_rls (mask_same _ _ h1), fun x dx nx ndx ne => ?_⟩
      have sm : Same H2 (upd (upd H2 dx (.own x)) x (.ins C dx [])) := (same_new ndx).trans (same_new (by rw [upd_ne ne.symm]; exact nx))
      refine ⟨x, dx, PA, RA, as, bs, ps, rs, rfl, upd_same, sm _ _ (mask_same _ _ h2), sm _ _ (mask_same _ _ h3), (h4.same mask_same).same sm, (h5.same mask_same).same sm, dr.good, fun H3 b3 mad => ⟨rfl, ?_⟩⟩
      have s3 : Same H2 H3 := fun y u e => b3 y u (sm _ _ e) (ne_of_none e nx)
      have S3 := S2.same s3
      have mad3 := mad.mask S3 dr.p0
      have net3 : LNet (mask d c H3) n ps rs := net.same (mask_keep fun b o e _ _ => s3 b o e)
      have lz : (as.map V.ref).length = ps.length := by rw [List.length_map, h4.1]
      refine ⟨_, rfl, n, _, rfl, get_pts (s3 _ _ (mask_same _ _ h1)), PA, _, rfl, .inl (SqL.of (s3 _ _ (mask_same _ _ h2))), ?_⟩
      rw [lz]
      refine ⟨(by show 2 ≤ sizeLine; decide), fun tp ntp => ?_⟩
      refine ⟨tp, _, rfl, SqT.of upd_same, rfl, _, _, rfl, _, _, rfl, rfl, ?_⟩
      have S4 := S3.new (o := .tup [.ref x, .int (ps.length : Nat)]) ntp
      have g4 := mask_new (d := d) (c := c) (o := .tup [.ref x, .int (ps.length : Nat)]) ntp
      revert S4 g4
      generalize upd H3 tp (.tup [.ref x, .int (ps.length : Nat)]) = H4
      intro S4 g4
      have net4 := net3.same g4
      have mad4 := mad3.same g4
      clear h1 h2 h3 h4 h5 sm mad mad3 net3 net
      -- floors
      refine ⟨_, rfl, ((ps.length : Nat) : Int), rfl, by omega, by omega, fun D nD => ?_⟩
      have aD := S4.away nD
      refine lc_range (lo := 0) (fun j H5 => Keep d c H4 H5 ∧ Src H5 d c ∧ ∃ fs : List Int, mask d c H5 D = some (.lst (fs.map V.int)) ∧ fs.length = j ∧ ∀ y, y ∈ fs → -100 ≤ y ∧ y ≤ 100) ⟨Keep.refl.new nD, S4.new nD, [], mask_at aD upd_same, rfl, fun y h => nomatch h⟩ ?_ ?_
      · rintro j H5 hj ⟨k5, S5, fs, hD, rfl, bf⟩
        refine ⟨rfl, _, rfl, d, c, _, rfl, S5, by decide, fun r H6 r0 r1 S6 k6 => ?_⟩
        refine ⟨_, _, rfl, rfl, _, mask_same _ _ (mask_keep k6 _ _ hD), small1000 (by rw [List.length_map]; omega), (k5.trans k6).put nD, S6.put aD, fs ++ [r - 30], mask_at aD ?_, by rw [List.length_append]; rfl, ?_⟩
        · rw [upd_same, List.map_append]
          rfl
        · intro y hy
          rcases List.mem_append.mp hy with h | h
          · exact bf y h
          · cases List.mem_singleton.mp h
            omega
      · rintro H5 ⟨k5, S5, fs, hD, lf, bf⟩
        have lf : fs.length = ps.length := by omega
        have g5 := mask_keep k5
        have net5 := net4.same g5
        have mad5 := mad4.same g5
        -- one
        refine ⟨_, rfl, _, rfl, n, D, ps, rs, fs, 6, 9, rfl, net5.same mask_same, dr, by decide, by decide, mask_same _ _ hD, lf, bf, fun v7 H6 s6 h7 => ?_⟩
        have S6 := S5.same s6
        have g6 : Same (mask d c H5) (mask d c H6) := mask_keep fun b o e _ _ => s6 b o e
        have net6 := net5.same g6
        have mad6 := mad5.same g6
        -- table
        refine ⟨_, rfl, rfl, _, rfl, ?_⟩
        refine (fun (fin : ∀ (vt : V) (tb : Addr) (xs : List Int) (H8 : Hp), vt = .ref tb → Src H8 d c → Keep d c H6 H8 → mask d c H8 tb = some (.tup (xs.map V.int)) → xs.length = ps.length → TabI xs → (?TT : V → Hp → Prop) vt H8) => ?main) ?after
        case main =>
          rcases h7 with ⟨e7, _⟩ | ⟨t, xs, e7, ht, tab⟩
          · rw [show (!decide (v7 = V.non)) = false by rw [e7]; rfl]
            refine iteF ?_
            obtain ⟨PA', RA', as', bs', q1, q2, q3, q4, q5⟩ := net6.ex
            refine ⟨_, rfl, n, _, rfl, get_pts (mask_same _ _ q1), PA', rfl, ⟨_, SqL.of (mask_same _ _ q2)⟩, fun E nE => ?_⟩
            refine lc_it walk_list (fun j H7 => Same H6 H7 ∧ ∃ xs : List Int, H7 E = some (.lst (xs.map V.int)) ∧ xs.length = j ∧ ∀ y, y ∈ xs → -200 ≤ y ∧ y ≤ 200) ⟨same_new nE, [], upd_same, rfl, fun y h => nomatch h⟩ (fun j H7 _ z => SqL.of (z.1 _ _ (mask_same _ _ q2))) ?_ ?_
            · rintro j y H7 H8 hj ⟨s7, xs, hE, rfl, bx⟩ ⟨rfl, hy⟩
              have hja : xs.length < as'.length := by rw [List.length_map] at hj; exact hj
              have hjp : xs.length < ps.length := by rw [← q4.1]; exact hja
              obtain rfl : V.ref as'[xs.length] = y := by
                rw [List.getElem?_map, List.getElem?_eq_getElem hja] at hy
                exact Option.some.inj hy
              have pa : H8 as'[xs.length] = some (.tup [.str ps[xs.length].1, .int ps[xs.length].2.1, .int ps[xs.length].2.2]) := s7 _ _ (mask_same _ _ (q4.2 _ _ _ (List.getElem?_eq_getElem hja) (List.getElem?_eq_getElem hjp)))
              have pd := dr.pt _ (List.getElem_mem hjp)
              have st0 : 0 < ps[xs.length].2.2 := by have := pd.s1; omega
              have st12 := pd.s12
              have pl := pd.f1
              have ph := pd.f2
              refine ⟨rfl, _, rfl, as'[xs.length], _, 1, _, rfl, rfl, SqT.of pa, rfl, _, rfl, as'[xs.length], _, 2, _, rfl, rfl, SqT.of pa, rfl, (by show 2 ≤ sizeLine; decide), fun tc ntc => ?_⟩
              have u1 := upv_le (f := ps[xs.length].2.1) (x := 0) st0
              have u2 := upv_lt (f := ps[xs.length].2.1) (x := 0) st0
              have s8 := same_new (o := .tup [.int ps[xs.length].2.1, .int ps[xs.length].2.2]) ntc
              refine ⟨tc, _, _, 0, rfl, upd_same, st0, by omega, _, s8 _ _ hE, small1000 (by rw [List.length_map]; omega), fun b o z => by rw [upd_ne (ne_of_none z nE)]; exact (s7.trans s8) b o z, xs ++ [upv ps[xs.length].2.1 ps[xs.length].2.2 0], ?_, by rw [List.length_append]; rfl, ?_⟩
              · rw [upd_same, List.map_append]
                rfl
              · intro y hy
                rcases List.mem_append.mp hy with h | h
                · exact bx y h
                · cases List.mem_singleton.mp h
                  omega
            · rintro H7 ⟨s7, xs, hE, lx, bx⟩
              refine ⟨E, _, rfl, .inl ⟨SqL.of hE, fun tt ntt => ?_⟩⟩
              have S7 := S6.same s7
              have S8 := S7.new (o := .tup (xs.map V.int)) ntt
              have k8 := (Keep.refl (d := d) (c := c) |>.trans fun b o e _ _ => s7 b o e).new (o := .tup (xs.map V.int)) ntt
              have m8 := mask_at (d := d) (c := c) (S7.away ntt) (upd_same (H := H7) (a := tt) (o := .tup (xs.map V.int)))
              revert S8 k8 m8
              generalize upd H7 tt (.tup (xs.map V.int)) = H8
              intro S8 k8 m8
              obtain ⟨vt, evt⟩ : ∃ vt, vt = V.ref tt := ⟨_, rfl⟩
              rw [← evt]
              exact fin vt tt xs H8 evt S8 k8 m8 (by rw [lx, List.length_map]; exact q4.1) (fun y hy => by have := bx y hy; omega)
          · rw [show (!decide (v7 = V.non)) = true by rw [e7]; rfl]
            refine iteT ?_
            exact ⟨_, rfl, fin v7 t xs H6 e7 S6 Keep.refl (mask_at (S6.nd ht) ht) tab.len (fun y hy => by have := tab.lo y hy; have := tab.hi y hy; omega)⟩
        case after =>
          intro vt tb xs H8 e8 S8 k8 htb lx big
          subst e8
          have g8 := mask_keep k8
          have net8 := net6.same g8
          have mad8 := mad6.same g8
          -- values
          refine ⟨_, rfl, _, rfl, _, rfl, d, c, n, tb, ps, rs, xs, rfl, S8, net8, dr.p0, few6, dr.pt, htb, lx, big, fun L vals H9 mL lv okv S9 k9 => ?_⟩
          have g9 := mask_keep k9
          refine ⟨_, rfl, (by show 1 ≤ sizeLine; decide), fun l1 nl1 => ?_⟩
          have S10 := S9.new (o := .lst [.ref tb]) nl1
          have g10 := mask_new (d := d) (c := c) (o := .lst [.ref tb]) nl1
          refine ⟨L, l1, vals, _, rfl, rfl, mask_same _ _ (g10 _ _ mL), upd_same, by show _ + 1 ≤ sizeLine; exact Nat.le_trans (by omega : _ ≤ 101) (by decide), fun L2 nL2 => ?_⟩
          refine ⟨L2, rfl, ⟨_, SqL.of upd_same⟩, ?_⟩
          have S11 := S10.new (o := .lst (vals ++ [.ref tb])) nL2
          have g11 := g10.trans (mask_new (d := d) (c := c) (o := .lst (vals ++ [.ref tb])) nL2)
          have hL2 := upd_same (H := upd H9 l1 (.lst [.ref tb])) (a := L2) (o := .lst (vals ++ [.ref tb]))
          revert S11 g11 hL2
          generalize upd (upd H9 l1 (.lst [.ref tb])) L2 (.lst (vals ++ [.ref tb])) = H11
          intro S11 g11 hL2
          have g811 := g9.trans g11
          have net11 := net8.same g811
          have mad11 := mad8.same g811
          have okw : ∀ v, v ∈ vals ++ [V.ref tb] → Vl K (mask d c H11) v := fun v hv => by
            rcases List.mem_append.mp hv with h | h
            · exact (okv v h).same g11
            · cases List.mem_singleton.mp h
              exact vl_tup (g811 _ _ htb) (its_ints big) (by rw [List.length_map]; omega)
          revert okw hL2
          generalize vals ++ [V.ref tb] = ws
          intro hL2 okw
          refine for_it walk_list (fun j σ H12 => ∃ (w9 w10 w11 w12 w13 w14 w15 w16 w17 w18 : Option V), σ = [some (.ref a), some (.ref d), some (.int (0 + (i : Int))), some (.ref n), some (.ref x), some (.int (ps.length : Nat)), some (.ref D), some v7, some (.ref tb), w9, w10, w11, w12, w13, w14, w15, w16, w17, w18] ∧ Same H11 H12)
            ⟨_, _, _, _, _, _, _, _, _, _, rfl, Same.refl _⟩ (fun j σ H12 _ ⟨_, _, _, _, _, _, _, _, _, _, _, s⟩ => SqL.of (s _ _ hL2)) ?_ ?_
          · rintro j y σ H12 H12b hj ⟨w9, w10, w11, w12, w13, w14, w15, w16, w17, w18, rfl, s12⟩ ⟨rfl, hy⟩
            obtain ⟨xo, dd, jd, dx0, nice⟩ := ((okw y (List.mem_of_getElem? hy)).same mask_same).same s12
            refine ⟨_, rfl, _, _, rfl, dx0, nice.one.1, nice.one.2.1, nice.one.2.2, ?_⟩
            refine ⟨_, rfl, _, rfl, n, y, ps, rs, xo, rfl, (net11.same mask_same).same s12, dr.good, jd, fun u r H13 vd tells s13 => ⟨_, _, rfl, ?_⟩⟩
            refine ⟨_, rfl, _, rfl, x, y, ps, rs, xo, rfl, (mad11.same mask_same).same (s12.trans s13), dr.good, jd.same s13, fun u2 r2 H14 vd2 tells2 s14 => ?_⟩
            cases verd_uniq dr.good.nd vd vd2
            obtain ⟨q1, nc1⟩ := tells_dx (K := K) dr.good vd tells
            obtain ⟨q2, _⟩ := tells_dx (K := K) dr.good vd tells2
            refine ⟨_, _, rfl, q2, nc1.one.1, nc1.one.2.1, nc1.one.2.2, ?_⟩
            refine ⟨_, rfl, _, _, rfl, Dx.same s14 _ _ q1, nc1.one.1, nc1.one.2.1, nc1.one.2.2, rfl, false, by rw [decide_eq_true rfl]; rfl, iteF ?_⟩
            refine ⟨_, rfl, _, _, rfl, Dx.same (s13.trans s14) _ _ dx0, nice.one.1, nice.one.2.1, nice.one.2.2, _, rfl, rfl, false, by rw [decide_eq_true rfl]; rfl, iteF ?_⟩
            exact ⟨_, _, _, _, _, _, _, _, _, _, rfl, (s12.trans s13).trans s14⟩
          · rintro σ H12 ⟨w9, w10, w11, w12, w13, w14, w15, w16, w17, w18, rfl, s12⟩
            have S12 := S11.same s12
            have g12 : Same (mask d c H11) (mask d c H12) := mask_keep fun b o e _ _ => s12 b o e
            have net12 := net11.same g12
            have mad12 := mad11.same g12
            -- if one is not None
            refine ⟨_, rfl, rfl, _, rfl, ?_⟩
            rcases h7 with ⟨e7, _⟩ | ⟨t, zs, e7, ht, tab⟩
            · rw [show (!decide (v7 = V.non)) = false by rw [e7]; rfl]
              exact iteF ⟨_, _, _, _, _, _, _, _, _, _, _, _, _, _, _, _, _, rfl, S12⟩
            · rw [show (!decide (v7 = V.non)) = true by rw [e7]; rfl]
              refine iteT ?_
              have ht12 := (g8.trans (g811.trans g12)) _ _ (mask_at (S6.nd ht) ht)
              refine ⟨_, rfl, _, rfl, ((ps.length : Nat) : Int), rfl, by omega, by omega, fun D2 nD2 => ?_⟩
              have aD2 := S12.away nD2
              refine lc_range (lo := 0) (fun j H5 => Keep d c H12 H5 ∧ Src H5 d c ∧ ∃ fs : List Int, mask d c H5 D2 = some (.lst (fs.map V.int)) ∧ fs.length = j ∧ ∀ y, y ∈ fs → -100 ≤ y ∧ y ≤ 100) ⟨Keep.refl.new nD2, S12.new nD2, [], mask_at aD2 upd_same, rfl, fun y h => nomatch h⟩ ?_ ?_
              · rintro j H5 hj ⟨k5, S5, fs, hD, rfl, bf⟩
                refine ⟨rfl, _, rfl, d, c, _, rfl, S5, by decide, fun r H6 r0 r1 S6 k6 => ?_⟩
                refine ⟨_, _, rfl, rfl, _, mask_same _ _ (mask_keep k6 _ _ hD), small1000 (by rw [List.length_map]; omega), (k5.trans k6).put nD2, S6.put aD2, fs ++ [r - 30], mask_at aD2 ?_, by rw [List.length_append]; rfl, ?_⟩
                · rw [upd_same, List.map_append]
                  rfl
                · intro y hy
                  rcases List.mem_append.mp hy with h | h
                  · exact bf y h
                  · cases List.mem_singleton.mp h
                    omega
              · rintro H13 ⟨k13, S13, fs2, hD2, lf2, bf2⟩
                have lf2 : fs2.length = ps.length := by omega
                have g13 := mask_keep k13
                have net13 := net12.same g13
                refine ⟨n, D2, ps, rs, fs2, 6, 9, rfl, net13.same mask_same, dr, by decide, by decide, mask_same _ _ hD2, lf2, bf2, fun v12 H14 s14 h12 => ?_⟩
                obtain ⟨t2, ys, rfl, ht2, tab2⟩ := h12.resolve_left (fun z => z.2 ⟨zs, tab⟩)
                subst e7
                have S14 := S13.same s14
                have g14 : Same (mask d c H13) (mask d c H14) := mask_keep fun b o e _ _ => s14 b o e
                refine ⟨_, rfl, _, rfl, _, rfl, _, rfl, _, rfl, d, c, n, x, t, t2, ps, rs, zs, ys, 6, 9, rfl, S14, net13.same g14, dr, few6, mad12.same (g13.trans g14), (g13.trans g14) _ _ ht12, mask_at (S14.nd ht2) ht2, tab, tab2, fun H15 S15 k15 => ?_⟩
                refine ⟨true, rfl, iteF ?_⟩
                exact ⟨_, _, _, _, _, _, _, _, _, _, _, _, _, _, _, _, _, rfl, S15⟩
    · rintro σ H1 ⟨v2, v3, v4, v5, v6, v7, v8, v9, v10, v11, v12, v13, v14, v15, v16, v17, v18, rfl, S1⟩
      refine ⟨(by show 3 ≤ sizeLine; decide), fun p1 np1 => ?_⟩
      have sp1 := same_new (H := H1) (o := .tup [.str "a", .int 0, .int 1]) np1
      have hp1 := upd_same (H := H1) (a := p1) (o := .tup [.str "a", .int 0, .int 1])
      revert sp1 hp1 
      generalize upd H1 p1 (.tup [.str "a", .int 0, .int 1]) = G0
      intro sp1 hp1 
      refine ⟨(by show 3 ≤ sizeLine; decide), fun p2 np2 => ?_⟩
      have sp2 := same_new (H := G0) (o := .tup [.str "b", .int 1, .int 2]) np2
      have hp2 := upd_same (H := G0) (a := p2) (o := .tup [.str "b", .int 1, .int 2])
      have hp1 := sp2 _ _ hp1
      revert sp2 hp2 hp1
      generalize upd G0 p2 (.tup [.str "b", .int 1, .int 2]) = G1
      intro sp2 hp2 hp1
      refine ⟨(by show 3 ≤ sizeLine; decide), fun p3 np3 => ?_⟩
      have sp3 := same_new (H := G1) (o := .tup [.str "c", .int 0, .int 3]) np3
      have hp3 := upd_same (H := G1) (a := p3) (o := .tup [.str "c", .int 0, .int 3])
      have hp1 := sp3 _ _ hp1
      have hp2 := sp3 _ _ hp2
      revert sp3 hp3 hp1 hp2
      generalize upd G1 p3 (.tup [.str "c", .int 0, .int 3]) = G2
      intro sp3 hp3 hp1 hp2
      refine ⟨(by show 3 ≤ sizeLine; decide), fun PL nPL => ?_⟩
      have sPL := same_new (H := G2) (o := .lst [.ref p1, .ref p2, .ref p3]) nPL
      have hPL := upd_same (H := G2) (a := PL) (o := .lst [.ref p1, .ref p2, .ref p3])
      have hp1 := sPL _ _ hp1
      have hp2 := sPL _ _ hp2
      have hp3 := sPL _ _ hp3
      revert sPL hPL hp1 hp2 hp3
      generalize upd G2 PL (.lst [.ref p1, .ref p2, .ref p3]) = G3
      intro sPL hPL hp1 hp2 hp3
      refine ⟨(by show 3 ≤ sizeLine; decide), fun r1 nr1 => ?_⟩
      have sr1 := same_new (H := G3) (o := .tup [.str "a", .str "b", .int 2]) nr1
      have hr1 := upd_same (H := G3) (a := r1) (o := .tup [.str "a", .str "b", .int 2])
      have hp1 := sr1 _ _ hp1
      have hp2 := sr1 _ _ hp2
      have hp3 := sr1 _ _ hp3
      have hPL := sr1 _ _ hPL
      revert sr1 hr1 hp1 hp2 hp3 hPL
      generalize upd G3 r1 (.tup [.str "a", .str "b", .int 2]) = G4
      intro sr1 hr1 hp1 hp2 hp3 hPL
      refine ⟨(by show 3 ≤ sizeLine; decide), fun r2 nr2 => ?_⟩
      have sr2 := same_new (H := G4) (o := .tup [.str "b", .str "c", .int 1]) nr2
      have hr2 := upd_same (H := G4) (a := r2) (o := .tup [.str "b", .str "c", .int 1])
      have hp1 := sr2 _ _ hp1
      have hp2 := sr2 _ _ hp2
      have hp3 := sr2 _ _ hp3
      have hPL := sr2 _ _ hPL
      have hr1 := sr2 _ _ hr1
      revert sr2 hr2 hp1 hp2 hp3 hPL hr1
      generalize upd G4 r2 (.tup [.str "b", .str "c", .int 1]) = G5
      intro sr2 hr2 hp1 hp2 hp3 hPL hr1
      refine ⟨6, rfl, ?_⟩
      refine ⟨(by show 3 ≤ sizeLine; decide), fun r3 nr3 => ?_⟩
      have sr3 := same_new (H := G5) (o := .tup [.str "c", .str "a", .int (-6)]) nr3
      have hr3 := upd_same (H := G5) (a := r3) (o := .tup [.str "c", .str "a", .int (-6)])
      have hp1 := sr3 _ _ hp1
      have hp2 := sr3 _ _ hp2
      have hp3 := sr3 _ _ hp3
      have hPL := sr3 _ _ hPL
      have hr1 := sr3 _ _ hr1
      have hr2 := sr3 _ _ hr2
      revert sr3 hr3 hp1 hp2 hp3 hPL hr1 hr2
      generalize upd G5 r3 (.tup [.str "c", .str "a", .int (-6)]) = G6
      intro sr3 hr3 hp1 hp2 hp3 hPL hr1 hr2
      refine ⟨(by show 3 ≤ sizeLine; decide), fun RL nRL => ?_⟩
      have sRL := same_new (H := G6) (o := .lst [.ref r1, .ref r2, .ref r3]) nRL
      have hRL := upd_same (H := G6) (a := RL) (o := .lst [.ref r1, .ref r2, .ref r3])
      have hp1 := sRL _ _ hp1
      have hp2 := sRL _ _ hp2
      have hp3 := sRL _ _ hp3
      have hPL := sRL _ _ hPL
      have hr1 := sRL _ _ hr1
      have hr2 := sRL _ _ hr2
      have hr3 := sRL _ _ hr3
      revert sRL hRL hp1 hp2 hp3 hPL hr1 hr2 hr3
      generalize upd G6 RL (.lst [.ref r1, .ref r2, .ref r3]) = G7
      intro sRL hRL hp1 hp2 hp3 hPL hr1 hr2 hr3
      refine ⟨_, _, rfl, ?_⟩
      refine ⟨_, rfl, _, rfl, fun x dx nx ndx ne => ?_⟩
      have sm : Same G7 (upd (upd G7 dx (.own x)) x (.ins C dx [])) := (same_new ndx).trans (same_new (by rw [upd_ne ne.symm]; exact nx))
      refine ⟨x, dx, PL, RL, [p1, p2, p3], [r1, r2, r3], ps0, rs0, rfl, upd_same, sm _ _ hPL, sm _ _ hRL, .cons (sm _ _ hp1) (.cons (sm _ _ hp2) (.cons (sm _ _ hp3) .nil)), .cons (sm _ _ hr1) (.cons (sm _ _ hr2) (.cons (sm _ _ hr3) .nil)), good0, fun M0 b3 mad => ⟨rfl, ?_⟩⟩
      clear hp1 hp2 hp3 hPL hr1 hr2 hr3 hRL sm
      refine ⟨(by show 3 ≤ sizeLine; decide), fun q0 nq0 => ?_⟩
      have sq0 := same_new (H := M0) (o := .tup [.int 0, .int 3, .int 6]) nq0
      have hq0 := upd_same (H := M0) (a := q0) (o := .tup [.int 0, .int 3, .int 6])
      revert sq0 hq0 
      generalize upd M0 q0 (.tup [.int 0, .int 3, .int 6]) = G8
      intro sq0 hq0 
      have mad := mad.same sq0
      refine ⟨(by show 3 ≤ sizeLine; decide), fun q1 nq1 => ?_⟩
      have sq1 := same_new (H := G8) (o := .lst [.int 4, .int 7, .int 9]) nq1
      have hq1 := upd_same (H := G8) (a := q1) (o := .lst [.int 4, .int 7, .int 9])
      have hq0 := sq1 _ _ hq0
      revert sq1 hq1 hq0
      generalize upd G8 q1 (.lst [.int 4, .int 7, .int 9]) = G9
      intro sq1 hq1 hq0
      have mad := mad.same sq1
      refine ⟨(by show 3 ≤ sizeLine; decide), fun q2 nq2 => ?_⟩
      have sq2 := same_new (H := G9) (o := .tup [.int 0, .int 3, .int 5]) nq2
      have hq2 := upd_same (H := G9) (a := q2) (o := .tup [.int 0, .int 3, .int 5])
      have hq0 := sq2 _ _ hq0
      have hq1 := sq2 _ _ hq1
      revert sq2 hq2 hq0 hq1
      generalize upd G9 q2 (.tup [.int 0, .int 3, .int 5]) = G10
      intro sq2 hq2 hq0 hq1
      have mad := mad.same sq2
      refine ⟨(by show 3 ≤ sizeLine; decide), fun q3 nq3 => ?_⟩
      have sq3 := same_new (H := G10) (o := .tup [.int 0, .int 1, .int 3]) nq3
      have hq3 := upd_same (H := G10) (a := q3) (o := .tup [.int 0, .int 1, .int 3])
      have hq0 := sq3 _ _ hq0
      have hq1 := sq3 _ _ hq1
      have hq2 := sq3 _ _ hq2
      revert sq3 hq3 hq0 hq1 hq2
      generalize upd G10 q3 (.tup [.int 0, .int 1, .int 3]) = G11
      intro sq3 hq3 hq0 hq1 hq2
      have mad := mad.same sq3
      refine ⟨(by show 3 ≤ sizeLine; decide), fun q4 nq4 => ?_⟩
      have sq4 := same_new (H := G11) (o := .tup [.int 0, .int 3, .int 3]) nq4
      have hq4 := upd_same (H := G11) (a := q4) (o := .tup [.int 0, .int 3, .int 3])
      have hq0 := sq4 _ _ hq0
      have hq1 := sq4 _ _ hq1
      have hq2 := sq4 _ _ hq2
      have hq3 := sq4 _ _ hq3
      revert sq4 hq4 hq0 hq1 hq2 hq3
      generalize upd G11 q4 (.tup [.int 0, .int 3, .int 3]) = G12
      intro sq4 hq4 hq0 hq1 hq2 hq3
      have mad := mad.same sq4
      refine ⟨(by show 3 ≤ sizeLine; decide), fun q5 nq5 => ?_⟩
      have sq5 := same_new (H := G12) (o := .tup [.int 1, .int 3, .int 9]) nq5
      have hq5 := upd_same (H := G12) (a := q5) (o := .tup [.int 1, .int 3, .int 9])
      have hq0 := sq5 _ _ hq0
      have hq1 := sq5 _ _ hq1
      have hq2 := sq5 _ _ hq2
      have hq3 := sq5 _ _ hq3
      have hq4 := sq5 _ _ hq4
      revert sq5 hq5 hq0 hq1 hq2 hq3 hq4
      generalize upd G12 q5 (.tup [.int 1, .int 3, .int 9]) = G13
      intro sq5 hq5 hq0 hq1 hq2 hq3 hq4
      have mad := mad.same sq5
      refine ⟨(by show 2 ≤ sizeLine; decide), fun q6 nq6 => ?_⟩
      have sq6 := same_new (H := G13) (o := .tup [.int 0, .int 3]) nq6
      have hq6 := upd_same (H := G13) (a := q6) (o := .tup [.int 0, .int 3])
      have hq0 := sq6 _ _ hq0
      have hq1 := sq6 _ _ hq1
      have hq2 := sq6 _ _ hq2
      have hq3 := sq6 _ _ hq3
      have hq4 := sq6 _ _ hq4
      have hq5 := sq6 _ _ hq5
      revert sq6 hq6 hq0 hq1 hq2 hq3 hq4 hq5
      generalize upd G13 q6 (.tup [.int 0, .int 3]) = G14
      intro sq6 hq6 hq0 hq1 hq2 hq3 hq4 hq5
      have mad := mad.same sq6
      refine ⟨(by show 7 ≤ sizeLine; decide), fun SL nSL => ?_⟩
      have sSL := same_new (H := G14) (o := .lst [.ref q0, .ref q1, .ref q2, .ref q3, .ref q4, .ref q5, .ref q6]) nSL
      have hSL := upd_same (H := G14) (a := SL) (o := .lst [.ref q0, .ref q1, .ref q2, .ref q3, .ref q4, .ref q5, .ref q6])
      have hq0 := sSL _ _ hq0
      have hq1 := sSL _ _ hq1
      have hq2 := sSL _ _ hq2
      have hq3 := sSL _ _ hq3
      have hq4 := sSL _ _ hq4
      have hq5 := sSL _ _ hq5
      have hq6 := sSL _ _ hq6
      revert sSL hSL hq0 hq1 hq2 hq3 hq4 hq5 hq6
      generalize upd G14 SL (.lst [.ref q0, .ref q1, .ref q2, .ref q3, .ref q4, .ref q5, .ref q6]) = G15
      intro sSL hSL hq0 hq1 hq2 hq3 hq4 hq5 hq6
      have mad := mad.same sSL
      skip
      refine ⟨(by show 2 ≤ sizeLine; decide), fun u0 nu0 => ?_⟩
      have su0 := same_new (H := G15) (o := .tup [.str "clock", .int 2]) nu0
      have hu0 := upd_same (H := G15) (a := u0) (o := .tup [.str "clock", .int 2])
      have hq0 := su0 _ _ hq0
      have hq1 := su0 _ _ hq1
      have hq2 := su0 _ _ hq2
      have hq3 := su0 _ _ hq3
      have hq4 := su0 _ _ hq4
      have hq5 := su0 _ _ hq5
      have hq6 := su0 _ _ hq6
      have hSL := su0 _ _ hSL
      revert su0 hu0 hq0 hq1 hq2 hq3 hq4 hq5 hq6 hSL
      generalize upd G15 u0 (.tup [.str "clock", .int 2]) = G16
      intro su0 hu0 hq0 hq1 hq2 hq3 hq4 hq5 hq6 hSL
      have mad := mad.same su0
      refine ⟨(by show 2 ≤ sizeLine; decide), fun u1 nu1 => ?_⟩
      have su1 := same_new (H := G16) (o := .tup [.str "rule", .int 0]) nu1
      have hu1 := upd_same (H := G16) (a := u1) (o := .tup [.str "rule", .int 0])
      have hq0 := su1 _ _ hq0
      have hq1 := su1 _ _ hq1
      have hq2 := su1 _ _ hq2
      have hq3 := su1 _ _ hq3
      have hq4 := su1 _ _ hq4
      have hq5 := su1 _ _ hq5
      have hq6 := su1 _ _ hq6
      have hSL := su1 _ _ hSL
      have hu0 := su1 _ _ hu0
      revert su1 hu1 hq0 hq1 hq2 hq3 hq4 hq5 hq6 hSL hu0
      generalize upd G16 u1 (.tup [.str "rule", .int 0]) = G17
      intro su1 hu1 hq0 hq1 hq2 hq3 hq4 hq5 hq6 hSL hu0
      have mad := mad.same su1
      refine ⟨(by show 2 ≤ sizeLine; decide), fun u2 nu2 => ?_⟩
      have su2 := same_new (H := G17) (o := .tup [.str "rule", .int 1]) nu2
      have hu2 := upd_same (H := G17) (a := u2) (o := .tup [.str "rule", .int 1])
      have hq0 := su2 _ _ hq0
      have hq1 := su2 _ _ hq1
      have hq2 := su2 _ _ hq2
      have hq3 := su2 _ _ hq3
      have hq4 := su2 _ _ hq4
      have hq5 := su2 _ _ hq5
      have hq6 := su2 _ _ hq6
      have hSL := su2 _ _ hSL
      have hu0 := su2 _ _ hu0
      have hu1 := su2 _ _ hu1
      revert su2 hu2 hq0 hq1 hq2 hq3 hq4 hq5 hq6 hSL hu0 hu1
      generalize upd G17 u2 (.tup [.str "rule", .int 1]) = G18
      intro su2 hu2 hq0 hq1 hq2 hq3 hq4 hq5 hq6 hSL hu0 hu1
      have mad := mad.same su2
      refine ⟨(by show 2 ≤ sizeLine; decide), fun u3 nu3 => ?_⟩
      have su3 := same_new (H := G18) (o := .tup [.str "rule", .int 2]) nu3
      have hu3 := upd_same (H := G18) (a := u3) (o := .tup [.str "rule", .int 2])
      have hq0 := su3 _ _ hq0
      have hq1 := su3 _ _ hq1
      have hq2 := su3 _ _ hq2
      have hq3 := su3 _ _ hq3
      have hq4 := su3 _ _ hq4
      have hq5 := su3 _ _ hq5
      have hq6 := su3 _ _ hq6
      have hSL := su3 _ _ hSL
      have hu0 := su3 _ _ hu0
      have hu1 := su3 _ _ hu1
      have hu2 := su3 _ _ hu2
      revert su3 hu3 hq0 hq1 hq2 hq3 hq4 hq5 hq6 hSL hu0 hu1 hu2
      generalize upd G18 u3 (.tup [.str "rule", .int 2]) = G19
      intro su3 hu3 hq0 hq1 hq2 hq3 hq4 hq5 hq6 hSL hu0 hu1 hu2
      have mad := mad.same su3
      refine ⟨(by show 1 ≤ sizeLine; decide), fun u4 nu4 => ?_⟩
      have su4 := same_new (H := G19) (o := .tup [.str "form"]) nu4
      have hu4 := upd_same (H := G19) (a := u4) (o := .tup [.str "form"])
      have hq0 := su4 _ _ hq0
      have hq1 := su4 _ _ hq1
      have hq2 := su4 _ _ hq2
      have hq3 := su4 _ _ hq3
      have hq4 := su4 _ _ hq4
      have hq5 := su4 _ _ hq5
      have hq6 := su4 _ _ hq6
      have hSL := su4 _ _ hSL
      have hu0 := su4 _ _ hu0
      have hu1 := su4 _ _ hu1
      have hu2 := su4 _ _ hu2
      have hu3 := su4 _ _ hu3
      revert su4 hu4 hq0 hq1 hq2 hq3 hq4 hq5 hq6 hSL hu0 hu1 hu2 hu3
      generalize upd G19 u4 (.tup [.str "form"]) = G20
      intro su4 hu4 hq0 hq1 hq2 hq3 hq4 hq5 hq6 hSL hu0 hu1 hu2 hu3
      have mad := mad.same su4
      refine ⟨(by show 7 ≤ sizeLine; decide), fun DL nDL => ?_⟩
      have sDL := same_new (H := G20) (o := .lst [.non, .non, .ref u0, .ref u1, .ref u2, .ref u3, .ref u4]) nDL
      have hDL := upd_same (H := G20) (a := DL) (o := .lst [.non, .non, .ref u0, .ref u1, .ref u2, .ref u3, .ref u4])
      have hq0 := sDL _ _ hq0
      have hq1 := sDL _ _ hq1
      have hq2 := sDL _ _ hq2
      have hq3 := sDL _ _ hq3
      have hq4 := sDL _ _ hq4
      have hq5 := sDL _ _ hq5
      have hq6 := sDL _ _ hq6
      have hSL := sDL _ _ hSL
      have hu0 := sDL _ _ hu0
      have hu1 := sDL _ _ hu1
      have hu2 := sDL _ _ hu2
      have hu3 := sDL _ _ hu3
      have hu4 := sDL _ _ hu4
      revert sDL hDL hq0 hq1 hq2 hq3 hq4 hq5 hq6 hSL hu0 hu1 hu2 hu3 hu4
      generalize upd G20 DL (.lst [.non, .non, .ref u0, .ref u1, .ref u2, .ref u3, .ref u4]) = G21
      intro sDL hDL hq0 hq1 hq2 hq3 hq4 hq5 hq6 hSL hu0 hu1 hu2 hu3 hu4
      have mad := mad.same sDL
      refine ⟨(by show 0 ≤ sizeLine; decide), fun b1 nb1 => ?_⟩
      have sb1 := same_new (H := G21) (o := .lst []) nb1
      have hb1 := upd_same (H := G21) (a := b1) (o := .lst [])
      have hq0 := sb1 _ _ hq0
      have hq1 := sb1 _ _ hq1
      have hq2 := sb1 _ _ hq2
      have hq3 := sb1 _ _ hq3
      have hq4 := sb1 _ _ hq4
      have hq5 := sb1 _ _ hq5
      have hq6 := sb1 _ _ hq6
      have hSL := sb1 _ _ hSL
      have hu0 := sb1 _ _ hu0
      have hu1 := sb1 _ _ hu1
      have hu2 := sb1 _ _ hu2
      have hu3 := sb1 _ _ hu3
      have hu4 := sb1 _ _ hu4
      have hDL := sb1 _ _ hDL
      revert sb1 hb1 hq0 hq1 hq2 hq3 hq4 hq5 hq6 hSL hu0 hu1 hu2 hu3 hu4 hDL
      generalize upd G21 b1 (.lst []) = G22
      intro sb1 hb1 hq0 hq1 hq2 hq3 hq4 hq5 hq6 hSL hu0 hu1 hu2 hu3 hu4 hDL
      have mad := mad.same sb1
      refine ⟨(by show 0 ≤ sizeLine; decide), fun b2 nb2 => ?_⟩
      have sb2 := same_new (H := G22) (o := .lst []) nb2
      have hb2 := upd_same (H := G22) (a := b2) (o := .lst [])
      have hq0 := sb2 _ _ hq0
      have hq1 := sb2 _ _ hq1
      have hq2 := sb2 _ _ hq2
      have hq3 := sb2 _ _ hq3
      have hq4 := sb2 _ _ hq4
      have hq5 := sb2 _ _ hq5
      have hq6 := sb2 _ _ hq6
      have hSL := sb2 _ _ hSL
      have hu0 := sb2 _ _ hu0
      have hu1 := sb2 _ _ hu1
      have hu2 := sb2 _ _ hu2
      have hu3 := sb2 _ _ hu3
      have hu4 := sb2 _ _ hu4
      have hDL := sb2 _ _ hDL
      have hb1 := sb2 _ _ hb1
      revert sb2 hb2 hq0 hq1 hq2 hq3 hq4 hq5 hq6 hSL hu0 hu1 hu2 hu3 hu4 hDL hb1
      generalize upd G22 b2 (.lst []) = G23
      intro sb2 hb2 hq0 hq1 hq2 hq3 hq4 hq5 hq6 hSL hu0 hu1 hu2 hu3 hu4 hDL hb1
      have mad := mad.same sb2
      refine fun z dz nz ndz nez => ?_
      have sz : Same G23 (upd (upd G23 dz (.own z)) z (.ins C dz [])) := (same_new ndz).trans (same_new (by rw [upd_ne nez.symm]; exact nz))
      refine ⟨z, dz, b1, b2, [], [], [], [], rfl, upd_same, sz _ _ hb1, sz _ _ hb2, .nil, .nil, goodN, fun M1 bz bare => ⟨rfl, ?_⟩⟩
      have s1 : Same G23 M1 := fun y u e => bz y u (sz _ _ e) (ne_of_none e nz)
      have mad := mad.same s1
      have hq0 := s1 _ _ hq0
      have hq1 := s1 _ _ hq1
      have hq2 := s1 _ _ hq2
      have hq3 := s1 _ _ hq3
      have hq4 := s1 _ _ hq4
      have hq5 := s1 _ _ hq5
      have hq6 := s1 _ _ hq6
      have hSL := s1 _ _ hSL
      have hu0 := s1 _ _ hu0
      have hu1 := s1 _ _ hu1
      have hu2 := s1 _ _ hu2
      have hu3 := s1 _ _ hu3
      have hu4 := s1 _ _ hu4
      have hDL := s1 _ _ hDL
      have hb1 := s1 _ _ hb1
      have hb2 := s1 _ _ hb2
      clear hb1 hb2 sz bz
      refine ⟨_, rfl, ?_⟩
      refine ⟨(by show 0 ≤ sizeLine; decide), fun e1 ne1 => ?_⟩
      have se1 := same_new (H := M1) (o := .tup ([] : List V)) ne1
      have he1 := upd_same (H := M1) (a := e1) (o := .tup ([] : List V))
      have hq0 := se1 _ _ hq0
      have hq1 := se1 _ _ hq1
      have hq2 := se1 _ _ hq2
      have hq3 := se1 _ _ hq3
      have hq4 := se1 _ _ hq4
      have hq5 := se1 _ _ hq5
      have hq6 := se1 _ _ hq6
      have hSL := se1 _ _ hSL
      have hu0 := se1 _ _ hu0
      have hu1 := se1 _ _ hu1
      have hu2 := se1 _ _ hu2
      have hu3 := se1 _ _ hu3
      have hu4 := se1 _ _ hu4
      have hDL := se1 _ _ hDL
      revert se1 he1 hq0 hq1 hq2 hq3 hq4 hq5 hq6 hSL hu0 hu1 hu2 hu3 hu4 hDL
      generalize upd M1 e1 (.tup ([] : List V)) = G24
      intro se1 he1 hq0 hq1 hq2 hq3 hq4 hq5 hq6 hSL hu0 hu1 hu2 hu3 hu4 hDL
      have mad := mad.same se1
      have bare := bare.same se1
      refine ⟨(by show 0 ≤ sizeLine; decide), fun e2 ne2 => ?_⟩
      have se2 := same_new (H := G24) (o := .tup ([] : List V)) ne2
      have he2 := upd_same (H := G24) (a := e2) (o := .tup ([] : List V))
      have hq0 := se2 _ _ hq0
      have hq1 := se2 _ _ hq1
      have hq2 := se2 _ _ hq2
      have hq3 := se2 _ _ hq3
      have hq4 := se2 _ _ hq4
      have hq5 := se2 _ _ hq5
      have hq6 := se2 _ _ hq6
      have hSL := se2 _ _ hSL
      have hu0 := se2 _ _ hu0
      have hu1 := se2 _ _ hu1
      have hu2 := se2 _ _ hu2
      have hu3 := se2 _ _ hu3
      have hu4 := se2 _ _ hu4
      have hDL := se2 _ _ hDL
      have he1 := se2 _ _ he1
      revert se2 he2 hq0 hq1 hq2 hq3 hq4 hq5 hq6 hSL hu0 hu1 hu2 hu3 hu4 hDL he1
      generalize upd G24 e2 (.tup ([] : List V)) = G25
      intro se2 he2 hq0 hq1 hq2 hq3 hq4 hq5 hq6 hSL hu0 hu1 hu2 hu3 hu4 hDL he1
      have mad := mad.same se2
      have bare := bare.same se2
      refine ⟨z, e1, e2, [], [], [], [], rfl, bare, by decide, rfl, rfl, .inr he1, .inr he2, fun g1 M2 t1 hg1 => ?_⟩
      have mad := mad.same t1
      have bare := bare.same t1
      have hq0 := t1 _ _ hq0
      have hq1 := t1 _ _ hq1
      have hq2 := t1 _ _ hq2
      have hq3 := t1 _ _ hq3
      have hq4 := t1 _ _ hq4
      have hq5 := t1 _ _ hq5
      have hq6 := t1 _ _ hq6
      have hSL := t1 _ _ hSL
      have hu0 := t1 _ _ hu0
      have hu1 := t1 _ _ hu1
      have hu2 := t1 _ _ hu2
      have hu3 := t1 _ _ hu3
      have hu4 := t1 _ _ hu4
      have hDL := t1 _ _ hDL
      have he1 := t1 _ _ he1
      have he2 := t1 _ _ he2
      refine ⟨_, rfl, ?_⟩
      refine ⟨(by show 0 ≤ sizeLine; decide), fun e3 ne3 => ?_⟩
      have se3 := same_new (H := M2) (o := .tup ([] : List V)) ne3
      have he3 := upd_same (H := M2) (a := e3) (o := .tup ([] : List V))
      have hq0 := se3 _ _ hq0
      have hq1 := se3 _ _ hq1
      have hq2 := se3 _ _ hq2
      have hq3 := se3 _ _ hq3
      have hq4 := se3 _ _ hq4
      have hq5 := se3 _ _ hq5
      have hq6 := se3 _ _ hq6
      have hSL := se3 _ _ hSL
      have hu0 := se3 _ _ hu0
      have hu1 := se3 _ _ hu1
      have hu2 := se3 _ _ hu2
      have hu3 := se3 _ _ hu3
      have hu4 := se3 _ _ hu4
      have hDL := se3 _ _ hDL
      have he1 := se3 _ _ he1
      have he2 := se3 _ _ he2
      have hg1 := se3 _ _ hg1
      revert se3 he3 hq0 hq1 hq2 hq3 hq4 hq5 hq6 hSL hu0 hu1 hu2 hu3 hu4 hDL he1 he2 hg1
      generalize upd M2 e3 (.tup ([] : List V)) = G26
      intro se3 he3 hq0 hq1 hq2 hq3 hq4 hq5 hq6 hSL hu0 hu1 hu2 hu3 hu4 hDL he1 he2 hg1
      have mad := mad.same se3
      have bare := bare.same se3
      refine ⟨(by show 0 ≤ sizeLine; decide), fun e4 ne4 => ?_⟩
      have se4 := same_new (H := G26) (o := .tup ([] : List V)) ne4
      have he4 := upd_same (H := G26) (a := e4) (o := .tup ([] : List V))
      have hq0 := se4 _ _ hq0
      have hq1 := se4 _ _ hq1
      have hq2 := se4 _ _ hq2
      have hq3 := se4 _ _ hq3
      have hq4 := se4 _ _ hq4
      have hq5 := se4 _ _ hq5
      have hq6 := se4 _ _ hq6
      have hSL := se4 _ _ hSL
      have hu0 := se4 _ _ hu0
      have hu1 := se4 _ _ hu1
      have hu2 := se4 _ _ hu2
      have hu3 := se4 _ _ hu3
      have hu4 := se4 _ _ hu4
      have hDL := se4 _ _ hDL
      have he1 := se4 _ _ he1
      have he2 := se4 _ _ he2
      have hg1 := se4 _ _ hg1
      have he3 := se4 _ _ he3
      revert se4 he4 hq0 hq1 hq2 hq3 hq4 hq5 hq6 hSL hu0 hu1 hu2 hu3 hu4 hDL he1 he2 hg1 he3
      generalize upd G26 e4 (.tup ([] : List V)) = G27
      intro se4 he4 hq0 hq1 hq2 hq3 hq4 hq5 hq6 hSL hu0 hu1 hu2 hu3 hu4 hDL he1 he2 hg1 he3
      have mad := mad.same se4
      have bare := bare.same se4
      refine ⟨z, e3, e4, [], [], [], [], rfl, bare, by decide, rfl, rfl, .inr he3, .inr he4, fun g2 M3 t2 hg2 => ?_⟩
      have mad := mad.same t2
      have bare := bare.same t2
      have hq0 := t2 _ _ hq0
      have hq1 := t2 _ _ hq1
      have hq2 := t2 _ _ hq2
      have hq3 := t2 _ _ hq3
      have hq4 := t2 _ _ hq4
      have hq5 := t2 _ _ hq5
      have hq6 := t2 _ _ hq6
      have hSL := t2 _ _ hSL
      have hu0 := t2 _ _ hu0
      have hu1 := t2 _ _ hu1
      have hu2 := t2 _ _ hu2
      have hu3 := t2 _ _ hu3
      have hu4 := t2 _ _ hu4
      have hDL := t2 _ _ hDL
      have he1 := t2 _ _ he1
      have he2 := t2 _ _ he2
      have hg1 := t2 _ _ hg1
      have he3 := t2 _ _ he3
      have he4 := t2 _ _ he4
      refine ⟨_, rfl, ?_⟩
      refine ⟨(by show 0 ≤ sizeLine; decide), fun e5 ne5 => ?_⟩
      have se5 := same_new (H := M3) (o := .tup ([] : List V)) ne5
      have he5 := upd_same (H := M3) (a := e5) (o := .tup ([] : List V))
      have hq0 := se5 _ _ hq0
      have hq1 := se5 _ _ hq1
      have hq2 := se5 _ _ hq2
      have hq3 := se5 _ _ hq3
      have hq4 := se5 _ _ hq4
      have hq5 := se5 _ _ hq5
      have hq6 := se5 _ _ hq6
      have hSL := se5 _ _ hSL
      have hu0 := se5 _ _ hu0
      have hu1 := se5 _ _ hu1
      have hu2 := se5 _ _ hu2
      have hu3 := se5 _ _ hu3
      have hu4 := se5 _ _ hu4
      have hDL := se5 _ _ hDL
      have he1 := se5 _ _ he1
      have he2 := se5 _ _ he2
      have hg1 := se5 _ _ hg1
      have he3 := se5 _ _ he3
      have he4 := se5 _ _ he4
      have hg2 := se5 _ _ hg2
      revert se5 he5 hq0 hq1 hq2 hq3 hq4 hq5 hq6 hSL hu0 hu1 hu2 hu3 hu4 hDL he1 he2 hg1 he3 he4 hg2
      generalize upd M3 e5 (.tup ([] : List V)) = G28
      intro se5 he5 hq0 hq1 hq2 hq3 hq4 hq5 hq6 hSL hu0 hu1 hu2 hu3 hu4 hDL he1 he2 hg1 he3 he4 hg2
      have mad := mad.same se5
      have bare := bare.same se5
      refine ⟨z, e5, [], [], [], 3, 1, rfl, bare, fun p m => (nomatch m), by decide, by decide, by decide, .inr he5, fun g3 M4 t3 hg3 => ?_⟩
      have mad := mad.same t3
      have bare := bare.same t3
      have hq0 := t3 _ _ hq0
      have hq1 := t3 _ _ hq1
      have hq2 := t3 _ _ hq2
      have hq3 := t3 _ _ hq3
      have hq4 := t3 _ _ hq4
      have hq5 := t3 _ _ hq5
      have hq6 := t3 _ _ hq6
      have hSL := t3 _ _ hSL
      have hu0 := t3 _ _ hu0
      have hu1 := t3 _ _ hu1
      have hu2 := t3 _ _ hu2
      have hu3 := t3 _ _ hu3
      have hu4 := t3 _ _ hu4
      have hDL := t3 _ _ hDL
      have he1 := t3 _ _ he1
      have he2 := t3 _ _ he2
      have hg1 := t3 _ _ hg1
      have he3 := t3 _ _ he3
      have he4 := t3 _ _ he4
      have hg2 := t3 _ _ hg2
      have he5 := t3 _ _ he5
      refine ⟨(by show 3 ≤ sizeLine; decide), fun GL nGL => ?_⟩
      have sGL := same_new (H := M4) (o := .lst [.ref g1, .ref g2, .ref g3]) nGL
      have hGL := upd_same (H := M4) (a := GL) (o := .lst [.ref g1, .ref g2, .ref g3])
      have hq0 := sGL _ _ hq0
      have hq1 := sGL _ _ hq1
      have hq2 := sGL _ _ hq2
      have hq3 := sGL _ _ hq3
      have hq4 := sGL _ _ hq4
      have hq5 := sGL _ _ hq5
      have hq6 := sGL _ _ hq6
      have hSL := sGL _ _ hSL
      have hu0 := sGL _ _ hu0
      have hu1 := sGL _ _ hu1
      have hu2 := sGL _ _ hu2
      have hu3 := sGL _ _ hu3
      have hu4 := sGL _ _ hu4
      have hDL := sGL _ _ hDL
      have he1 := sGL _ _ he1
      have he2 := sGL _ _ he2
      have hg1 := sGL _ _ hg1
      have he3 := sGL _ _ he3
      have he4 := sGL _ _ he4
      have hg2 := sGL _ _ hg2
      have he5 := sGL _ _ he5
      have hg3 := sGL _ _ hg3
      revert sGL hGL hq0 hq1 hq2 hq3 hq4 hq5 hq6 hSL hu0 hu1 hu2 hu3 hu4 hDL he1 he2 hg1 he3 he4 hg2 he5 hg3
      generalize upd M4 GL (.lst [.ref g1, .ref g2, .ref g3]) = G29
      intro sGL hGL hq0 hq1 hq2 hq3 hq4 hq5 hq6 hSL hu0 hu1 hu2 hu3 hu4 hDL he1 he2 hg1 he3 he4 hg2 he5 hg3
      have mad := mad.same sGL
      have bare := bare.same sGL
      refine ⟨(by show 0 ≤ sizeLine; decide), fun e6 ne6 => ?_⟩
      have se6 := same_new (H := G29) (o := .tup ([] : List V)) ne6
      have he6 := upd_same (H := G29) (a := e6) (o := .tup ([] : List V))
      have hq0 := se6 _ _ hq0
      have hq1 := se6 _ _ hq1
      have hq2 := se6 _ _ hq2
      have hq3 := se6 _ _ hq3
      have hq4 := se6 _ _ hq4
      have hq5 := se6 _ _ hq5
      have hq6 := se6 _ _ hq6
      have hSL := se6 _ _ hSL
      have hu0 := se6 _ _ hu0
      have hu1 := se6 _ _ hu1
      have hu2 := se6 _ _ hu2
      have hu3 := se6 _ _ hu3
      have hu4 := se6 _ _ hu4
      have hDL := se6 _ _ hDL
      have he1 := se6 _ _ he1
      have he2 := se6 _ _ he2
      have hg1 := se6 _ _ hg1
      have he3 := se6 _ _ he3
      have he4 := se6 _ _ he4
      have hg2 := se6 _ _ hg2
      have he5 := se6 _ _ he5
      have hg3 := se6 _ _ hg3
      have hGL := se6 _ _ hGL
      revert se6 he6 hq0 hq1 hq2 hq3 hq4 hq5 hq6 hSL hu0 hu1 hu2 hu3 hu4 hDL he1 he2 hg1 he3 he4 hg2 he5 hg3 hGL
      generalize upd G29 e6 (.tup ([] : List V)) = G30
      intro se6 he6 hq0 hq1 hq2 hq3 hq4 hq5 hq6 hSL hu0 hu1 hu2 hu3 hu4 hDL he1 he2 hg1 he3 he4 hg2 he5 hg3 hGL
      have mad := mad.same se6
      have bare := bare.same se6
      refine ⟨(by show 0 ≤ sizeLine; decide), fun e7 ne7 => ?_⟩
      have se7 := same_new (H := G30) (o := .tup ([] : List V)) ne7
      have he7 := upd_same (H := G30) (a := e7) (o := .tup ([] : List V))
      have hq0 := se7 _ _ hq0
      have hq1 := se7 _ _ hq1
      have hq2 := se7 _ _ hq2
      have hq3 := se7 _ _ hq3
      have hq4 := se7 _ _ hq4
      have hq5 := se7 _ _ hq5
      have hq6 := se7 _ _ hq6
      have hSL := se7 _ _ hSL
      have hu0 := se7 _ _ hu0
      have hu1 := se7 _ _ hu1
      have hu2 := se7 _ _ hu2
      have hu3 := se7 _ _ hu3
      have hu4 := se7 _ _ hu4
      have hDL := se7 _ _ hDL
      have he1 := se7 _ _ he1
      have he2 := se7 _ _ he2
      have hg1 := se7 _ _ hg1
      have he3 := se7 _ _ he3
      have he4 := se7 _ _ he4
      have hg2 := se7 _ _ hg2
      have he5 := se7 _ _ he5
      have hg3 := se7 _ _ hg3
      have hGL := se7 _ _ hGL
      have he6 := se7 _ _ he6
      revert se7 he7 hq0 hq1 hq2 hq3 hq4 hq5 hq6 hSL hu0 hu1 hu2 hu3 hu4 hDL he1 he2 hg1 he3 he4 hg2 he5 hg3 hGL he6
      generalize upd G30 e7 (.tup ([] : List V)) = G31
      intro se7 he7 hq0 hq1 hq2 hq3 hq4 hq5 hq6 hSL hu0 hu1 hu2 hu3 hu4 hDL he1 he2 hg1 he3 he4 hg2 he5 hg3 hGL he6
      have mad := mad.same se7
      have bare := bare.same se7
      refine ⟨(by show 0 ≤ sizeLine; decide), fun e8 ne8 => ?_⟩
      have se8 := same_new (H := G31) (o := .tup ([] : List V)) ne8
      have he8 := upd_same (H := G31) (a := e8) (o := .tup ([] : List V))
      have hq0 := se8 _ _ hq0
      have hq1 := se8 _ _ hq1
      have hq2 := se8 _ _ hq2
      have hq3 := se8 _ _ hq3
      have hq4 := se8 _ _ hq4
      have hq5 := se8 _ _ hq5
      have hq6 := se8 _ _ hq6
      have hSL := se8 _ _ hSL
      have hu0 := se8 _ _ hu0
      have hu1 := se8 _ _ hu1
      have hu2 := se8 _ _ hu2
      have hu3 := se8 _ _ hu3
      have hu4 := se8 _ _ hu4
      have hDL := se8 _ _ hDL
      have he1 := se8 _ _ he1
      have he2 := se8 _ _ he2
      have hg1 := se8 _ _ hg1
      have he3 := se8 _ _ he3
      have he4 := se8 _ _ he4
      have hg2 := se8 _ _ hg2
      have he5 := se8 _ _ he5
      have hg3 := se8 _ _ hg3
      have hGL := se8 _ _ hGL
      have he6 := se8 _ _ he6
      have he7 := se8 _ _ he7
      revert se8 he8 hq0 hq1 hq2 hq3 hq4 hq5 hq6 hSL hu0 hu1 hu2 hu3 hu4 hDL he1 he2 hg1 he3 he4 hg2 he5 hg3 hGL he6 he7
      generalize upd G31 e8 (.tup ([] : List V)) = G32
      intro se8 he8 hq0 hq1 hq2 hq3 hq4 hq5 hq6 hSL hu0 hu1 hu2 hu3 hu4 hDL he1 he2 hg1 he3 he4 hg2 he5 hg3 hGL he6 he7
      have mad := mad.same se8
      have bare := bare.same se8
      refine ⟨(by show 3 ≤ sizeLine; decide), fun EL nEL => ?_⟩
      have sEL := same_new (H := G32) (o := .lst [.ref e6, .ref e7, .ref e8]) nEL
      have hEL := upd_same (H := G32) (a := EL) (o := .lst [.ref e6, .ref e7, .ref e8])
      have hq0 := sEL _ _ hq0
      have hq1 := sEL _ _ hq1
      have hq2 := sEL _ _ hq2
      have hq3 := sEL _ _ hq3
      have hq4 := sEL _ _ hq4
      have hq5 := sEL _ _ hq5
      have hq6 := sEL _ _ hq6
      have hSL := sEL _ _ hSL
      have hu0 := sEL _ _ hu0
      have hu1 := sEL _ _ hu1
      have hu2 := sEL _ _ hu2
      have hu3 := sEL _ _ hu3
      have hu4 := sEL _ _ hu4
      have hDL := sEL _ _ hDL
      have he1 := sEL _ _ he1
      have he2 := sEL _ _ he2
      have hg1 := sEL _ _ hg1
      have he3 := sEL _ _ he3
      have he4 := sEL _ _ he4
      have hg2 := sEL _ _ hg2
      have he5 := sEL _ _ he5
      have hg3 := sEL _ _ hg3
      have hGL := sEL _ _ hGL
      have he6 := sEL _ _ he6
      have he7 := sEL _ _ he7
      have he8 := sEL _ _ he8
      revert sEL hEL hq0 hq1 hq2 hq3 hq4 hq5 hq6 hSL hu0 hu1 hu2 hu3 hu4 hDL he1 he2 hg1 he3 he4 hg2 he5 hg3 hGL he6 he7 he8
      generalize upd G32 EL (.lst [.ref e6, .ref e7, .ref e8]) = G33
      intro sEL hEL hq0 hq1 hq2 hq3 hq4 hq5 hq6 hSL hu0 hu1 hu2 hu3 hu4 hDL he1 he2 hg1 he3 he4 hg2 he5 hg3 hGL he6 he7 he8
      have mad := mad.same sEL
      have bare := bare.same sEL
      refine ⟨.list [.tuple [], .tuple [], .tuple []], .list [.tuple [], .tuple [], .tuple []], .lst (SqL.of hGL) (.cons (.tup (SqT.of hg1) .nil) (.cons (.tup (SqT.of hg2) .nil) (.cons (.tup (SqT.of hg3) .nil) .nil))), .lst (SqL.of hEL) (.cons (.tup (SqT.of he6) .nil) (.cons (.tup (SqT.of he7) .nil) (.cons (.tup (SqT.of he8) .nil) .nil))), by decide +kernel, by decide +kernel, false, by decide +kernel, iteF ?_⟩
      refine ⟨_, rfl, SL, rfl, ⟨_, SqL.of hSL⟩, fun J nJ => ?_⟩
      refine lc_it walk_list (fun j N1 => Same G33 N1 ∧ ∃ us : List V, N1 J = some (.lst us) ∧ us.length = j ∧ DpAll K (hide J N1) us ((vals0.take j).map fun x => tellD x.2)) ⟨same_new nJ, [], upd_same, rfl, .nil⟩ (fun j N1 _ y => SqL.of (y.1 _ _ hSL)) ?_ ?_
      · rintro j y N1 N2 hj ⟨sN, us, hJ, lus, dp⟩ ⟨rfl, hy⟩
        have lt : j < 7 := hj
        have lt0 : j < vals0.length := hj
        have each : Jd K N2 y (some vals0[j].1) := by
          match j, lt, lt0, hy with
          | 0, _, _, hy => cases (Option.some.inj hy); exact .tup (sN _ _ hq0) (od_ints (by rfl))
          | 1, _, _, hy => cases (Option.some.inj hy); exact .lst (sN _ _ hq1) (od_ints (by rfl))
          | 2, _, _, hy => cases (Option.some.inj hy); exact .tup (sN _ _ hq2) (od_ints (by rfl))
          | 3, _, _, hy => cases (Option.some.inj hy); exact .tup (sN _ _ hq3) (od_ints (by rfl))
          | 4, _, _, hy => cases (Option.some.inj hy); exact .tup (sN _ _ hq4) (od_ints (by rfl))
          | 5, _, _, hy => cases (Option.some.inj hy); exact .tup (sN _ _ hq5) (od_ints (by rfl))
          | 6, _, _, hy => cases (Option.some.inj hy); exact .tup (sN _ _ hq6) (od_ints (by rfl))
        have vd0 := verd0 j _ (List.getElem?_eq_getElem lt0)
        refine ⟨rfl, _, rfl, _, rfl, x, y, ps0, rs0, _, rfl, mad.same sN, good0, each, fun u r N3 vd tells s3 => ?_⟩
        have hJ3 := s3 _ _ hJ
        have tells2 : Tells (hide J N3) r u := by
          cases r with
          | none => exact tells
          | some ys =>
            obtain ⟨t, rfl, ht⟩ := tells
            exact ⟨t, rfl, hide_at (ne_of ht hJ3 (by intro z; cases z)) ht⟩
        have dp3 := DpAll.snoc (Dp.same (hide_up (Sbut.put (o := .lst (us ++ [u])))) _ _ (tells_dp (K := K) vd tells2)) _ _ (DpAll.same ((hide_up (Sbut.of s3)).trans (hide_up (Sbut.put (o := .lst (us ++ [u]))))) _ _ dp)
        have er := verd_uniq good0.nd vd0 vd
        refine ⟨us, hJ3, small1000 (by omega), fun b o y => by rw [upd_ne (ne_of_none y nJ)]; exact (sN.trans s3) b o y, us ++ [u], upd_same, by rw [List.length_append, lus]; rfl, ?_⟩
        rw [List.take_succ, List.getElem?_eq_getElem lt0, List.map_append]
        simp only [Option.toList_some, List.map_cons, List.map_nil]
        rw [er]
        exact dp3
      · rintro N1 ⟨sN, us, hJ, lus, dp⟩
        have dp1 : DpAll K N1 us dues0 := DpAll.same hide_same _ _ dp
        have hDL := sN _ _ hDL
        have hu0 := sN _ _ hu0
        have hu1 := sN _ _ hu1
        have hu2 := sN _ _ hu2
        have hu3 := sN _ _ hu3
        have hu4 := sN _ _ hu4
        refine ⟨_, rfl, .list dues0, .list dues0, .lst (SqL.of hJ) dp1, .lst (SqL.of hDL) (.cons .non (.cons .non (.cons (.tup (SqT.of hu0) (.cons (.str _) (.cons (.int _) .nil))) (.cons (.tup (SqT.of hu1) (.cons (.str _) (.cons (.int _) .nil))) (.cons (.tup (SqT.of hu2) (.cons (.str _) (.cons (.int _) .nil))) (.cons (.tup (SqT.of hu3) (.cons (.str _) (.cons (.int _) .nil))) (.cons (.tup (SqT.of hu4) (.cons (.str _) .nil)) .nil))))))), by decide +kernel, by decide +kernel, ?_⟩
        rw [show PyData.eqv (.list dues0) (.list dues0) = true by decide +kernel]
        refine ⟨true, rfl, iteT ?_⟩
        refine ⟨_, rfl, (by show 0 ≤ sizeLine; decide), fun e9 ne9 => ?_⟩
        refine ⟨z, .ref e9, [], [], some [], rfl, bare.same (sN.trans (same_new ne9)), goodN, .tup upd_same (fun _ m => nomatch m), fun u r N4 vd tells s4 => ?_⟩
        cases verd_uniq (ps := []) (rs := []) List.nodup_nil vd (.fine rfl (fun j h => absurd h (by exact Nat.not_lt_zero j)) (fun j h => absurd h (by exact Nat.not_lt_zero j)))
        cases (show u = .non from tells)
        refine ⟨rfl, ?_⟩
        rw [decide_eq_true rfl]
        exact k N4
end
end K06
namespace Rt
open PySem PySem.Spec L2
open PyProof.Rows hiding St
/-! ### methods and makers as the top has left them -/
structure MAt (K : PySem.W.Frag) (C : Addr) (m qual : Str) (st : Stmt) : Prop where
  ex : ∃ (f : Addr) (fd : FuncData), Meth K C m f ∧ Fun K m qual st f fd
structure MkAt (K : PySem.W.Frag) (mg : Str → Option Value) (x : Str) (C : Addr) (qual : Str) (st : Stmt) : Prop where
  ex : ∃ (f : Addr) (fd : FuncData), L2.Mk K C f ∧ mg x = some (.ref C) ∧ Fun K "__init__" qual st f fd
section
variable {P : Program} {w : World} {K : PySem.W.Frag} {mg : Str → Option Value} {base h : Heap} {x m qual : Str} {st : Stmt} {C : Addr}
theorem mat_mk {f : Addr} {oc kV dc pm cd ct : Value} {od an : Option Addr} {sl : Array (Option Value)} (a : PySem.W.findIn K (.ref C) m = some (some (.ref f))) (i : PySem.W.isFn K (.ref f) = true)
    (l : K.lookup f = some ⟨oc, od, .func (PySem.W.fnOf m qual (defArgs st) (defBody st) (defScope st) .none kV dc pm an cd ct), sl⟩) (c : PySem.W.codeIn K cd qual = true) (k : PySem.W.keepIn K (.ref f) = true) : MAt K C m qual st :=
  ⟨f, _, ⟨a, i, k⟩, fun_mk l c k⟩
theorem mkat_mk {f : Addr} {oc kV dc pm cd ct : Value} {od an : Option Addr} {sl : Array (Option Value)} (X : K.In h) (G : h.Ns mainGlobals mg) (n : PySem.W.nsIn K mainGlobals x = some (some (.ref C))) (mk : PySem.W.makesIn K C = true) (kc : PySem.W.keepIn K (.ref C) = true)
    (a : PySem.W.findIn K (.ref C) "__init__" = some (some (.ref f))) (i : PySem.W.isFn K (.ref f) = true)
    (l : K.lookup f = some ⟨oc, od, .func (PySem.W.fnOf "__init__" qual (defArgs st) (defBody st) (defScope st) .none kV dc pm an cd ct), sl⟩) (c : PySem.W.codeIn K cd qual = true) (k : PySem.W.keepIn K (.ref f) = true) : MkAt K mg x C qual st :=
  ⟨f, _, ⟨mk, a, i, kc⟩, PySem.W.mg_of X G n, fun_mk l c k⟩
theorem MAt.md {k : Nat} {ps : List Str} {sp : Sp} (A : MAt K C m qual st) (ok : ∀ (f : Addr) (fd : FuncData), Fun K m qual st f fd → FnOk P w K mg base CX0 k f fd ps sp)
    (bd : ∀ (f : Addr) (fd : FuncData), Fun K m qual st f fd → Binds K fd ps []) : Md P w K mg base k C m sp := by
  obtain ⟨f, fd, h, F⟩ := A.ex
  exact ⟨f, fd, ps, h, ok f fd F, bd f fd F⟩
theorem MkAt.mkr {k : Nat} {ps : List Str} {sp : Sp} (A : MkAt K mg x C qual st) (ok : ∀ (f : Addr) (fd : FuncData), Fun K "__init__" qual st f fd → FnOk P w K mg base CX0 k f fd ps sp)
    (bd : ∀ (f : Addr) (fd : FuncData), Fun K "__init__" qual st f fd → Binds K fd ps []) : Mkr P w K mg base k C x sp := by
  obtain ⟨f, fd, h, n, F⟩ := A.ex
  exact ⟨f, fd, ps, h, n, ok f fd F, bd f fd F⟩
end
end Rt
namespace K06
open PySem PySem.Spec L2 Rt
open PyProof.Rows hiding St
structure Defs6 (K : PySem.W.Frag) (mg : Str → Option Value) : Prop where
  isWord : At K mg "is_word" sIsWord
  isInt : At K mg "is_integer" sIsInt
  isName : At K mg "is_name_of" sIsName
  wip : At K mg "wrong_in_point" sWip
  wips : At K mg "wrong_in_points" sWips
  wir : At K mg "wrong_in_rule" sWir
  wirs : At K mg "wrong_in_rules" sWirs
  on : At K mg "is_on" sOn
  judge : At K mg "judge_timetable" sJudge
  later : At K mg "later_of" sLater
  earlier : At K mg "earlier_of" sEarlier
  shift : At K mg "shifted" sShift
  source : At K mg "_law_source" sSource
  pick : At K mg "_law_pick" sPick
  of : At K mg "_law_of" sOf
  names : At K mg "_law_names" sNames
  odd : At K mg "_law_odd" sOdd
  up : At K mg "_law_up" sUp
  lInt : At K mg "_law_is_integer" sLInt
  lOn : At K mg "_law_is_on" sLOn
  steps : At K mg "_law_steps" sSteps
  net : At K mg "_law_net" sLNet
  place : At K mg "_law_place" sPlace
  clockOf : At K mg "_law_clock_of" sClockOf
  period : At K mg "_law_period" sPeriod
  risen : At K mg "_law_risen" sRisen
  verd : At K mg "_law_verdict" sVerd
  near : At K mg "_law_near" sNear
  pr : At K mg "_law_pair_right" sPr
  law : At K mg "law" sLaw
structure Nil6 (mg : Str → Option Value) : Prop where
  zisinstance : mg "isinstance" = none
  zlen : mg "len" = none
  zall : mg "all" = none
  zint : mg "int" = none
  zbool : mg "bool" = none
  zstr : mg "str" = none
  ztuple : mg "tuple" = none
  zlist : mg "list" = none
  zenumerate : mg "enumerate" = none
  zrange : mg "range" = none
  zmax : mg "max" = none
  zmin : mg "min" = none
  zabs : mg "abs" = none
  zrepr : mg "repr" = none
  zzip : mg "zip" = none
structure Con6 (mg : Str → Option Value) : Prop where
  let_ : ∃ t, mg "LETTERS" = some (.str LET t)
  sgn : ∃ t, mg "WORD_SIGNS" = some (.str SGN t)
  lw : ∃ t, mg "LONGEST_WORD" = some (.int 12 t)
  gs : ∃ t, mg "GREATEST_STEP" = some (.int 60 t)
  lcm : mg "lcm" = some (.builtin "math.lcm")
structure Ms6 (K : PySem.W.Frag) (C : Addr) : Prop where
  points : MAt K C "points" "Network.points" sMPoints
  rules : MAt K C "rules" "Network.rules" sMRules
  names : MAt K C "names" "Network.names" sMNames
  has : MAt K C "has_name" "Network.has_name" sMHas
  index : MAt K C "index" "Network.index" sMIndex
  period : MAt K C "period" "Network.period" sMPeriod
section
variable {P : Program} {w : World} {K : PySem.W.Frag} {mg : Str → Option Value} {base : Heap} {C : Addr}
theorem wds6 (N : Nil6 mg) (c : Con6 mg) : Wds mg := ⟨N.zisinstance, N.zlen, N.zall, N.zint, N.zbool, N.zstr, N.ztuple, N.zlist, N.zenumerate, c.let_, c.sgn, c.lw, c.gs⟩
theorem rng6 (N : Nil6 mg) : Rng mg := ⟨N.zrange, N.zlen, N.zmax, N.zmin, N.ztuple⟩
theorem lw6 (N : Nil6 mg) (c : Con6 mg) : Lw mg := { wds6 N c, rng6 N with zabs := N.zabs, zrepr := N.zrepr, zzip := N.zzip }
theorem the_law (A : Defs6 K mg) (N : Nil6 mg) (c : Con6 mg) (cn : ClsN K C) (mk : MkAt K mg "Network" C "Network.__init__" sInit) (m : Ms6 K C) {fa : Addr} (ha : mg "law" = some (.ref fa)) :
    ∃ fd : FuncData, (∀ (s : Shared) (u : Value), BindsTo s fd ⟨[u], []⟩ [("script", u)]) ∧ ∀ base : Heap, FnG P w K mg base 6 fa fd ["script"] (spLaw K) := by
  obtain ⟨f, fd, F, mf⟩ := A.law.ex
  cases ha.symm.trans mf
  refine ⟨fd, ?_, fun base => ?_⟩
  · obtain ⟨oc, od, kV, doc, pm, an, cdv, ct, osl, rfl, lk, hcd⟩ := F.ex
    exact fun s u => .of_eq rfl
  have T := lw6 N c
  have fWord : Cf P w K mg base 1 "is_word" spWord1 := A.isWord.cf (fun f fd F => ok_isWord F T.toWds) fun f fd F => F.binds fun _ _ _ _ _ _ us hl => match us, hl with | [_], _ => rfl
  have fInt1 : Cf P w K mg base 1 "is_integer" spInt1 := A.isInt.cf (fun f fd F => ok_isInt F T.toWds) fun f fd F => F.binds fun _ _ _ _ _ _ us hl => match us, hl with | [_], _ => rfl
  have fInt2 : Cf P w K mg base 1 "is_integer" spIsInt := A.isInt.cf (fun f fd F => ok_isInt2 F T.toWds) fun f fd F => F.binds fun _ _ _ _ _ _ us hl => match us, hl with | [_], _ => rfl
  have fName : Cf P w K mg base 1 "is_name_of" spIsName := A.isName.cf (fun f fd F => ok_isName F T.toWds) fun f fd F => F.binds fun _ _ _ _ _ _ us hl => match us, hl with | [_, _], _ => rfl
  have fWip : Cf P w K mg base 2 "wrong_in_point" spWip := A.wip.cf (fun f fd F => ok_wip F T.toWds fWord fInt1) fun f fd F => F.binds fun _ _ _ _ _ _ us hl => match us, hl with | [_, _], _ => rfl
  have fWir : Cf P w K mg base 2 "wrong_in_rule" spWir := A.wir.cf (fun f fd F => ok_wir F T.toWds fName fInt1) fun f fd F => F.binds fun _ _ _ _ _ _ us hl => match us, hl with | [_, _], _ => rfl
  have fWips : Cf P w K mg base 3 "wrong_in_points" spWips := A.wips.cf (fun f fd F => ok_wips F T.toWds fWip) fun f fd F => F.binds fun _ _ _ _ _ _ us hl => match us, hl with | [_], _ => rfl
  have fWirs : Cf P w K mg base 3 "wrong_in_rules" spWirs := A.wirs.cf (fun f fd F => ok_wirs F T.toWds fWir) fun f fd F => F.binds fun _ _ _ _ _ _ us hl => match us, hl with | [_, _], _ => rfl
  have mkr : Mkr P w K mg base 4 C "Network" (spInit C) := mk.mkr (fun f fd F => ok_init F T.toWds cn fWips fWirs) (fun f fd F => F.binds fun _ _ _ _ _ _ us hl => match us, hl with | [_, _, _], _ => rfl)
  have mP : Md P w K mg base 1 C "points" (spPoints C) := m.points.md (fun f fd F => ok_mpoints F T.toWds cn) (fun f fd F => F.binds fun _ _ _ _ _ _ us hl => match us, hl with | [_], _ => rfl)
  have mR : Md P w K mg base 1 C "rules" (spRules C) := m.rules.md (fun f fd F => ok_mrules F T.toWds cn) (fun f fd F => F.binds fun _ _ _ _ _ _ us hl => match us, hl with | [_], _ => rfl)
  have mN : Md P w K mg base 1 C "names" (spMNames C) := m.names.md (fun f fd F => ok_mnames F cn) (fun f fd F => F.binds fun _ _ _ _ _ _ us hl => match us, hl with | [_], _ => rfl)
  have mH : Md P w K mg base 2 C "has_name" (spMHas C) := m.has.md (fun f fd F => ok_mhas F cn fName) (fun f fd F => F.binds fun _ _ _ _ _ _ us hl => match us, hl with | [_, _], _ => rfl)
  have mI : Md P w K mg base 3 C "index" (spMIndex C) := m.index.md (fun f fd F => ok_mindex F cn mH) (fun f fd F => F.binds fun _ _ _ _ _ _ us hl => match us, hl with | [_, _], _ => rfl)
  have mPe : Md P w K mg base 1 C "period" (spMPeriod C) := m.period.md (fun f fd F => ok_mperiod F cn c.lcm) (fun f fd F => F.binds fun _ _ _ _ _ _ us hl => match us, hl with | [_], _ => rfl)
  have M : Meths P w K mg base C := ⟨mP, mR, mN, mI, mPe⟩
  have fOn : Cf P w K mg base 2 "is_on" spOn := A.on.cf (fun f fd F => ok_on F fInt2) fun f fd F => F.binds fun _ _ _ _ _ _ us hl => match us, hl with | [_, _], _ => rfl
  have fJu : Cf P w K mg base 4 "judge_timetable" (spJudge K C) := A.judge.cf (fun f fd F => ok_judge F T.toWds cn M fOn) fun f fd F => F.binds fun _ _ _ _ _ _ us hl => match us, hl with | [_, _], _ => rfl
  have fLa : Cf P w K mg base 2 "later_of" (spPair C mx) := A.later.cf (fun f fd F => ok_Later F T.toRng cn M) fun f fd F => F.binds fun _ _ _ _ _ _ us hl => match us, hl with | [_, _, _], _ => rfl
  have fEa : Cf P w K mg base 2 "earlier_of" (spPair C mn) := A.earlier.cf (fun f fd F => ok_Earlier F T.toRng cn M) fun f fd F => F.binds fun _ _ _ _ _ _ us hl => match us, hl with | [_, _, _], _ => rfl
  have fSh : Cf P w K mg base 2 "shifted" (spShift C) := A.shift.cf (fun f fd F => ok_shift F T.toRng cn M) fun f fd F => F.binds fun _ _ _ _ _ _ us hl => match us, hl with | [_, _, _], _ => rfl
  have cP : Cb P w K mg base 1 "_law_pick" spPick := A.pick.cb (fun f fd F => ok_pick F N.zlen N.zmax N.zint) fun f fd F => F.binds fun _ _ _ _ _ _ us hl => match us, hl with | [_, _], _ => rfl
  have cO : Cb P w K mg base 2 "_law_of" spOf := A.of.cb (fun f fd F => ok_of F N.zlen cP) fun f fd F => F.binds fun _ _ _ _ _ _ us hl => match us, hl with | [_, _], _ => rfl
  have cSrc : Cb P w K mg base 1 "_law_source" (spSource K) := A.source.cb (fun f fd F => ok_source F N.zabs N.zint) fun f fd F => F.binds fun _ _ _ _ _ _ us hl => match us, hl with | [_], _ => rfl
  have cN : Cb P w K mg base 2 "_law_names" spNames := A.names.cb (fun f fd F => ok_names F N.zrange N.zstr N.zint cP) fun f fd F => F.binds fun _ _ _ _ _ _ us hl => match us, hl with | [_, _], _ => rfl
  have cOd : Cb P w K mg base 3 "_law_odd" (spOdd K) := A.odd.cb (fun f fd F => ok_odd F cO) fun f fd F => F.binds fun _ _ _ _ _ _ us hl => match us, hl with | [_], _ => rfl
  have cU : Cb P w K mg base 1 "_law_up" spLUp := A.up.cb (fun f fd F => ok_up F T) fun f fd F => F.binds fun _ _ _ _ _ _ us hl => match us, hl with | [_, _], _ => rfl
  have cI : Cb P w K mg base 1 "_law_is_integer" spIsInt := A.lInt.cb (fun f fd F => ok_lInt F T) fun f fd F => F.binds fun _ _ _ _ _ _ us hl => match us, hl with | [_], _ => rfl
  have cOn : Cb P w K mg base 2 "_law_is_on" spOn := A.lOn.cb (fun f fd F => ok_lOn F T cI) fun f fd F => F.binds fun _ _ _ _ _ _ us hl => match us, hl with | [_, _], _ => rfl
  have cS : Cb P w K mg base 3 "_law_steps" spSteps := A.steps.cb (fun f fd F => ok_steps F cO) fun f fd F => F.binds fun _ _ _ _ _ _ us hl => match us, hl with | [_], _ => rfl
  have cNet : Cb P w K mg base 4 "_law_net" spNet := A.net.cb (fun f fd F => ok_net F T cP cO cN cS) fun f fd F => F.binds fun _ _ _ _ _ _ us hl => match us, hl with | [_, _, _], _ => rfl
  have cPl : Cb P w K mg base 1 "_law_place" spPlace := A.place.cb (fun f fd F => ok_place F) fun f fd F => F.binds fun _ _ _ _ _ _ us hl => match us, hl with | [_, _], _ => rfl
  have cCl : Cb P w K mg base 2 "_law_clock_of" spClockOf := A.clockOf.cb (fun f fd F => ok_clockOf F cPl) fun f fd F => F.binds fun _ _ _ _ _ _ us hl => match us, hl with | [_, _], _ => rfl
  have cPer : Cb P w K mg base 1 "_law_period" spPeriod := A.period.cb (fun f fd F => ok_period F T) fun f fd F => F.binds fun _ _ _ _ _ _ us hl => match us, hl with | [_], _ => rfl
  have cRis : Cb P w K mg base 3 "_law_risen" spRisen := A.risen.cb (fun f fd F => ok_risen F T cU cPer cPl cCl) fun f fd F => F.binds fun _ _ _ _ _ _ us hl => match us, hl with | [_, _], _ => rfl
  have cVe : Cb P w K mg base 3 "_law_verdict" (spVerd K) := A.verd.cb (fun f fd F => ok_verd F T cOn cPl) fun f fd F => F.binds fun _ _ _ _ _ _ us hl => match us, hl with | [_, _], _ => rfl
  have cNear : Cb P w K mg base 4 "_law_near" (spNear K) := A.near.cb (fun f fd F => ok_near F T cP cOd) fun f fd F => F.binds fun _ _ _ _ _ _ us hl => match us, hl with | [_, _, _], _ => rfl
  have cPr : Cb P w K mg base 5 "_law_pair_right" (spPr C) := A.pr.cb (fun f fd F => ok_pr F T cO cPer fLa.toB fEa.toB fJu.toB fSh.toB) fun f fd F => F.binds fun _ _ _ _ _ _ us hl => match us, hl with | [_, _, _, _, _], _ => rfl
  exact ok_law F T mkr cSrc cNet cP cRis cU cNear cVe fJu.toB cPr fLa.toB fEa.toB fSh.toB
theorem finish {h : Heap} {fa : Addr} (X : K.In h) (G : h.Ns mainGlobals mg) (mk : MkAt K mg "Network" C "Network.__init__" sInit) (cn : ClsN K C) (m : Ms6 K C) (A : Defs6 K mg) (N : Nil6 mg) (c : Con6 mg) (ha : mg "law" = some (.ref fa)) :
    ∃ fd : FuncData, (∀ (s : Shared) (u : Value), BindsTo s fd ⟨[u], []⟩ [("script", u)]) ∧ ∀ base : Heap, K.In base → base.Ns mainGlobals mg → FnG P w K mg base 6 fa fd ["script"] (spLaw K) := by
  obtain ⟨fd, b, F⟩ := the_law (P := P) (w := w) A N c cn mk m ha
  exact ⟨fd, b, fun base _ _ => F base⟩
end
end K06
open PySem PySem.W PyProof.Rows
set_option maxRecDepth 100000 in
set_option maxHeartbeats 0 in
theorem PySem.Challenge.cw_roundticks_k06_whole_timetables_holds : PySem.Challenge.rw_roundticks_k06_whole_timetables.Holds := by
  w_on; o_law; k_head; (case hw => w_witness2)
  k_fill
  refine Rt.walk_g (l := PySem.Challenge.rw_roundticks_k06_whole_timetables) (k := 6) (sp := K06.spLaw) (x := "script") rfl (by decide) rfl ⟨rfl, by decide, by decide⟩ (fun w h Y => PySem.W.kIn_of Y) ?F (fun K H a ns hl hS => ⟨a, ns, rfl, hS, hl, fun _ => rfl⟩)
  case F =>
    intro w mg fa h KX G hmg
    refine' K06.finish KX G ?mk ?cn ?ms ?defs ?nils ?cons hmg
    case mk =>
      refine' Rt.mkat_mk KX G ?n ?mk ?kc ?a ?i ?l ?c ?k
      (case n => k_is)
      (case mk => k_is)
      (case kc => k_is)
      (case a => k_is)
      (case i => k_is)
      (case l => k_is)
      (case c => k_is)
      (case k => k_is)
    case cn => (constructor; (constructor <;> k_is); all_goals (unfold L2.NoAttr; k_is))
    case ms =>
      constructor
      all_goals
        refine' Rt.mat_mk ?a ?i ?l ?c ?k
        (case a => k_is)
        (case i => k_is)
        (case l => k_is)
        (case c => k_is)
        (case k => k_is)
    case defs =>
      constructor
      all_goals
        refine' Rt.at_mk KX G ?a ?l ?c ?k
        (case a => k_is)
        (case l => k_is)
        (case c => k_is)
        (case k => k_is)
    case nils =>
      constructor
      all_goals
        refine' PySem.W.mg_none_of KX G ?z
        (case z => k_is)
    case cons =>
      constructor
      (case let_ => exact ⟨_, PySem.W.mg_of KX G (by k_is)⟩)
      (case sgn => exact ⟨_, PySem.W.mg_of KX G (by k_is)⟩)
      (case lw => exact ⟨_, PySem.W.mg_of KX G (by k_is)⟩)
      (case gs => exact ⟨_, PySem.W.mg_of KX G (by k_is)⟩)
      (case lcm => exact PySem.W.mg_of KX G (by k_is))
