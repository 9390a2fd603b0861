import PyProof.Rows.All
import Wide.All
import OpenK.AllK
import Wide.FinOn
import PyProof.LongRange
import PyProof.ReprRoads
import HandS.Base
import HandS.Call
import HandS.List
import HandS.Words
import HandS.WordsList
import HandS.Ends
import HandS.ExcInit
import HandS.ExcValue
import HandS.ExcField
import HandS.ExcIs
import HandS.IsInst
import KE.KExcIs
import KE.KExcInit
import HandS.Dict
import HandS.WordsDict
import HandS.Wide
import HandS.Comp
import HandS.Style
import HandS.Text
import KE.KExcLine
import PySem.Challenge.RW_roundticks_k00_errors
set_option Elab.async false
set_option linter.all false
set_option maxRecDepth 100000
set_option maxHeartbeats 8000000
/-! own rules: far ranges, repr of data, promises under known guards -/
namespace Rt
open PySem PySem.Spec L2
open PyProof.Rows hiding St
/-! ### a range between any two ints -/
theorem turn_far {P : Program} {w : World} {K : PySem.W.Frag} {tg : Expr} (c : Addr) (lo : Int) (n : Nat) :
    Turn P w K tg (Itr lo n) [c] c (fun i h => IsLongIter h c (lo + ((i : Nat) : Int) * 1) ((n : Int) - ((i : Nat) : Int)) 1) := by
  constructor
  · exact List.mem_singleton.mpr rfl
  · intro i h st b hb
    cases List.mem_singleton.mp hb
    exact ⟨_, st, fun v z => by injection z⟩
  · intro i h h' st kp
    exact kp c (List.mem_singleton.mpr rfl) _ st
  · rintro X rfl rfl rfl calm i pins s σ H E I fresh st more
    obtain ⟨g0, g1, g2, g3, g4, g5⟩ := fresh c (List.mem_singleton.mpr rfl)
    refine (Walks.longrange (prog := X.prog) (w := X.w) (I.ok.hd calm) c lo 1 n).item i s _ _ more st fun v h' tk hv st' kp => ?_
    obtain ⟨t, rfl⟩ := hv
    have J : Inv X pins σ H { s with heap := h', toks := tk } :=
      I.turned (fun b o nb e => kp b o (fun z => nb (List.mem_singleton.mp z)) e) g0 g1 g3 g4 g5
    refine ⟨_, rfl, go_of (n := "longrange_iterator") (s := { s with heap := h', toks := tk }) st' rfl rfl (by decide) ?_⟩
    refine ⟨.int (lo + (i : Int)), H, J, ⟨t, by rw [Int.mul_one]⟩, ⟨rfl, rfl⟩, st', fun b hb => (fresh b hb).1⟩
  · rintro X rfl rfl rfl calm i pins s σ H E I fresh st over
    obtain ⟨g0, g1, g2, g3, g4, g5⟩ := fresh c (List.mem_singleton.mpr rfl)
    have le : (n : Int) - (i : Int) ≤ 0 := by have q : n ≤ i := over; omega
    exact wpAny_pyNext_long_end (I.ok.hd calm) st le fun h' kp =>
      ⟨rfl, I.turned (t' := s.toks) (fun b o nb e => kp b o nb e) g0 g1 g3 g4 g5⟩
  · intro A i s Q E st q
    exact wpAny_pyIter_longiter st q
section
variable {X : Cx} {tg : Expr}
theorem far_it {pins : List (Addr × Obj)} {σ : St} {H : Hp} {s : Shared} {R : It → Hp → Prop} {E : Value → Shared → Prop} {lo hi : Int} {t u v : Tok} {tk : Nat}
    (I : Inv X pins σ H s) (q : R (Itr lo (hi - lo).toNat) H) :
    wpAny (model X.prog X.w) X.A (pyIter (.ref s.heap.objs.size)) (PIE X pins σ tg R) E
      { s with heap := s.heap.push { cls := .type "range", data := .fields #[.int lo t, .int hi u, .int 1 v] }, toks := tk } := by
  have J : Inv X pins σ H { s with heap := s.heap.push { cls := .type "range", data := .fields #[.int lo t, .int hi u, .int 1 v] }, toks := tk } :=
    I.kept fun b o e => Heap.get?_push_of_some _ e
  have ez : lo + (((0 : Nat)) : Int) * 1 = lo := by simp
  have en : (((hi - lo).toNat : Nat) : Int) - ((0 : Nat) : Int) = Builtin.Range.rangeSize lo hi 1 := by
    rw [rangeSize_one]
    split <;> omega
  have fr : ∀ (h2 : Heap) (tk2 : Nat) (b : Addr), Inv X pins σ H { s with heap := h2, toks := tk2 } → b = h2.objs.size → FpOk X pins H b := fun h2 tk2 b J2 e => by
    subst e
    exact J2.fpOk (Nat.le_refl _) (J2.hok.fresh (Nat.le_refl _))
  cases sm : Builtin.Range.small lo hi 1 with
  | true =>
    refine wpAny_pyIter_range (IsRange.new ..) sm ?_
    refine ⟨_, [_], _, Itr lo (hi - lo).toNat, H, rfl, J.kept (t' := tk) fun b o e => Heap.get?_push_of_some _ e, turn_range _ lo (hi - lo).toNat, ?_, fun b hb => fr _ tk b J (List.mem_singleton.mp hb), q⟩
    show IsRangeIter _ _ (lo + (((0 : Nat)) : Int) * 1) ((((hi - lo).toNat : Nat) : Int) - ((0 : Nat) : Int)) 1
    rw [ez, en]
    exact Heap.get?_push_size _ rfl
  | false =>
    refine wpAny_pyIter_longrange (IsRange.new ..) sm ?_
    refine ⟨_, [_], _, Itr lo (hi - lo).toNat, H, rfl, J.kept (t' := tk) fun b o e => Heap.get?_push_of_some _ e, turn_far _ lo (hi - lo).toNat, ?_, fun b hb => fr _ tk b J (List.mem_singleton.mp hb), q⟩
    show IsLongIter _ _ (lo + (((0 : Nat)) : Int) * 1) ((((hi - lo).toNat : Nat) : Int) - ((0 : Nat) : Int)) 1
    rw [ez, en]
    exact Heap.get?_push_size _ rfl
def iFar (ta : TA) : TI := fun σ H R => ta σ H fun vs H1 => ∃ i j : Int, vs = [.int i, .int j] ∧ R (Itr i (j - i).toNat) H1
/-- for x in range(a, b), of ints of any size -/
theorem pi_far {a b : Expr} {ta : TA} {p pos : Pos} (hg : Gl X "range") (hm : X.mg "range" = none) (ha : PA X [a, b] ta)
    (h1 : starEach [a, b] X.env = [(false, eval a X.env), (false, eval b X.env)] := by rfl) (h2 : starEach [b] X.env = [(false, eval b X.env)] := by rfl) :
    PI X tg (.Call (.Name "range" p) [a, b] [] pos) (iFar ta) := by
  constructor
  intro pins s σ H R I h
  have two := thn (ha.run pos pins s σ H _ I h) (Q' := fun us s1 => wpAny (model X.prog X.w) X.A (call (.type "range") us) (fun v s2 => wpAny (model X.prog X.w) X.A (pyIter v) (PIE X pins σ tg R) X.xe s2) X.xe s1)
    fun us s1 ⟨vs, H1, I1, r1, i, j, e, q⟩ => by
      subst e
      obtain ⟨u1, u2, rfl, ⟨t1, rfl⟩, ⟨t2, rfl⟩⟩ := vals2 r1
      exact call_range_2 (far_it I1 q)
  refine PyProof.Rows.Call_ (ld_blt I hg hm boot_range (PyProof.Rows.callWith_type1 two ?_ ?_))
  · rw [h1, h2]
  · rw [h2]; rfl
end
end Rt
namespace Rt
open PySem PySem.Spec L2
open PyProof.Rows hiding St
/-! ### repr of data -/
mutual
theorem dp_plain {K : PySem.W.Frag} {H : Hp} : ∀ (d : PyData) (v : V), Dp K H v d → d.hasDict = false
  | .none, _, _ => by simp only [PyData.hasDict]
  | .bool _, _, _ => by simp only [PyData.hasDict]
  | .int _, _, _ => by simp only [PyData.hasDict]
  | .str _, _, _ => by simp only [PyData.hasDict]
  | .list ds, _, h => by
    cases h with
    | lst _ ha =>
      simp only [PyData.hasDict]
      exact dp_plainAll ds _ ha
  | .tuple ds, _, h => by
    cases h with
    | tup _ ha =>
      simp only [PyData.hasDict]
      exact dp_plainAll ds _ ha
  | .dict _, _, h => by cases h
theorem dp_plainAll {K : PySem.W.Frag} {H : Hp} : ∀ (ds : List PyData) (vs : List V), DpAll K H vs ds → PyData.hasDictAll ds = false
  | [], _, _ => by simp only [PyData.hasDictAll]
  | d :: ds, _, h => by
    cases h with
    | cons h1 h2 => simp only [PyData.hasDictAll, dp_plain d _ h1, dp_plainAll ds _ h2, Bool.or_self]
end
def rRepr (K : PySem.W.Frag) : List V → Hp → VK → Prop := fun xs H Q => ∃ v d, xs = [v] ∧ Dp K H v d ∧ d.showable = true ∧ d.depth ≤ 60 ∧ d.shown.length ≤ sizeLine ∧ Q (.str d.shown) H
section
variable {X : Cx}
theorem call_repr (hg : X.A.guards = some []) (hu : X.A.units + 64 < cLine) : CallR X (.builtin "repr") (rRepr X.K) := by
  intro pins s σ H xs us Q I r h
  obtain ⟨v, d, rfl, hd, hs, hdep, hz, q⟩ := h
  obtain ⟨u, rfl, ru⟩ := vals1 r
  have np := dp_plain d v hd
  obtain ⟨as, rd⟩ := Dp.reads I d v u hd ru
  cases rd with
  | none => exact PySem.P.repr_of_none ⟨.str _, H, I.tok _, ⟨_, rfl⟩, by simpa only [PyData.shown] using q⟩
  | bool b => exact PySem.P.repr_of_bool ⟨.str _, H, I.tok _, ⟨_, rfl⟩, by simpa only [PyData.shown] using q⟩
  | int i t => exact PySem.P.repr_of_int (by simpa [PyData.showable] using hs) ⟨.str _, H, I.tok _, ⟨_, rfl⟩, by simpa only [PyData.shown] using q⟩
  | str x t => exact PySem.P.repr_of_str ⟨.str _, H, I.tok _, ⟨_, rfl⟩, by simpa only [PyData.shown] using q⟩ (by simpa only [PyData.shown] using hz)
  | list h1 h2 h3 h4 =>
    exact repr_of_reads' (.list h1 h2 h3 h4) hs (fun z => by rw [np] at z; cases z) hg (by omega) (fun _ _ e => e) (fun h' u tk kp => ⟨.str _, H, I.kept kp, ⟨u, rfl⟩, q⟩) hz
  | tuple h1 h2 h3 h4 =>
    exact repr_of_reads' (.tuple h1 h2 h3 h4) hs (fun z => by rw [np] at z; cases z) hg (by omega) (fun _ _ e => e) (fun h' u tk kp => ⟨.str _, H, I.kept kp, ⟨u, rfl⟩, q⟩) hz
  | dict => simp [PyData.hasDict] at np
end
end Rt
namespace Rt
open PySem PySem.Spec L2
open PyProof.Rows hiding St
/-! ### promises of defs that are called where no guard stands -/
structure FnG (P : Program) (w : World) (K : PySem.W.Frag) (mg : Str → Option Value) (base : Heap) (k : Nat) (f : Addr) (fd : FuncData) (ps : List Str) (sp : Sp) : Prop where
  many : ∀ vs H Q E, sp vs H Q E → vs.length = ps.length
  go : ∀ (A : Around), A.guards = some [] → Room k A → ∀ (outer : List Env) (s : Shared) (H : Hp) (args : Args) (us : List Value) (vs : List V) (Q : VK) (E : XK), Env0 P w K mg base A outer s H →
    BindsTo s fd args (ps.zip us) → Vals vs us → sp vs H Q E → codeAny (model P w) A (.call (.ref f) args) (CR CX0 outer P w H s Q E) s
section
variable {P : Program} {w : World} {K : PySem.W.Frag} {mg : Str → Option Value} {base : Heap}
theorem okG {x qual : Str} {st : Stmt} {f : Addr} {fd : FuncData} {N ps : List Str} {k : Nat} {sp : Sp} (F : Fun K x qual st f fd) (S : FnScope N ps (defScope st))
    (many : ∀ vs H Q E, sp vs H Q E → vs.length = ps.length)
    (body : ∀ (cdv : Value) (A : Around) (outer : List Env) (s : Shared) (H : Hp) (vs : List V) (Q : VK) (E : XK), A.guards = some [] →
      Room k (A.deeper (envOfC qual (defScope st) s.heap.objs.size f cdv)) → sp vs H Q E →
      ∃ t, PSs (cxOf CX0 P w K mg base N qual (defScope st) f cdv A outer s H E).nox (defBody st) t ∧ t { nx := fun _ H' => Q .non H', rt := Q } (start N vs) H) :
    FnG P w K mg base (k + 1) f fd ps sp := by
  obtain ⟨oc, od, kV, doc, pm, an, cdv, ct, osl, rfl, lk, hcd⟩ := F.ex
  refine ⟨many, ?_⟩
  intro A hg room outer s H args us vs Q E e0 bt rv want
  have size := many vs H Q E want
  have kin : K.In s.heap := e0.mod.kin.keeps fun b o e => (e0.bs b o e).1
  have noLim : s.heap.NoLimit := e0.mod.nolimit.keeps fun b o e => (e0.bs b o e).1
  refine codeAny_call_function room.depth (kin _ _ lk) rfl S.co S.gen rfl (PySem.W.codeRec_of kin hcd) (bt _ _ _ _ ?_)
  refine wpAny_newFunctionEnv_cells S.kind ?_ ?_
  · rintro ⟨nm, val⟩ mem
    exact (S.par nm (List.of_mem_zip mem).1).imp id fun c => ⟨c, PySem.W.cellsFrom_some _ _ _ (.inl c)⟩
  · rintro env rfl s1 entry
    refine ⟨noLim.keeps entry.toInCall.keep, codeAny_func ?_⟩
    obtain ⟨t, ht, now⟩ := body cdv A outer s H vs Q E hg (room.deeper _) want
    have J := inv_start (CX := CX0) (E := E) S room.hd e0 size rv entry
    refine wpAny_mono (ht.nox.run [] s1 (start N vs) H _ J now) (fun way s2 out => ?_) fun _ _ z => z
    cases way with
    | ret u =>
      obtain ⟨v, σ2, H2, J2, ru, q2⟩ := out
      exact ⟨v, H2, J2.os, J2.bare, J2.base, J2.hok, ru, q2⟩
    | next =>
      obtain ⟨σ2, H2, J2, q2⟩ := out
      exact ⟨V.non, H2, J2.os, J2.bare, J2.base, J2.hok, rfl, q2⟩
    | brk => exact out.elim fun _ z => z.elim fun _ y => y.2.elim
    | cont => exact out.elim fun _ z => z.elim fun _ y => y.2.elim
end
/-- a def of the module that may be called by its name -/
structure Cb (P : Program) (w : World) (K : PySem.W.Frag) (mg : Str → Option Value) (base : Heap) (k : Nat) (x : Str) (sp : Sp) : Prop where
  ex : ∃ (f : Addr) (fd : FuncData) (ps : List Str), FnG P w K mg base k f fd ps sp ∧ mg x = some (.ref f) ∧ PySem.W.keepIn K (.ref f) = true ∧ Binds K fd ps []
section
variable {X : Cx} {k j : Nat} {x : Str} {sp : Sp} {p pos : Pos} {e : Expr} {es : List Expr} {t : TA}
theorem pe_k (c : Cb X.prog X.w X.K X.mg X.base k x sp) (hg : X.A.guards = some []) (hr : Room j X.A) (hk : k ≤ j) (hx : Gl X x) (ha : PA X (e :: es) t)
    (hdb : (x == ("__debug__" : Str)) = false := by decide) (he : starEach (e :: es) X.env = (false, eval e X.env) :: starEach es X.env := by rfl)
    (hpl : (backTo pos (starEach es X.env)).any (·.1) = false := by rfl) : PE X (.Call (.Name x p) (e :: es) [] pos) (tCall sp [] E0 t) := by
  obtain ⟨f, fd, ps, G, hm, kp, bd⟩ := c.ex
  constructor
  intro pins s σ H Q I want
  refine wpAny_Call_Name_kw (ld_glob I hx hm ?_ hdb)
  refine PySem.W.callWith_K (h₀ := X.base) I.ok.mod.kin kp (thn (ha.run pos pins s σ H _ I want) ?_) he hpl
  rintro us s1 ⟨vs, H1, J, rv, q⟩
  refine ⟨J.kIn, ?_⟩
  have q' : sp vs H1 Q E0 := by simpa using q
  have size : us.length = ps.length := by
    rw [← rv.length]
    exact G.many _ _ _ _ q'
  have b1 : BindsTo s1 fd ⟨us, []⟩ (ps.zip us) := by
    have z := bd s1 us J.kIn (by simpa using size)
    simpa using z
  refine wpAny_call (codeAny_mono (G.go X.A hg (hr.mono hk) X.stack s1 H1 ⟨us, []⟩ us vs Q E0 J.env0 b1 rv q') ?_)
  intro r s2 out
  match r, out with
  | .error _, z => exact False.elim z
  | .ok (.ret u), z => exact J.after z
  | .ok .next, z => exact False.elim z
  | .ok .brk, z => exact False.elim z
  | .ok .cont, z => exact False.elim z
end
end Rt
namespace Rt
open PySem PySem.Spec L2
open PyProof.Rows hiding St
/-! ### the law's own call -/
abbrev isTrue1 (s₁ : Shared) : Result → Shared → Prop := fun r s' => r = .ok (.ret (.bool true)) ∧ OldK s₁.heap s'.heap ∧ s'.os = s₁.os ∧ AllBare s'.gens
/-- nothing but the script is tracked, at most -/
structure Bare (H : Hp) (h : Heap) (K : PySem.W.Frag) (a : Addr) : Prop where
  only : Only H
  here : ∀ b, H b ≠ none → b = a
  notK : H a ≠ none → K.lookup a = none
section
variable {P : Program} {w : World} {K : PySem.W.Frag} {mg mb : Str → Option Value} {k : Nat} {fa a : Addr} {fd : FuncData} {x : Str} {sp : Sp} {s₁ : Shared} {vs : List Value} {ns : List Int}
theorem bare_call {H : Hp} (B : Bare H s₁.heap K a) (ok : HOk P w H s₁.heap) (KX : K.In s₁.heap) (hns : s₁.heap.Ns mainGlobals mg) (hb : s₁.heap.Ns builtinsNs mb) (hbb : ∀ x : Str, x ≠ "__name__" → mb x = bootBuiltins x)
    (lim : s₁.heap.NoLimit) (gens : s₁.gens = #[]) (ha : s₁.heap.get? a = some { cls := .type "list", data := .seq vs.toArray }) (room : Room k callerA)
    (F : ∀ base : Heap, K.In base → base.Ns mainGlobals mg → FnG P w K mg base k fa fd [x] sp) (bind : ∀ (s : Shared) (u : Value), BindsTo s fd ⟨[u], []⟩ [(x, u)])
    (want : sp [.ref a] H (fun v _ => v = .bl true) E0) : codeAny (model P w) callerA (.call (.ref fa) ⟨[.ref a], []⟩) (isTrue1 s₁) s₁ := by
  -- an object that is no list is untracked
  have dictFree : ∀ {b : Addr} {o : Obj} {es : Array DictEntry} {ep : Nat}, s₁.heap.get? b = some o → o.data = .dict es ep → H b = none := by
    intro b o es ep hb hd
    by_cases z : H b = none
    · exact z
    · exfalso
      cases B.here b z
      rw [ha] at hb
      cases hb
      exact nomatch hd
  have kFree : ∀ {b : Addr} {o : Obj}, K.lookup b = some o → H b = none := by
    intro b o hb
    by_cases z : H b = none
    · exact z
    · exfalso
      cases B.here b z
      rw [B.notK z] at hb
      cases hb
  have names : ∀ {b : Addr} {m : Str → Option Value}, s₁.heap.Ns b m → (hidT s₁.heap H).Ns b m := by
    rintro b m ⟨o, es, ep, e, d, r⟩
    exact ⟨o, es, ep, hidT_get e (dictFree e d), d, r⟩
  have inBase : K.In (hidT s₁.heap H) := fun b o e => hidT_get (KX b o e) (kFree e)
  have noLim : (hidT s₁.heap H).NoLimit := by
    obtain ⟨mc, z1, z2⟩ := lim
    exact ⟨mc, names z1, z2⟩
  have e0 : Env0 P w K mg (hidT s₁.heap H) callerA [] s₁ H := by
    constructor
    · rfl
    · exact ⟨inBase, names hns, ⟨mb, names hb, hbb⟩, noLim⟩
    · exact fun b o e => of_hidT e
    · exact Nat.le_of_eq (hidT_size _ _)
    · exact True.intro
    · exact fun b hb => nomatch (show b ∈ ([] : List Addr) from hb)
    · exact ok
    · exact .of_eq gens
  have run := (F _ inBase (names hns)).go callerA rfl room [] s₁ H ⟨[.ref a], []⟩ [.ref a] [.ref a] _ _ e0 (bind s₁ (.ref a)) (.cons rfl .nil) want
  refine codeAny_mono run ?_
  intro r s2 out
  match r, out with
  | .error _, z => exact False.elim z
  | .ok .next, z => exact False.elim z
  | .ok .brk, z => exact False.elim z
  | .ok .cont, z => exact False.elim z
  | .ok (.ret u), ⟨v, H2, os, bare, un, ok2, ru, q⟩ =>
    obtain rfl : v = .bl true := q
    obtain rfl : u = Value.bool true := ru
    refine ⟨rfl, OldK.of_keep ?_, os, bare⟩
    intro b o e
    by_cases z : H b = none
    · exact un.keep b o e z (fun y => nomatch (show b ∈ ([] : List Addr) from y)) (fun y => nomatch (show b ∈ ([] : List Addr) from y))
    · rcases B.only b with y | ⟨ob, xs, y⟩
      · exact absurd y z
      · have e1 := (ok b _ y).1
        have e2 := (ok2 b _ (un.frzs b ob _ y)).1
        rw [e] at e1
        cases e1
        exact e2
theorem law_g (KX : K.In s₁.heap) (hns : s₁.heap.Ns mainGlobals mg) (hb : s₁.heap.Ns builtinsNs mb) (hbb : ∀ x : Str, x ≠ "__name__" → mb x = bootBuiltins x) (lim : s₁.heap.NoLimit) (gens : s₁.gens = #[])
    (ha : s₁.heap.get? a = some { cls := .type "list", data := .seq vs.toArray }) (nums : IntsAre vs ns) (fit : ns.length ≤ sizeLine) (room : Room k callerA)
    (F : ∀ base : Heap, K.In base → base.Ns mainGlobals mg → FnG P w K mg base k fa fd [x] sp) (bind : ∀ (s : Shared) (u : Value), BindsTo s fd ⟨[u], []⟩ [(x, u)])
    (want : ∀ H : Hp, Only H → SqL K H a (ns.map V.int) → sp [.ref a] H (fun v _ => v = .bl true) E0) :
    codeAny (model P w) callerA (.call (.ref fa) ⟨[.ref a], []⟩) (isTrue1 s₁) s₁ := by
  have rv := vals_ints nums
  have lv := nums.length
  rcases hk : K.lookup a with _ | o
  · -- the script is no object of the module's own
    let H : Hp := fun b => if b = a then some (.frz { cls := .type "list", data := .seq vs.toArray } (.lst (ns.map V.int))) else none
    have Ha : H a = some (.frz { cls := .type "list", data := .seq vs.toArray } (.lst (ns.map V.int))) := if_pos rfl
    have Hn : ∀ b, b ≠ a → H b = none := fun b z => if_neg z
    have only : Only H := fun b => by
      by_cases z : b = a
      · subst z
        exact .inr ⟨_, _, Ha⟩
      · exact .inl (Hn b z)
    have here : ∀ b, H b ≠ none → b = a := fun b z => by
      by_cases y : b = a
      · exact y
      · exact absurd (Hn b y) z
    have ok : HOk P w H s₁.heap := fun b u e => by
      by_cases y : b = a
      · subst y
        rw [Ha] at e
        cases e
        refine ⟨ha, ?_, vs, _, rv, ha⟩
        rw [List.length_map]
        exact fit
      · rw [Hn b y] at e
        cases e
    exact bare_call ⟨only, here, fun _ => hk⟩ ok KX hns hb hbb lim gens ha room F bind (want H only (.inl (.inr ⟨_, Ha⟩)))
  · have e := KX a o hk
    rw [ha] at e
    cases e
    have only : Only (fun _ => none) := fun _ => .inl rfl
    refine bare_call (H := fun _ => none) ⟨only, fun b z => absurd rfl z, fun z => absurd rfl z⟩ (fun b u e => nomatch e) KX hns hb hbb lim gens ha room F bind ?_
    refine want _ only (.inr ⟨_, vs.toArray, _, hk, rfl, rfl, rfl, ?_, by simpa using rv⟩)
    rw [List.size_toArray, lv]
    exact fit
theorem walk_g {l : PySem.W.OpenLaw} {n k : Nat} {q : Program} {loose : List Str} {XP : (Str → Option Value) → Heap → Prop} {YP : World → Heap → Prop} {d : DefRec} {K : Params → PySem.W.Frag} {sp : PySem.W.Frag → Sp} {x : Str}
    (hn : l.most = some n) (le : n ≤ sizeLine) (noDf : d.params.defaults = []) (room : Room k callerA) (hY : ∀ (w : World) (h : Heap), YP w h → (K w.params).In h)
    (F : ∀ (w : World) (mg : Str → Option Value) (fa : Addr) (h : Heap), (K w.params).In h → h.Ns mainGlobals mg → mg d.name = some (.ref fa) →
      ∃ fd : FuncData, (∀ (s : Shared) (u : Value), BindsTo s fd ⟨[u], []⟩ [(x, u)]) ∧
        ∀ base : Heap, (K w.params).In base → base.Ns mainGlobals mg → FnG l.prog w (K w.params) mg base k fa fd [x] (sp (K w.params)))
    (want : ∀ (K : PySem.W.Frag) (H : Hp) (a : Addr) (ns : List Int), ns.length ≤ n → SqL K H a (ns.map V.int) → sp K [.ref a] H (fun v _ => v = .bl true) E0) :
    PySem.W.WalkO q loose XP YP l.row.toRowW d [] (fun f vs => PySem.call f vs) := by
  refine Att.attach_call hn noDf ?_
  intro w s₀ s₁ mg mb fa o pm cd doc a vs ns G Y ho hd hcd hmg hobj nums few gens
  obtain ⟨fd, bind, each⟩ := F w mg fa _ (hY w _ Y) G.T.g hmg
  exact law_g (hY w _ Y) G.T.g G.T.b G.T.builtins G.T.nolimit gens hobj nums (Nat.le_trans few le) room each bind fun H _ hS => want _ H a ns few hS
end
end Rt
namespace Rt
open PySem PySem.Spec L2
open PyProof.Rows hiding St
/-! ### the defs as the top has left them -/
structure At (K : PySem.W.Frag) (mg : Str → Option Value) (x : Str) (st : Stmt) : Prop where
  ex : ∃ (f : Addr) (fd : FuncData), Fun K x x st f fd ∧ mg x = some (.ref f)
section
variable {P : Program} {w : World} {K : PySem.W.Frag} {mg : Str → Option Value} {base h : Heap} {x : Str} {st : Stmt}
theorem at_mk {f : Addr} {oc kV dc pm cd ct : Value} {od an : Option Addr} {sl : Array (Option Value)} (X : K.In h) (G : h.Ns mainGlobals mg) (a : PySem.W.nsIn K mainGlobals x = some (some (.ref f)))
    (l : K.lookup f = some ⟨oc, od, .func (PySem.W.fnOf x x (defArgs st) (defBody st) (defScope st) .none kV dc pm an cd ct), sl⟩) (c : PySem.W.codeIn K cd x = true) (k : PySem.W.keepIn K (.ref f) = true) : At K mg x st :=
  ⟨f, _, fun_mk l c k, PySem.W.mg_of X G a⟩
theorem At.cb {k : Nat} {ps : List Str} {sp : Sp} (A : At K mg x st) (ok : ∀ (f : Addr) (fd : FuncData), Fun K x x st f fd → FnG P w K mg base k f fd ps sp)
    (bd : ∀ (f : Addr) (fd : FuncData), Fun K x x st f fd → Binds K fd ps []) : Cb P w K mg base k x sp := by
  obtain ⟨f, fd, F, m⟩ := A.ex
  exact ⟨f, fd, ps, ok f fd F, m, F.kp, bd f fd F⟩
end
end Rt
/-! own rules: exceptions as values, with attributes -/
namespace Rt
open PySem PySem.Spec L2
open PyProof.Rows hiding St
/-- an exception of the class at C stands at a; its attributes are fs -/
def Ex (H : Hp) (a C : Addr) (fs : List (Str × V)) : Prop := (fs = [] ∧ H a = some (exo a C none)) ∨ ∃ d, H a = some (exo a C (some d)) ∧ H d = some (exd d fs)
section
variable {X : Cx} {pins : List (Addr × Obj)} {σ : St} {H : Hp} {s : Shared} {a C : Addr} {fs : List (Str × V)}
/-- its object, and its own dict, if it has one -/
theorem ex_inst (I : Inv X pins σ H s) (e : Ex H a C fs) : ∃ (ox : Obj) (od : Option Obj), PySem.W.InstAt s.heap a ox C od ∧
    ∀ n v, fs.lookup n = some v → ∃ u o, od = some o ∧ PySem.W.lookIn n o = some (some u) ∧ L2.RelV v u := by
  rcases e with ⟨rfl, e⟩ | ⟨d, e, ed⟩
  · obtain ⟨t1, he⟩ := exo_at I.hok e
    exact ⟨_, none, ⟨he, rfl, rfl, trivial⟩, fun n v z => nomatch z⟩
  · obtain ⟨t1, he⟩ := exo_at I.hok e
    obtain ⟨mA, hns, rel⟩ := exd_at I.hok ed
    obtain ⟨od, ho, hl⟩ := lookIn_ns hns
    refine ⟨_, some od, ⟨he, rfl, rfl, ho⟩, fun n v z => ?_⟩
    obtain ⟨u, hu, ru⟩ := RelO.some_of (v := v) (o := mA n) (by rw [← z]; exact rel n)
    exact ⟨u, od, rfl, by rw [hl, hu], ru⟩
theorem ex_kit (C' : ExcC X.K C) : PySem.W.KitX X.K (.ref a) (.ref C) (fun h => ∃ ox od, PySem.W.InstAt h a ox C od) := by
  have hcl : (PySem.W.clsIn X.K C).isSome = true := by
    obtain ⟨cd, hc, _⟩ := PySem.W.any_some C'.hd
    rw [hc]
    rfl
  have Z := fun ox od => PySem.W.kitx_exc (x := a) (ox := ox) (od := od) hcl C'.hg C'.hk C'.hs C'.ha C'.hn C'.ht C'.hm
  exact ⟨fun _ _ x ⟨ox, od, p⟩ => (Z ox od).ty _ _ x p, fun _ _ x ⟨ox, od, p⟩ => (Z ox od).it _ _ x p, fun h tp dd its n sl x t => (Z default none).ne h tp dd its n sl x t, fun x ⟨ox, od, p⟩ k => (Z ox od).ca x p k⟩
end
/-- isinstance(e, c), isinstance(e, (c1, c2)) -/
def rIsX (K : PySem.W.Frag) : List V → Hp → VK → Prop := fun xs H Q => ∃ (a C : Addr) (fs : List (Str × V)), Ex H a C fs ∧ ExcC K C ∧
  ((∃ (c : V) (u : Value) (b : Bool), xs = [.ref a, c] ∧ ClsV c u ∧ PySem.W.kitOne K (.ref C) u = some b ∧ Q (.bl b) H) ∨
   (∃ (tp : Addr) (cs : List V) (us : List Value) (b : Bool), xs = [.ref a, .ref tp] ∧ H tp = some (.tup cs) ∧ Paired ClsV cs us ∧ PySem.W.kitAny K (.ref C) us = some b ∧ Q (.bl b) H))
section
variable {X : Cx}
theorem call_isX : CallR X (.builtin "isinstance") (rIsX X.K) := by
  intro pins s σ H xs us Q I r h
  obtain ⟨a, C, fs, e, CC, h⟩ := h
  obtain ⟨ox, od, J, _⟩ := ex_inst I e
  have no : (Value.ref a) ≠ .builtin "__main__.__loader__#opaque" := fun z => nomatch z
  rcases h with ⟨c, u, b, rfl, k, ek, q⟩ | ⟨tp, cs, ws, b, rfl, hT, k, ek, q⟩
  · obtain ⟨u1, u2, rfl, r1, r2⟩ := vals2 r
    cases r1
    cases k.eq r2
    exact PySem.W.kia_one (ex_kit CC) I.kIn ⟨ox, od, J⟩ ek no fun tk => ⟨.bl b, H, I.tok tk, rfl, q⟩
  · obtain ⟨u1, u2, rfl, r1, r2⟩ := vals2 r
    cases r1
    cases r2
    obtain ⟨_, its, rv, o, h1, h2, n, h3⟩ := (show ObjOk X.prog X.w H s.heap tp (.tup cs) from I.hok tp _ hT)
    cases ClsV.all k rv
    obtain ⟨oc, ode, dt, sl⟩ := o
    cases h2
    cases h3
    exact PySem.W.kia_tup (ex_kit CC) I.kIn ⟨ox, od, J⟩ h1 ek no fun tk => ⟨.bl b, H, I.tok tk, rfl, q⟩
/-- e.n of such an exception -/
def tXg (K : PySem.W.Frag) (n : Str) (te : TE) : TE := fun σ H Q => te σ H fun x H1 => ∃ (a C : Addr) (fs : List (Str × V)) (v : V), x = .ref a ∧ Ex H1 a C fs ∧ ExcC K C ∧ PySem.W.findIn K (.ref C) n = some none ∧ fs.lookup n = some v ∧ Q v H1
theorem pe_xg {e : Expr} {te : TE} {pos : Pos} {n : Str} (he : PE X e te) (hb : attributeBase e n X.env (eval e X.env) = eval e X.env := by rfl) : PE X (.Attribute e n pos) (tXg X.K n te) := by
  constructor
  intro pins s σ H Q I h
  refine attr_of hb (thn (he.run pins s σ H _ I h) ?_)
  rintro u s1 ⟨x, H1, J, rx, a, C, fs, v, rfl, ex, CC, hno, l, q⟩
  cases rx
  obtain ⟨ox, od, inst, look⟩ := ex_inst J ex
  obtain ⟨w, o, rfl, lu, rw'⟩ := look n v l
  exact HandSPX.exc_get J.kIn inst CC.hg CC.hk CC.hs (PySem.W.findObj_own CC.hd hno rfl lu) (handed_of rw') ⟨v, H1, J.tok _, rw', q⟩
end
end Rt
namespace Rt
open PySem PySem.Spec L2
open PyProof.Rows hiding St
section
open Builtin Builtin.ObjectAttr PySem.Calls
variable {prog : Program} {w : World} {A : Around} {R : Result → Shared → Prop} {hp : Heap} {g : Array GenState} {d : Drawn} {t : Nat} {os : OsState}
/-- the first attribute of an exception of one's own, whatever its built-in base is -/
theorem exc_first {K : PySem.W.Frag} {B : String} {bmB : List Value} {name : Str} {tk : Tok} {v : Value} {x C : Addr} {fv : Array Value}
    (SF : StoreFacts B bmB "object.__setattr__" "object") (kin : K.In hp) (hx : hp.get? x = some { cls := .ref C, data := .fields fv }) (over : PySem.W.excOver K C bmB = true) (no : PySem.W.findIn K (.ref C) name = some none) (hd : PySem.W.hasDictIn K C = true)
    (hq : ∀ h' tk' dx, (∀ b o, b ≠ x → hp.get? b = some o → h'.get? b = some o) → hp.objs.size ≤ dx → dx ≠ x → h'.get? x = some { cls := .ref C, dict := some dx, data := .fields fv } →
      h'.Ns1 dx (fun y => if y = name then some v else none) → R (.ok (.ret .none)) ⟨h', g, d, tk', os⟩) :
    codeAny (model prog w) A (.call (.builtin "object.__setattr__") ⟨[.ref x, .str name tk, v], []⟩) R ⟨hp, g, d, t, os⟩ := by
  have inst : PySem.W.InstAt hp x { cls := .ref C, data := .fields fv } C none := ⟨hx, rfl, rfl, trivial⟩
  have taker : PySem.W.takerIn K C name = some none := by
    unfold PySem.W.takerIn
    rw [no]
    rfl
  have far : x ≠ hp.objs.size := Nat.ne_of_lt (Heap.lt_size hx)
  obtain ⟨cd, hcd, hh⟩ := PySem.W.any_some hd
  refine PySem.W.osa_openX (s := ⟨hp, g, d, t, os⟩) SF kin inst over taker fun b => ?_
  have hcls : PySem.W.Looks (model prog w) hp (classData C) cd := PySem.W.looks_clsIn kin hcd
  obtain ⟨nm, bs, mro, ns, qn, hdc, sn, sb, ab, col, del⟩ := cd
  dsimp only at hh
  subst hh
  show wpAny _ _ (storeInOwnDict (.ref x) (.ref C) (.str name tk) name v b) _ _ _
  unfold storeInOwnDict ownDictForStores
  repeat (first | with_reducible refine HandSPX.store_in_new ?_ ?_ | with_reducible refine wpAny_loadPart_at hx ?_ | with_reducible refine hcls.at ?_ | wp_step)
  · exact ⟨_, #[], _, (Heap.get?_update_ne _ _ _ _ far.symm).trans (Heap.get?_push_at rfl rfl), rfl, fun e he => absurd he (by simp), fun _ => rfl⟩
  · intro h' tk' ns1 same
    have there : (hp.push { cls := .type "dict", data := .dict #[] }).get? x = some { cls := .ref C, data := .fields fv } := Heap.get?_push_of_some _ hx
    refine hq h' tk' hp.objs.size ?_ (Nat.le_refl _) far.symm ?_ ns1
    · intro b o nb ho
      exact (same.2 b (Nat.ne_of_lt (Heap.lt_size ho))).trans ((Heap.get?_update_ne _ _ _ _ nb).trans (Heap.get?_push_of_some _ ho))
    · exact (same.2 x far).trans (Heap.get?_update_self _ there rfl)
end
end Rt
namespace Rt
open PySem PySem.Spec L2
open PyProof.Rows hiding St
/-- a class of one's own over a built-in exception: its instances may be made, read, stored into -/
structure ExM (K : PySem.W.Frag) (C : Addr) (bmB : List Value) : Prop where
  over : PySem.W.excOver K C bmB = true
  sa : PySem.W.findIn K (.ref C) "__setattr__" = some (some (.builtin "object.__setattr__"))
  cc : ExcC K C
  kp : PySem.W.keepIn K (.ref C) = true
section
variable {X : Cx} {pins : List (Addr × Obj)} {σ : St} {H : Hp} {s : Shared} {a C : Addr} {f : Str} {y : V} {u : Value} {B : String} {bmB : List Value} {Q : Unit → Shared → Prop} {E : Value → Shared → Prop} {A : Around}
theorem ext_ne {φ : Heap → Prop} {o : HO} {b c : Addr} (h1 : H b = some (.ext φ)) (h2 : H c = some o) (d : ∀ ψ, o ≠ .ext ψ) : c ≠ b := fun z => by
  rw [z, h1] at h2
  exact d φ (Option.some.inj h2).symm
theorem set_first (SF : StoreFacts B bmB "object.__setattr__" "object") (M : ExM X.K C bmB) (no : PySem.W.findIn X.K (.ref C) f = some none) (I : Inv X pins σ H s) (e : H a = some (exo a C none)) (ry : L2.RelV y u)
    (h : ∀ dx s', H dx = none → dx ≠ a → Inv X pins σ (upd (upd H dx (exd dx [(f, y)])) a (exo a C (some dx))) s' → Q () s') : wpAny (model X.prog X.w) A (setAttr (.ref a) f u) Q E s := by
  obtain ⟨t1, there⟩ := exo_at I.hok e
  obtain ⟨hp, g, d, t, os⟩ := s
  refine PySem.W.set_plain (ox := { cls := .ref C, dict := none, data := .fields #[.ref t1, .none, .none, .none, .bool false, .none] }) (od := none) I.kIn ⟨there, rfl, rfl, trivial⟩ M.sa ?_
  refine exc_first SF I.kIn there M.over no M.cc.hd ?_
  intro h' tk' dx kp big apart hx ns1
  have fresh : H dx = none := I.hok.fresh big
  have old : ∀ {b : Addr} {o : Obj}, hp.get? b = some o → b ≠ dx := fun {b o} z => Nat.ne_of_lt (Nat.lt_of_lt_of_le (Heap.lt_size z) big)
  have free : ∀ {b : Addr}, H b = none → b ≠ a := fun {b} z y => by
    rw [y, e] at z
    cases z
  have keepsH : ∀ {b : Addr} {o : HO}, H b = some o → b ≠ a → (upd (upd H dx (exd dx [(f, y)])) a (exo a C (some dx))) b = some o := fun {b o} z nb => by
    rw [upd_ne nb, upd_ne (ne_of_none z fresh)]
    exact z
  have U : Un X.fs [] H (upd (upd H dx (exd dx [(f, y)])) a (exo a C (some dx))) hp h' := by
    constructor
    · exact fun b o z n _ _ => kp b o (free n) z
    · exact fun b o z n _ _ => ⟨o.slots, kp b o (free n) z⟩
    · intro b o z n _
      rw [upd_ne (free n), upd_ne (old z)]
      exact n
    · intro b o z _
      by_cases hb : b = a
      · subst hb
        exact ⟨_, hx⟩
      · exact ⟨o, kp b o hb z⟩
    · exact fun b xs z => keepsH z (ext_ne e z (fun _ => nofun))
    · exact fun b o v z => keepsH z (ext_ne e z (fun _ => nofun))
    · exact fun b ps z => ⟨#[], by rw [keepsH z (ext_ne e z (fun _ => nofun))]; simp⟩
  refine h dx _ fresh apart (I.un (t' := tk') U ?_)
  intro b o z
  by_cases hb : b = a
  · subst hb
    rw [upd_same] at z
    cases z
    exact exo_ok hx
  · rw [upd_ne hb] at z
    by_cases hd : b = dx
    · subst hd
      rw [upd_same] at z
      cases z
      exact exd_ok ns1 (relO_put (fs := []) ry fun _ => True.intro)
    · rw [upd_ne hd] at z
      refine (I.hok b o z).stay (fun c v hc q => kp c v ?_ q) (fun c q => keepsH q (ext_ne e q (fun _ => nofun))) fun c xs q => keepsH q (ext_ne e q (fun _ => nofun))
      rcases hc with rfl | hc
      · exact hb
      · exact ext_ne e hc (fun _ => nofun)
end
/-- self.f = e, within the own __init__ -/
def tXs (K : PySem.W.Frag) (bmB : List Value) (f : Str) (to te : TE) : TS := fun D σ H => te σ H fun y H1 => to σ H1 fun x H2 => ∃ a C : Addr, x = .ref a ∧ ExM K C bmB ∧ PySem.W.findIn K (.ref C) f = some none ∧ H2 a = some (exo a C none) ∧
  ∀ dx, H2 dx = none → dx ≠ a → D.nx σ (upd (upd H2 dx (exd dx [(f, y)])) a (exo a C (some dx)))
section
variable {X : Cx} {o e : Expr} {to te : TE} {f : Str} {p p' pos : Pos} {B : String} {bmB : List Value} {es : List Expr} {ta : TA}
theorem ps_xs (SF : StoreFacts B bmB "object.__setattr__" "object") (ho : PE X o to) (he : PE X e te) (hs : swapsWith e (some (.Attribute o f p')) pos.line X.env = pure false := by rfl) : PS X (.Assign [.Attribute o f p'] e pos) (tXs X.K bmB f to te) := by
  constructor
  intro pins s σ H D I h
  refine plainObj_wpAny_Assign_Attribute (thn (he.run pins s σ H _ I h) ?_) hs
  rintro v s1 ⟨y, H1, J1, r1, q1⟩
  refine thn (ho.run pins s1 σ H1 _ J1 q1) ?_
  rintro u s2 ⟨x, H2, J2, r2, a, C, rfl, M, no, ea, q⟩
  cases r2
  exact set_first SF M no J2 ea r1 fun dx s' n ne J => ⟨σ, _, J, q dx n ne⟩
/-- C(e, ..), C's own __init__ keeping sp: the new exception as a value -/
def tXm (C : Addr) (sp : Sp) (ta : TA) : TE := fun σ H Q => ta σ H fun vs H1 => vs.length ≤ 1000 ∧ ∀ a, H1 a = none → sp (.ref a :: vs) (upd H1 a (exo a C none)) (fun v H2 => v = .non ∧ Q (.ref a) H2) E0
theorem pe_xm {x : Str} {C fI : Addr} {k : Nat} {fd : FuncData} {ps : List Str} {sp : Sp} {newId initId : String} (F : ExcBaseFacts B newId initId bmB) (M : ExM X.K C bmB) (ini : PySem.W.excInitIn X.K C bmB newId = true)
    (iC : PySem.W.findIn X.K (.ref C) "__init__" = some (some (.ref fI))) (tI : PySem.W.typeIn X.K (.ref fI) = some (.type "function")) (G : FnOk X.prog X.w X.K X.mg X.base CX0 k fI fd ps sp) (hr : Room (k + 1) X.A) (hb : Binds X.K fd ps [])
    (hg : Gl X x) (hm : X.mg x = some (.ref C)) (ha : PA X (e :: es) ta) (hdb : (x == ("__debug__" : Str)) = false := by decide) (he : starEach (e :: es) X.env = (false, eval e X.env) :: starEach es X.env := by rfl)
    (hpl : (backTo pos (starEach es X.env)).any (·.1) = false := by rfl) : PE X (.Call (.Name x p) (e :: es) [] pos) (tXm C sp ta) := by
  constructor
  intro pins s σ H Q I h
  refine wpAny_Call_Name_kw (ld_glob I hg hm ?_ hdb)
  refine PySem.W.callWith_K (h₀ := X.base) I.ok.mod.kin M.kp (thn (ha.run pos pins s σ H _ I h) ?_) he hpl
  rintro us s1 ⟨vs, H1, J, rv, few, q⟩
  refine ⟨J.kIn, ?_⟩
  show wpAny _ _ (call (.ref C) us) _ _ _
  obtain ⟨hp, g, dr, tk, os⟩ := s1
  obtain ⟨nm, N, qn, bs, bm, hdct, sn, sub, ab, col, dd, k0, k1, k2, k3, k5, hC, tail⟩ := PySem.W.excInit_of J.kIn ini
  have le : hp.objs.size ≤ hp.objs.size + 1 := Nat.le_succ _
  have hn : H1 (hp.objs.size + 1) = none := J.hok.fresh le
  have want := q (hp.objs.size + 1) hn
  have kept : ∀ b o, hp.get? b = some o → ((hp.push (PySem.W.kdv_tup us)).push (PySem.HandSPX.excO C hp.objs.size)).get? b = some o := fun b o z => Heap.get?_push_of_some _ (Heap.get?_push_of_some _ z)
  have got : ((hp.push (PySem.W.kdv_tup us)).push (PySem.HandSPX.excO C hp.objs.size)).get? (hp.objs.size + 1) = some (PySem.HandSPX.excO C hp.objs.size) := by heap_get
  have J2 : Inv X pins σ (upd H1 (hp.objs.size + 1) (exo (hp.objs.size + 1) C none)) ⟨(hp.push (PySem.W.kdv_tup us)).push (PySem.HandSPX.excO C hp.objs.size), g, dr, tk, os⟩ :=
    J.laid (t' := tk) kept le (exo_ok got)
  have r2 : Vals (V.ref (hp.objs.size + 1) :: vs) (Value.ref (hp.objs.size + 1) :: us) := .cons rfl rv
  have hl : (Value.ref (hp.objs.size + 1) :: us).length = ps.length := by
    rw [← r2.length]
    exact G.len _ _ _ _ want
  have hus : us.length ≤ sizeLine := by
    rw [← Paired.length rv, sizeLine_eq]
    omega
  have bt : BindsTo ⟨(hp.push (PySem.W.kdv_tup us)).push (PySem.HandSPX.excO C hp.objs.size), g, dr, tk, os⟩ fd ⟨Value.ref (hp.objs.size + 1) :: us, []⟩ (ps.zip (Value.ref (hp.objs.size + 1) :: us)) := by
    have z := hb _ (Value.ref (hp.objs.size + 1) :: us) J2.kIn (by simpa using hl)
    simpa using z
  refine wpAny_call (PySem.HandSPX.call_own F tail hC (PySem.W.looks_findIn J.kIn iC) (fun self => PySem.W.bind_fn J.kIn self tI) hus
    (codeAny_mono (G.run _ X.stack _ _ ⟨Value.ref (hp.objs.size + 1) :: us, []⟩ (Value.ref (hp.objs.size + 1) :: us) _ _ E0 (hr.make C us []) (J2.env0.make C us []) bt r2 want) ?_))
  intro r s2 out
  match r, out with
  | .error _, z => exact False.elim z
  | .ok .next, z => exact False.elim z
  | .ok .brk, z => exact False.elim z
  | .ok .cont, z => exact False.elim z
  | .ok (.ret u), z =>
    obtain ⟨v, H2, J3, ru, rfl, q3⟩ := J2.after z
    exact ⟨ru, ⟨.ref (hp.objs.size + 1), H2, J3, rfl, q3⟩⟩
/-- C(), C without an own __init__ -/
def tXn (C : Addr) : TE := fun _ H Q => ∀ a, H a = none → Q (.ref a) (upd H a (exo a C none))
theorem pe_xn {x : Str} {C : Addr} {newId initId : String} (F : ExcBaseFacts B newId initId bmB) (q : PySem.W.excIn X.K C bmB newId = true) (kp : PySem.W.keepIn X.K (.ref C) = true) (hg : Gl X x) (hm : X.mg x = some (.ref C))
    (hdb : (x == ("__debug__" : Str)) = false := by decide) : PE X (.Call (.Name x p) [] [] pos) (tXn C) := by
  constructor
  intro pins s σ H Q I h
  refine wpAny_Call_Name_kw (ld_glob I hg hm ?_ hdb)
  refine PySem.W.callWith_K0 I.kIn kp ?_
  obtain ⟨bm, N, nm, qn, bs, hdct, sn, sub, ab, col, dd, k0, k1, k2, k3, k5, mN, hC, hN, hni, T⟩ := exc_obj I.kIn q
  obtain ⟨hp, g, d, t, os⟩ := s
  refine wpAny_call_exc_subT F T hC hN hni (fun h' b made => ?_) (by show 0 ≤ sizeLine; omega)
  have hn : H b = none := I.hok.gone made.new
  obtain ⟨t1, there, _, _⟩ := made.there
  exact ⟨.ref b, _, I.laidN made.keeps made.new hn (exo_ok there), rfl, h b hn⟩
end
end Rt
/-! own rules: repr of data with dicts in it -/
namespace Rt
open PySem PySem.Spec L2
open PyProof.Rows hiding St
def kd : Key → PyData
  | .inl i => .int i
  | .inr x => .str x
mutual
inductive Dx (K : PySem.W.Frag) (H : Hp) : V → PyData → Prop
  | non : Dx K H .non .none
  | bl (b : Bool) : Dx K H (.bl b) (.bool b)
  | int (i : Int) : Dx K H (.int i) (.int i)
  | str (x : Str) : Dx K H (.str x) (.str x)
  | lst {a : Addr} {xs : List V} {ds : List PyData} : SqL K H a xs → DxAll K H xs ds → Dx K H (.ref a) (.list ds)
  | tup {a : Addr} {xs : List V} {ds : List PyData} : SqT K H a xs → DxAll K H xs ds → Dx K H (.ref a) (.tuple ds)
  | dic {a : Addr} {kvs : List (Key × V)} {ds : List PyData} : H a = some (.dK kvs) → DxAll K H (kvs.map (·.2)) ds → Dx K H (.ref a) (.dict ((kvs.map fun p => kd p.1).zip ds))
inductive DxAll (K : PySem.W.Frag) (H : Hp) : List V → List PyData → Prop
  | nil : DxAll K H [] []
  | cons {v : V} {vs : List V} {d : PyData} {ds : List PyData} : Dx K H v d → DxAll K H vs ds → DxAll K H (v :: vs) (d :: ds)
end
theorem DxAll.length {K : PySem.W.Frag} {H : Hp} : ∀ {vs : List V} {ds : List PyData}, DxAll K H vs ds → vs.length = ds.length
  | _, _, .nil => rfl
  | _, _, .cons _ t => congrArg (· + 1) t.length
/-- a value's data, where it stands, with what its repr rests on -/
structure Told (prog : Program) (w : World) (h : Heap) (u : Value) (d : PyData) : Prop where
  ex : ∃ as bs, Reads h u d as ∧ ReadAtMost h d.depth bs ∧ (d.showable = true → d.shown.length ≤ sizeLine → ReprK prog w bs h d.depth u d.shown)
structure ToldAll (prog : Program) (w : World) (h : Heap) (us : List Value) (ds : List PyData) : Prop where
  ex : ∃ as bs, ReadsAll h us ds as ∧ ReadAtMost h (PyData.depthAll ds) bs ∧
    (PyData.showableAll ds = true → (∀ t ∈ PyData.shownAll ds, t.length ≤ sizeLine) → ReprAllK prog w bs h (PyData.depthAll ds) us (PyData.shownAll ds))
section
variable {prog : Program} {w : World} {h : Heap}
theorem ToldAll.nil : ToldAll prog w h [] [] := ⟨[], [], .nil, (fun _ z => nomatch z), fun _ _ => by simp only [PyData.shownAll]; exact .nil⟩
theorem ToldAll.cons {u : Value} {d : PyData} {us : List Value} {ds : List PyData} (a : Told prog w h u d) (b : ToldAll prog w h us ds) : ToldAll prog w h (u :: us) (d :: ds) := by
  obtain ⟨as, bs, r, m, k⟩ := a.ex
  obtain ⟨as', bs', r', m', k'⟩ := b.ex
  refine ⟨_, bs ++ bs', .cons r r', ?_, fun hs hz => ?_⟩
  · simp only [PyData.depthAll]
    exact (m.mono (Nat.le_max_left _ _)).append (m'.mono (Nat.le_max_right _ _))
  · have hs' : d.showable = true ∧ PyData.showableAll ds = true := by simpa [PyData.showableAll] using hs
    have k1 := k hs'.1 (hz _ (by simp only [PyData.shownAll]; exact List.mem_cons_self ..))
    have k2 := k' hs'.2 fun t ht => hz t (by simp only [PyData.shownAll]; exact List.mem_cons_of_mem _ ht)
    simp only [PyData.depthAll, PyData.shownAll]
    exact .cons ((k1.more fun b z => List.mem_append_left _ z).level_le (Nat.le_max_left _ _)) (k2.more_le (fun b z => List.mem_append_right _ z) (Nat.le_max_right _ _))
theorem zip_fst : ∀ (ks : List PyData) (ds : List PyData), ks.length = ds.length → (ks.zip ds).map (·.1) = ks
  | [], _, _ => rfl
  | _ :: _, [], e => nomatch e
  | k :: ks, d :: ds, e => by
    show k :: ((ks.zip ds).map (·.1)) = k :: ks
    rw [zip_fst ks ds (Nat.succ.inj e)]
theorem zip_snd : ∀ (ks : List PyData) (ds : List PyData), ks.length = ds.length → (ks.zip ds).map (·.2) = ds
  | [], [], _ => rfl
  | [], _ :: _, e => nomatch e
  | _ :: _, [], e => nomatch e
  | k :: ks, d :: ds, e => by
    show d :: ((ks.zip ds).map (·.2)) = d :: ds
    rw [zip_snd ks ds (Nat.succ.inj e)]
theorem Told.list {a : Addr} {o : Obj} {us : List Value} {n : Nat} {ds : List PyData} (h1 : h.get? a = some o) (h2 : o.cls = .type "list") (h3 : o.data = .seq us.toArray n) (t : ToldAll prog w h us ds) : Told prog w h (.ref a) (.list ds) := by
  obtain ⟨as, bs, rs, m, k⟩ := t.ex
  have r : Reads h (.ref a) (.list ds) _ := .list h1 h2 h3 rs
  have out : a ∉ bs := not_mem_of_deeper r (by simp only [PyData.depth]; omega) m
  refine ⟨_, a :: bs, r, ReadAtMost.cons r (by simp only [PyData.depth]; omega) m, fun hs hz => ?_⟩
  have hz' : (listText (PyData.shownAll ds)).length ≤ sizeLine := by simpa only [PyData.shown] using hz
  have kk := k (by simpa [PyData.showable] using hs) fun t ht => Nat.le_trans (listText_mem_le ht) hz'
  simp only [PyData.depth, PyData.shown]
  cases us with
  | nil =>
    cases rs
    simp only [PyData.shownAll, listText_nil]
    exact (ReprK.listEmpty (as := bs) h1 h2 h3).more fun b z => List.mem_cons_of_mem _ z
  | cons x l => exact ReprK.list h1 h2 h3 out (by simpa using kk.length_eq) (fun i y e => kk.item i y (by simpa using e))
theorem Told.tuple {a : Addr} {o : Obj} {us : List Value} {n : Nat} {ds : List PyData} (h1 : h.get? a = some o) (h2 : o.cls = .type "tuple") (h3 : o.data = .seq us.toArray n) (t : ToldAll prog w h us ds) : Told prog w h (.ref a) (.tuple ds) := by
  obtain ⟨as, bs, rs, m, k⟩ := t.ex
  have r : Reads h (.ref a) (.tuple ds) _ := .tuple h1 h2 h3 rs
  have out : a ∉ bs := not_mem_of_deeper r (by simp only [PyData.depth]; omega) m
  refine ⟨_, a :: bs, r, ReadAtMost.cons r (by simp only [PyData.depth]; omega) m, fun hs hz => ?_⟩
  have hz' : (tupleText (PyData.shownAll ds)).length ≤ sizeLine := by simpa only [PyData.shown] using hz
  have kk := k (by simpa [PyData.showable] using hs) fun t ht => Nat.le_trans (tupleText_mem_le ht) hz'
  simp only [PyData.depth, PyData.shown]
  exact ReprK.tuple h1 h2 h3 out kk
theorem Told.dict {a : Addr} {o : Obj} {es : Array DictEntry} {n : Nat} {ks ds : List PyData} (h1 : h.get? a = some o) (h2 : o.cls = .type "dict") (h3 : o.data = .dict es n) (sys : (a == sysModules) = false) (le : ks.length = ds.length)
    (t1 : ToldAll prog w h (es.toList.map (·.key)) ks) (t2 : ToldAll prog w h (es.toList.map (·.val)) ds) : Told prog w h (.ref a) (.dict (ks.zip ds)) := by
  obtain ⟨as, bs, rs, m, k⟩ := t1.ex
  obtain ⟨as', bs', rs', m', k'⟩ := t2.ex
  have ek := zip_fst ks ds le
  have ev := zip_snd ks ds le
  have dk := PyData.depthAll_keys_le (ks.zip ds)
  have dv := PyData.depthAll_vals_le (ks.zip ds)
  rw [ek] at dk
  rw [ev] at dv
  have r : Reads h (.ref a) (.dict (ks.zip ds)) _ := .dict h1 h2 h3 (by rw [ek]; exact rs) (by rw [ev]; exact rs')
  have mm : ReadAtMost h (PyData.depthKv (ks.zip ds)) (bs ++ bs') := (m.mono dk).append (m'.mono dv)
  have out : a ∉ bs ++ bs' := not_mem_of_deeper r (by simp only [PyData.depth]; omega) mm
  refine ⟨_, a :: (bs ++ bs'), r, ReadAtMost.cons r (by simp only [PyData.depth]; omega) mm, fun hs hz => ?_⟩
  have hz' : (dictText (PyData.shownKv (ks.zip ds))).length ≤ sizeLine := by simpa only [PyData.shown] using hz
  obtain ⟨s1, s2⟩ := PyData.showableKv_split (ks.zip ds) (by simpa [PyData.showable] using hs)
  rw [ek] at s1
  rw [ev] at s2
  have k1 := k s1 fun t ht => by
    obtain ⟨p, hp, hl⟩ := PyData.shownKv_key_le (ks.zip ds) t (by rw [ek]; exact ht)
    exact Nat.le_trans hl (Nat.le_trans (dictText_mem_le hp) hz')
  have k2 := k' s2 fun t ht => by
    obtain ⟨p, hp, hl⟩ := PyData.shownKv_val_le (ks.zip ds) t (by rw [ev]; exact ht)
    exact Nat.le_trans hl (Nat.le_trans (dictText_mem_le hp) hz')
  simp only [PyData.depth, PyData.shown, PyData.shownKv_eq, ek, ev]
  exact ReprK.dict h1 h2 h3 sys out (ReprEntriesK.of_two es.toList _ _ (k1.more_le (fun b z => List.mem_append_left _ z) dk) (k2.more_le (fun b z => List.mem_append_right _ z) dv))
end
end Rt
namespace Rt
open PySem PySem.Spec L2
open PyProof.Rows hiding St
section
variable {X : Cx} {pins : List (Addr × Obj)} {σ : St} {H : Hp} {s : Shared}
theorem keys_told : ∀ {es : List DictEntry} {kvs : List (Key × V)} {vs : List (Key × Value)}, KV kvs vs → Pairs (mixKind X.prog X.w) es vs →
    ToldAll X.prog X.w s.heap (es.map (·.key)) (kvs.map fun p => kd p.1) ∧ Vals (kvs.map (·.2)) (es.map (·.val))
  | _, _, _, .nil, .nil => ⟨.nil, .nil⟩
  | e :: es, p :: kvs, q :: vs, .cons r t, .cons k v ps => by
    obtain ⟨a, b⟩ := keys_told t ps
    obtain ⟨ep, rv⟩ := r
    refine ⟨.cons ?_ a, .cons ?_ b⟩
    · have k' : keyIs p.1 e.key = true := by
        rw [ep]
        exact k
      show Told X.prog X.w s.heap e.key (kd p.1)
      rcases keyIs_shape k' with ⟨i, tk, e1, e2⟩ | ⟨x, tk, e1, e2⟩
      · rw [e1, e2]
        refine ⟨[], [], .int i tk, (fun _ z => nomatch z), fun hs hz => ?_⟩
        simp only [kd, PyData.shown]
        exact .of_is (ReprIs.int tk (by simpa [PyData.showable, kd] using hs)) _ _ _
      · rw [e1, e2]
        refine ⟨[], [], .str x tk, (fun _ z => nomatch z), fun hs hz => ?_⟩
        simp only [PyData.shown, kd] at hz ⊢
        exact .of_is (ReprIs.str x tk hz) _ _ _
    · show L2.RelV p.2 e.val
      rw [v]
      exact rv
mutual
theorem dx_told (I : Inv X pins σ H s) : ∀ (v : V) (d : PyData) (u : Value), Dx X.K H v d → L2.RelV v u → Told X.prog X.w s.heap u d
  | _, _, _, .non, r => by
    cases r
    exact ⟨[], [], .none, (fun _ z => nomatch z), fun _ _ => by simp only [PyData.shown]; exact .of_is ReprIs.none _ _ _⟩
  | _, _, _, .bl b, r => by
    cases r
    exact ⟨[], [], .bool b, (fun _ z => nomatch z), fun _ _ => by simp only [PyData.shown]; exact .of_is (ReprIs.bool b) _ _ _⟩
  | _, _, _, .int i, r => by
    obtain ⟨tk, rfl⟩ := r
    exact ⟨[], [], .int i tk, (fun _ z => nomatch z), fun hs _ => by simp only [PyData.shown]; exact .of_is (ReprIs.int tk (by simpa [PyData.showable] using hs)) _ _ _⟩
  | _, _, _, .str x, r => by
    obtain ⟨tk, rfl⟩ := r
    exact ⟨[], [], .str x tk, (fun _ z => nomatch z), fun _ hz => by
      simp only [PyData.shown] at hz ⊢
      exact .of_is (ReprIs.str x tk hz) _ _ _⟩
  | _, _, _, .lst hs ha, r => by
    cases r
    obtain ⟨its, rv, ⟨o, n, ho, hc, _, hd⟩, _⟩ := I.list hs
    exact Told.list ho hc hd (dx_toldAll I _ _ _ ha rv)
  | _, _, _, .tup hs ha, r => by
    cases r
    obtain ⟨its, rv, ⟨o, ho, hc, n, hd⟩, _⟩ := I.tuple hs
    exact Told.tuple ho hc hd (dx_toldAll I _ _ _ ha rv)
  | _, _, _, .dic (a := a) (kvs := kvs) (ds := ds) hs ha, r => by
    cases r
    obtain ⟨_, sys, vs, kv, o, es, ep, ho, hx, hd, _, ps, _⟩ := (show ObjOk X.prog X.w H s.heap a (.dK kvs) from I.hok a _ hs)
    obtain ⟨t1, rv⟩ := keys_told (s := s) kv ps
    exact Told.dict ho hx.1 hd sys (by rw [List.length_map, ← ha.length, List.length_map]) t1 (dx_toldAll I _ _ _ ha rv)
theorem dx_toldAll (I : Inv X pins σ H s) : ∀ (vs : List V) (ds : List PyData) (us : List Value), DxAll X.K H vs ds → Vals vs us → ToldAll X.prog X.w s.heap us ds
  | _, _, _, .nil, r => by
    cases r
    exact .nil
  | _, _, _, .cons h t, r => by
    cases r with
    | cons r1 r2 => exact .cons (dx_told I _ _ _ h r1) (dx_toldAll I _ _ _ t r2)
end
end
def rReprX (K : PySem.W.Frag) : List V → Hp → VK → Prop := fun xs H Q => ∃ v d, xs = [v] ∧ Dx K H v d ∧ d.showable = true ∧ d.depth ≤ 60 ∧ d.shown.length ≤ sizeLine ∧ Q (.str d.shown) H
section
variable {X : Cx}
/-- repr(v), v of data, also of dicts -/
theorem call_reprX (hg : X.A.guards = some []) (hu : X.A.units + 64 < cLine) : CallR X (.builtin "repr") (rReprX X.K) := by
  intro pins s σ H xs us Q I r h
  obtain ⟨v, d, rfl, hd, hs, dep, hz, q⟩ := h
  obtain ⟨u, rfl, ru⟩ := vals1 r
  have end0 : ∀ tk, EP X pins σ Q (.str d.shown s.toks) { s with toks := tk } := fun tk => ⟨.str d.shown, H, I.tok _, ⟨_, rfl⟩, q⟩
  have endH : ∀ h' u tk, (∀ b o, s.heap.get? b = some o → h'.get? b = some o) → EP X pins σ Q (.str d.shown u) { s with heap := h', toks := tk } := fun h' u tk kp => ⟨.str d.shown, H, I.kept kp, ⟨u, rfl⟩, q⟩
  have t := dx_told I _ _ _ hd ru
  cases hd with
  | non =>
    cases ru
    exact PySem.P.repr_of_none (by simpa only [PyData.shown] using end0 (s.toks + 1))
  | bl b =>
    cases ru
    exact PySem.P.repr_of_bool (by simpa only [PyData.shown] using end0 (s.toks + 1))
  | int i =>
    obtain ⟨tk, rfl⟩ := ru
    exact PySem.P.repr_of_int (by simpa [PyData.showable] using hs) (by simpa only [PyData.shown] using end0 (s.toks + 1))
  | str x =>
    obtain ⟨tk, rfl⟩ := ru
    exact PySem.P.repr_of_str (by simpa only [PyData.shown] using end0 (s.toks + 1)) (by simpa only [PyData.shown] using hz)
  | @lst a xs ds hl ha =>
    cases ru
    obtain ⟨its, rv, ⟨o, n, ho, hc, _, hdt⟩, _⟩ := I.list hl
    obtain ⟨as, bs, rs, m, k⟩ := (dx_toldAll I _ _ _ ha rv).ex
    have rd : Reads s.heap (.ref a) (.list ds) _ := .list ho hc hdt rs
    have out : a ∉ bs := not_mem_of_deeper rd (by simp only [PyData.depth]; omega) m
    have hz' : (listText (PyData.shownAll ds)).length ≤ sizeLine := by simpa only [PyData.shown] using hz
    have kk := k (by simpa [PyData.showable] using hs) fun t ht => Nat.le_trans (listText_mem_le ht) hz'
    simp only [PyData.depth] at dep
    simp only [PyData.shown] at endH
    refine call_repr_slot (by omega) ⟨o, ho, hc⟩ F.slot_list_repr.toG ?_
    have hu1 : X.A.in1.units + (PyData.depthAll ds + 1) < cLine := by
      show X.A.units + 1 + (PyData.depthAll ds + 1) < cLine
      omega
    cases its with
    | nil =>
      cases rs
      simp only [PyData.shownAll, listText_nil] at endH
      exact call_list_repr_empty ⟨o, ho, hc⟩ ho hdt ⟨_, _, rfl, endH s.heap _ _ fun _ _ e => e⟩
    | cons x l =>
      exact call_list_reprK ho hc hdt out (by simpa using kk.length_eq) (fun i y e => kk.item i y (by simpa using e)) hg (fun b _ => Clear.nil b) hu1 (fun _ _ e => e) (fun h' u tk kp => ⟨_, _, rfl, endH h' u tk kp⟩) hz'
  | @tup a xs ds hl ha =>
    cases ru
    obtain ⟨its, rv, ⟨o, ho, hc, n, hdt⟩, _⟩ := I.tuple hl
    obtain ⟨as, bs, rs, m, k⟩ := (dx_toldAll I _ _ _ ha rv).ex
    have rd : Reads s.heap (.ref a) (.tuple ds) _ := .tuple ho hc hdt rs
    have out : a ∉ bs := not_mem_of_deeper rd (by simp only [PyData.depth]; omega) m
    have hz' : (tupleText (PyData.shownAll ds)).length ≤ sizeLine := by simpa only [PyData.shown] using hz
    have kk := k (by simpa [PyData.showable] using hs) fun t ht => Nat.le_trans (tupleText_mem_le ht) hz'
    simp only [PyData.depth] at dep
    simp only [PyData.shown] at endH
    refine call_repr_slot (by omega) ⟨o, ho, hc⟩ F.slot_tuple_repr ?_
    have hu1 : X.A.in1.units + (PyData.depthAll ds + 1) < cLine := by
      show X.A.units + 1 + (PyData.depthAll ds + 1) < cLine
      omega
    exact call_tuple_reprK ho hc hdt out kk hg (fun b _ => Clear.nil b) hu1 (fun _ _ e => e) (fun h' u tk kp => ⟨_, _, rfl, endH h' u tk kp⟩) hz'
  | @dic a kvs ds hl ha =>
    cases ru
    obtain ⟨_, sys, vs, kv, o, es, ep, ho, hx, hdt, _, ps, _⟩ := (show ObjOk X.prog X.w H s.heap a (.dK kvs) from I.hok a _ hl)
    obtain ⟨t1, rv⟩ := keys_told (s := s) kv ps
    obtain ⟨as, bs, rs, m, k⟩ := t1.ex
    obtain ⟨as', bs', rs', m', k'⟩ := (dx_toldAll I _ _ _ ha rv).ex
    have le : (kvs.map fun p => kd p.1).length = ds.length := by rw [List.length_map, ← ha.length, List.length_map]
    clear end0 t
    revert rs m k le hs dep hz endH
    generalize (kvs.map fun p => kd p.1) = ks
    intro hs dep hz endH rs m k le
    have ek := zip_fst ks ds le
    have ev := zip_snd ks ds le
    have dk := PyData.depthAll_keys_le (ks.zip ds)
    have dv := PyData.depthAll_vals_le (ks.zip ds)
    rw [ek] at dk
    rw [ev] at dv
    have rd : Reads s.heap (.ref a) (.dict (ks.zip ds)) _ := .dict ho hx.1 hdt (by rw [ek]; exact rs) (by rw [ev]; exact rs')
    have mm : ReadAtMost s.heap (PyData.depthKv (ks.zip ds)) (bs ++ bs') := (m.mono dk).append (m'.mono dv)
    have out : a ∉ bs ++ bs' := not_mem_of_deeper rd (by simp only [PyData.depth]; omega) mm
    have hz' : (dictText (PyData.shownKv (ks.zip ds))).length ≤ sizeLine := by simpa only [PyData.shown] using hz
    obtain ⟨s1, s2⟩ := PyData.showableKv_split (ks.zip ds) (by simpa [PyData.showable] using hs)
    rw [ek] at s1
    rw [ev] at s2
    have k1 := k s1 fun t ht => by
      obtain ⟨p, hp, hl⟩ := PyData.shownKv_key_le (ks.zip ds) t (by rw [ek]; exact ht)
      exact Nat.le_trans hl (Nat.le_trans (dictText_mem_le hp) hz')
    have k2 := k' s2 fun t ht => by
      obtain ⟨p, hp, hl⟩ := PyData.shownKv_val_le (ks.zip ds) t (by rw [ev]; exact ht)
      exact Nat.le_trans hl (Nat.le_trans (dictText_mem_le hp) hz')
    simp only [PyData.depth] at dep
    simp only [PyData.shown, PyData.shownKv_eq, ek, ev] at endH
    rw [PyData.shownKv_eq, ek, ev] at hz'
    refine call_repr_slot (by omega) ⟨o, ho, hx.1⟩ F.slot_dict_repr ?_
    have hu1 : X.A.in1.units + (PyData.depthKv (ks.zip ds) + 1) < cLine := by
      show X.A.units + 1 + (PyData.depthKv (ks.zip ds) + 1) < cLine
      omega
    exact call_dict_reprK ho hx.1 hdt sys out (ReprEntriesK.of_two es.toList _ _ (k1.more_le (fun b z => List.mem_append_left _ z) dk) (k2.more_le (fun b z => List.mem_append_right _ z) dv))
      hg (fun b _ => Clear.nil b) hu1 (fun _ _ e => e) (fun h' u tk kp => ⟨_, _, rfl, endH h' u tk kp⟩) hz'
end
end Rt
namespace K00
open PySem PySem.Spec L2 Rt
open PyProof.Rows hiding St
def top (i : Nat) : Stmt := PySem.Challenge.pw_roundticks_k00_errors.main.body.getD i (.Pass ⟨0, 0, 0, 0⟩)
abbrev sSource : Stmt := top 17
abbrev sPick : Stmt := top 18
/-! ### the source of numbers -/
theorem n_cl : ¬ (("cells" : Str) = "left") := by decide +kernel
theorem n_cm : ¬ (("cells" : Str) = "mixed") := by decide +kernel
theorem n_ct : ¬ (("cells" : Str) = "turn") := by decide +kernel
theorem n_lm : ¬ (("left" : Str) = "mixed") := by decide +kernel
theorem n_lt : ¬ (("left" : Str) = "turn") := by decide +kernel
theorem n_mt : ¬ (("mixed" : Str) = "turn") := by decide +kernel
def srcK (c : Addr) (l m t : Int) : List (Key × V) := [(Sum.inr "cells", .ref c), (Sum.inr "left", .int l), (Sum.inr "mixed", .int m), (Sum.inr "turn", .int t)]
theorem ne_inr {a b : Str} (h : ¬ a = b) : ¬ ((Sum.inr a : Key) = Sum.inr b) := fun e => h (Sum.inr.inj e)
theorem val_cells (c : Addr) (l m t : Int) : valV (srcK c l m t) (Sum.inr "cells") = some (.ref c) := valV_pos rfl
theorem val_left (c : Addr) (l m t : Int) : valV (srcK c l m t) (Sum.inr "left") = some (.int l) := by
  unfold srcK
  rw [valV_neg (ne_inr n_cl), valV_pos rfl]
theorem val_mixed (c : Addr) (l m t : Int) : valV (srcK c l m t) (Sum.inr "mixed") = some (.int m) := by
  unfold srcK
  rw [valV_neg (ne_inr n_cm), valV_neg (ne_inr n_lm), valV_pos rfl]
theorem val_turn (c : Addr) (l m t : Int) : valV (srcK c l m t) (Sum.inr "turn") = some (.int t) := by
  unfold srcK
  rw [valV_neg (ne_inr n_ct), valV_neg (ne_inr n_lt), valV_neg (ne_inr n_mt), valV_pos rfl]
theorem put_left (c : Addr) (l m t z : Int) : putK (srcK c l m t) (Sum.inr "left") (.int z) = srcK c z m t := by
  have h1 := ne_inr n_cl
  have h2 := ne_inr (fun e => n_lm e.symm)
  have h3 := ne_inr (fun e => n_lt e.symm)
  unfold putK srcK
  simp [h1, h2, h3]
theorem put_mixed (c : Addr) (l m t z : Int) : putK (srcK c l m t) (Sum.inr "mixed") (.int z) = srcK c l z t := by
  have h1 := ne_inr n_cm
  have h2 := ne_inr n_lm
  have h3 := ne_inr (fun e => n_mt e.symm)
  unfold putK srcK
  simp [h1, h2, h3]
theorem put_turn (c : Addr) (l m t z : Int) : putK (srcK c l m t) (Sum.inr "turn") (.int z) = srcK c l m z := by
  have h1 := ne_inr n_ct
  have h2 := ne_inr n_lt
  have h3 := ne_inr n_mt
  unfold putK srcK
  simp [h1, h2, h3]
section
variable {H : Hp} {d c : Addr} {l m t : Int}
theorem get_cells (h : H d = some (.dK (srcK c l m t))) : DGet H d (.str "cells") (some (.ref c)) := by
  have z := DGet.k (k := (Sum.inr "cells" : Key)) h
  rw [val_cells] at z
  exact z
theorem get_left (h : H d = some (.dK (srcK c l m t))) : DGet H d (.str "left") (some (.int l)) := by
  have z := DGet.k (k := (Sum.inr "left" : Key)) h
  rw [val_left] at z
  exact z
theorem get_mixed (h : H d = some (.dK (srcK c l m t))) : DGet H d (.str "mixed") (some (.int m)) := by
  have z := DGet.k (k := (Sum.inr "mixed" : Key)) h
  rw [val_mixed] at z
  exact z
theorem get_turn (h : H d = some (.dK (srcK c l m t))) : DGet H d (.str "turn") (some (.int t)) := by
  have z := DGet.k (k := (Sum.inr "turn" : Key)) h
  rw [val_turn] at z
  exact z
theorem few4 : (srcK c l m t).length < sizeLine := by show 4 < sizeLine; decide
theorem st_left (h : H d = some (.dK (srcK c l m t))) (z : Int) : DPut H d (.str "left") (.int z) (upd H d (.dK (srcK c z m t))) := by
  have q := DPut.k (k := (Sum.inr "left" : Key)) (v := .int z) h few4
  rw [put_left] at q
  exact q
theorem st_mixed (h : H d = some (.dK (srcK c l m t))) (z : Int) : DPut H d (.str "mixed") (.int z) (upd H d (.dK (srcK c l z t))) := by
  have q := DPut.k (k := (Sum.inr "mixed" : Key)) (v := .int z) h few4
  rw [put_mixed] at q
  exact q
theorem st_turn (h : H d = some (.dK (srcK c l m t))) (z : Int) : DPut H d (.str "turn") (.int z) (upd H d (.dK (srcK c l m z))) := by
  have q := DPut.k (k := (Sum.inr "turn" : Key)) (v := .int z) h few4
  rw [put_turn] at q
  exact q
end
/-- a source stands at d, its cells at c -/
structure Src (H : Hp) (d c : Addr) : Prop where
  ex : ∃ (ks : List Int) (l m t : Int), H d = some (.dK (srcK c l m t)) ∧ H c = some (.lst (ks.map V.int))
/-- all but the source stands as it was -/
def Keep (d c : Addr) (H H' : Hp) : Prop := ∀ b o, H b = some o → b ≠ d → b ≠ c → H' b = some o
theorem Keep.refl {d c : Addr} {H : Hp} : Keep d c H H := fun _ _ e _ _ => e
theorem Keep.trans {d c : Addr} {H H1 H2 : Hp} (a : Keep d c H H1) (b : Keep d c H1 H2) : Keep d c H H2 := fun x o e n1 n2 => b x o (a x o e n1 n2) n1 n2
theorem Keep.new {d c p : Addr} {o : HO} {H H1 : Hp} (a : Keep d c H H1) (n : H1 p = none) : Keep d c H (upd H1 p o) := fun x u e n1 n2 => by
  have z := a x u e n1 n2
  rw [upd_ne (ne_of_none z n)]
  exact z
theorem Keep.d {d c : Addr} {o : HO} {H H1 : Hp} (a : Keep d c H H1) : Keep d c H (upd H1 d o) := fun x u e n1 n2 => by
  rw [upd_ne n1]
  exact a x u e n1 n2
theorem Keep.c {d c : Addr} {o : HO} {H H1 : Hp} (a : Keep d c H H1) : Keep d c H (upd H1 c o) := fun x u e n1 n2 => by
  rw [upd_ne n2]
  exact a x u e n1 n2
theorem Src.new {d c p : Addr} {o : HO} {H : Hp} (S : Src H d c) (n : H p = none) : Src (upd H p o) d c := by
  obtain ⟨ks, l, m, t, h1, h2⟩ := S.ex
  exact ⟨ks, l, m, t, by rw [upd_ne (ne_of_none h1 n)]; exact h1, by rw [upd_ne (ne_of_none h2 n)]; exact h2⟩
theorem Src.nd {d c : Addr} {H : Hp} {b : Addr} {xs : List V} (S : Src H d c) (h : H b = some (.tup xs)) : b ≠ d ∧ b ≠ c := by
  obtain ⟨ks, l, m, t, h1, h2⟩ := S.ex
  exact ⟨ne_of h h1 (by intro z; cases z), ne_of h h2 (by intro z; cases z)⟩
theorem Keep.tup {d c : Addr} {H H1 : Hp} {b : Addr} {xs : List V} (a : Keep d c H H1) (S : Src H d c) (h : H b = some (.tup xs)) : H1 b = some (.tup xs) := a b _ h (S.nd h).1 (S.nd h).2
/-! ### the promises -/
def spSource (K : PySem.W.Frag) : Sp := fun vs H Q _ => ∃ (a : Addr) (ns : List Int), vs = [.ref a] ∧ SqL K H a (ns.map V.int) ∧ ns.length ≤ 63 ∧
  ∀ (d c : Addr) (H' : Hp), H d = none → H c = none → Src H' d c → Same H H' → Q (.ref d) H'
def spPick : Sp := fun vs H Q _ => ∃ (d c : Addr) (n : Int), vs = [.ref d, .int n] ∧ Src H d c ∧ n < 1000000000 ∧
  ∀ (r : Int) (H' : Hp), 0 ≤ r → r < n ∨ r = 0 → Src H' d c → Keep d c H H' → Q (.int r) H'
section
variable {P : Program} {w : World} {K : PySem.W.Frag} {mg : Str → Option Value} {base : Heap}
theorem scPick : FnScope ["source", "many", "left", "mixed"] ["source", "many"] (defScope sPick) := ⟨rfl, rfl, rfl, by decide +kernel, rfl, by decide +kernel, by decide +kernel⟩
theorem ok_pick {f : Addr} {fd : FuncData} (F : Fun K "_law_pick" "_law_pick" sPick f fd) (mL : mg "len" = none) (mM : mg "max" = none) (mI : mg "int" = none) : FnG P w K mg base 1 f fd ["source", "many"] spPick := by
  refine okG F scPick (fun vs H Q E h => ?_) (fun cdv A outer s H vs Q E hg hr h => ?_)
  · obtain ⟨d, c, n, rfl, _⟩ := h
    rfl
  · obtain ⟨d, c, n, rfl, S, hn, k⟩ := h
    have hu := hu_of hr
    refine ⟨_, pss_cons (ps_while PassesOwn.never
        (PW.pt (pw_and (pt_cmpR op_gt (pv 1) pe_int (nomark _)) (pw_and (pt_cmpR op_lt (pe_dget hu (pv 0) pe_str (fun _ _ => rfl)) pe_int (nomark _))
          (pw_and1 (pt_cmpR op_gt (pe_callB call_len_seq (by rfl) mL PySem.boot_len (pa_cons (pe_dget hu (pv 0) pe_str (fun _ _ => rfl)) pa_nil)) pe_int (nomark _))))))
        (pss_one (ps_dput hu (pv 0) pe_str (pe_bm0 PySem.F.plainAttrs_list PySem.F.slot_list_pop PySem.F.type_list_pop mt_pop (pe_dget hu (pv 0) pe_str (fun _ _ => rfl))) rfl)))
      (pss_cons (ps_set (i := 2) scPick.nd rfl (.inl rfl) (pe_dget hu (pv 0) pe_str (fun _ _ => rfl)))
      (pss_cons (ps_if (PW.pt (pw_or (pt_cmpR op_lt (pv 1) pe_int (nomark _)) (pw_or1 (pt_cmpR op_gt (pv 2) pe_int (nomark _)))))
        (pss_cons (ps_dput hu (pv 0) pe_str (pe_op op_fdivW (pv 2) (pe_callB (call_max2 rfl) (by rfl) mM (by decide +kernel) (pa_cons pe_int (pa_cons (pv 1) pa_nil)))) rfl)
          (pss_one (ps_ret (pe_op op_mod (pe_callTy call_int1 (by rfl) mI (by decide +kernel) (pa_cons (pv 2) pa_nil)) (pe_callB (call_max2 rfl) (by rfl) mM (by decide +kernel) (pa_cons pe_int (pa_cons (pv 1) pa_nil)))))))
        pss_nil)
      (pss_cons (ps_dput hu (pv 0) pe_str (pe_op op_add (pe_dget hu (pv 0) pe_str (fun _ _ => rfl)) pe_int) rfl)
      (pss_cons (ps_set (i := 3) scPick.nd rfl (.inl rfl) (pe_op op_mod (pe_callTy call_int1 (by rfl) mI (by decide +kernel) (pa_cons (pe_op op_add (pe_dget hu (pv 0) pe_str (fun _ _ => rfl)) (pe_op op_mul (pe_dget hu (pv 0) pe_str (fun _ _ => rfl)) pe_int)) pa_nil)) pe_int))
      (pss_cons (ps_set (i := 3) scPick.nd rfl (.inl rfl) (pe_op op_mod (pe_callTy call_int1 (by rfl) mI (by decide +kernel) (pa_cons (pe_op op_add (pe_op op_mul (pv 3) (pv 3)) (pe_op op_mul (pe_dget hu (pv 0) pe_str (fun _ _ => rfl)) pe_int)) pa_nil)) pe_int))
      (pss_cons (ps_dput hu (pv 0) pe_str (pv 3) rfl)
      (pss_one (ps_ret (pe_op op_mod (pe_callTy call_int1 (by rfl) mI (by decide +kernel) (pa_cons (pe_op op_fdiv (pv 3) pe_int) pa_nil)) (pv 1)))))))))), ?_⟩
    obtain ⟨ks0, l0, m0, t0, e1, e2⟩ := S.ex
    have dc : d ≠ c := ne_of e1 e2 (by intro z; cases z)
    -- while many > 1 and source['left'] < 2 and len(source['cells']) > 0
    refine ⟨fun m σ H1 => ∃ (ks : List Int) (l mx t : Int), m = ks.length ∧ σ = [some (.ref d), some (.int n), none, none] ∧ Keep d c H H1 ∧ H1 d = some (.dK (srcK c l mx t)) ∧ H1 c = some (.lst (ks.map V.int)),
      ⟨_, ks0, l0, m0, t0, rfl, rfl, Keep.refl, e1, e2⟩, ?_⟩
    rintro m σ H1 ⟨ks, l, mx, t, rfl, rfl, kp, hd, hc⟩
    refine ⟨_, rfl, _, _, rfl, rfl, _, rfl, ?_⟩
    by_cases g : 1 < n ∧ l < 2 ∧ 0 < ks.length
    · obtain ⟨g1, g2, g3⟩ := g
      rw [decide_eq_true g1]
      refine iteT ?_
      refine ⟨_, rfl, d, _, rfl, get_left hd, _, _, rfl, rfl, _, rfl, ?_⟩
      rw [decide_eq_true g2]
      refine iteT ?_
      refine ⟨_, rfl, d, _, rfl, get_cells hd, c, _, rfl, .inl (.inl (.inl hc)), _, _, rfl, rfl, _, rfl, ?_⟩
      rw [decide_eq_true (show (0 : Int) < ((ks.map V.int).length : Int) by rw [List.length_map]; omega)]
      refine iteT ?_
      obtain ⟨z, hz⟩ : ∃ z, ks[ks.length - 1]? = some z := ⟨ks[ks.length - 1], List.getElem?_eq_getElem (by omega)⟩
      refine ⟨fun σ2 H2 => σ2 = [some (.ref d), some (.int n), none, none] ∧ Keep d c H H2 ∧ H2 d = some (.dK (srcK c z mx t)) ∧ H2 c = some (.lst (ks.dropLast.map V.int)), ?_, ?_⟩
      · rintro σ2 H2 ⟨rfl, k2, d2, c2⟩
        refine ⟨ks.dropLast.length, ?_, ks.dropLast, z, mx, t, rfl, rfl, k2, d2, c2⟩
        rw [List.length_dropLast]
        omega
      · -- source['left'] = source['cells'].pop()
        have cd : d ≠ c := dc
        have hd2 : (upd H1 c (.lst (ks.map V.int).dropLast)) d = some (.dK (srcK c l mx t)) := by rw [upd_ne cd]; exact hd
        refine ⟨_, rfl, d, _, rfl, get_cells hd, .inl ⟨rfl, _, .inl (.inl hc)⟩, c, _, .int z, rfl, rfl, hc, ?_, _, rfl, d, _, rfl, st_left hd2 z, ?_⟩
        · rw [List.length_map, List.getElem?_map, hz]
          rfl
        · refine ⟨rfl, (kp.c).d, upd_same, ?_⟩
          rw [upd_ne cd.symm, upd_same, List.map_dropLast]
    · have nolen : 1 < n → l < 2 → ¬ (0 : Int) < ((ks.map V.int).length : Int) := fun g1 g2 g3 => g ⟨g1, g2, by rw [List.length_map] at g3; omega⟩
      refine (fun (fin : (?T : Prop)) => ?main) ?after
      case main =>
        by_cases g1 : 1 < n
        · rw [decide_eq_true g1]
          refine iteT ?_
          refine ⟨_, rfl, d, _, rfl, get_left hd, _, _, rfl, rfl, _, rfl, ?_⟩
          by_cases g2 : l < 2
          · rw [decide_eq_true g2]
            refine iteT ?_
            refine ⟨_, rfl, d, _, rfl, get_cells hd, c, _, rfl, .inl (.inl (.inl hc)), _, _, rfl, rfl, _, rfl, ?_⟩
            rw [decide_eq_false (nolen g1 g2)]
            refine iteF ?_
            exact fin
          · rw [decide_eq_false g2]
            exact iteF (iteF fin)
        · rw [decide_eq_false g1]
          exact iteF (iteF fin)
      case after =>
        -- left = source['left']
        refine ⟨_, rfl, d, _, rfl, get_left hd, ?_⟩
        have mx1 : ∀ n : Int, 0 < (if n > 1 then n else (1 : Int)) := fun n => by split <;> omega
        have mx2 : n < 1000000000 → (if n > 1 then n else (1 : Int)).natAbs < 2 ^ 60 := fun z => by split <;> omega
        -- if many < 2 or left > 1
        refine ⟨_, rfl, _, _, rfl, rfl, _, rfl, ?_⟩
        by_cases g : n < 2 ∨ 1 < l
        · by_cases g1 : n < 2
          all_goals first
            | (rw [decide_eq_true (show n < 2 by assumption)]
               refine iteT (iteT ?_))
            | (rw [decide_eq_false (show ¬ n < 2 by assumption)]
               refine iteF ?_
               refine ⟨_, rfl, _, _, rfl, rfl, _, rfl, ?_⟩
               rw [decide_eq_true (g.resolve_left g1)]
               refine iteT ?_)
          all_goals
            -- source['left'] = left // max(1, many); return int(left) % max(1, many)
            refine ⟨_, rfl, _, rfl, _, _, rfl, _, _, rfl, rfl, wide_div (mx1 n) (mx2 hn) (by decide) (by decide), _, rfl, d, _, rfl, st_left hd _, ?_⟩
            refine ⟨_, rfl, .inl ⟨_, rfl, _, rfl, _, _, rfl, _, _, rfl, rfl, mx1 n, ?_⟩⟩
            refine k _ _ (Int.emod_nonneg _ (Int.ne_of_gt (mx1 n))) ?_ ⟨ks, _, mx, t, upd_same, ?_⟩ kp.d
            · have z := Int.emod_lt_of_pos l (mx1 n)
              have z0 := Int.emod_nonneg l (Int.ne_of_gt (mx1 n))
              by_cases y : n > 1
              · rw [if_pos y] at z z0 ⊢
                exact .inl z
              · rw [if_neg y] at z z0 ⊢
                right
                omega
            · rw [upd_ne dc.symm]
              exact hc
        · rw [decide_eq_false (fun z => g (.inl z))]
          refine iteF ?_
          refine ⟨_, rfl, _, _, rfl, rfl, _, rfl, ?_⟩
          rw [decide_eq_false (fun z => g (.inr z))]
          refine iteF ?_
          have g1 : ¬ n < 2 := fun z => g (.inl z)
          -- source['turn'] = source['turn'] + 1
          refine ⟨_, rfl, d, _, rfl, get_turn hd, _, _, rfl, rfl, _, rfl, d, _, rfl, st_turn hd (t + 1), ?_⟩
          have hd2 : (upd H1 d (.dK (srcK c l mx (t + 1)))) d = some (.dK (srcK c l mx (t + 1))) := upd_same
          -- mixed = int(source['mixed'] + source['turn'] * 104729) % 998244353
          refine ⟨_, rfl, d, _, rfl, get_mixed hd2, _, rfl, d, _, rfl, get_turn hd2, _, _, rfl, rfl, .inr ⟨by decide, by decide⟩, _, _, rfl, rfl, .inl ⟨_, rfl, _, _, rfl, rfl, (by show (0 : Int) < 998244353; decide), ?_⟩⟩
          have b1 : 0 ≤ (mx + (t + 1) * 104729) % 998244353 := Int.emod_nonneg _ (by decide)
          have b2 : (mx + (t + 1) * 104729) % 998244353 < 998244353 := Int.emod_lt_of_pos _ (by decide)
          generalize (mx + (t + 1) * 104729) % 998244353 = y at b1 b2 ⊢
          -- mixed = int(mixed * mixed + source['turn'] * 17) % 2147483647
          refine ⟨_, rfl, _, rfl, _, _, rfl, rfl, .inl ⟨by omega, by omega⟩, _, rfl, d, _, rfl, get_turn hd2, _, _, rfl, rfl, .inr ⟨by decide, by decide⟩, _, _, rfl, rfl, .inl ⟨_, rfl, _, _, rfl, rfl, (by show (0 : Int) < 2147483647; decide), ?_⟩⟩
          -- source['mixed'] = mixed; return int(mixed // 16) % many
          refine ⟨_, rfl, _, rfl, d, _, rfl, st_mixed hd2 _, ?_⟩
          refine ⟨_, rfl, _, _, rfl, rfl, ⟨by decide, by decide⟩, .inl ⟨_, rfl, _, rfl, _, _, rfl, rfl, (by show (0 : Int) < n; omega), ?_⟩⟩
          refine k _ _ (Int.emod_nonneg _ (by omega)) (.inl (Int.emod_lt_of_pos _ (by omega))) ⟨ks, l, _, t + 1, upd_same, ?_⟩ (kp.d).d
          rw [upd_ne dc.symm, upd_ne dc.symm]
          exact hc
end
end K00

namespace K00
open PySem PySem.Spec L2 Rt
open PyProof.Rows hiding St
theorem merge_src (c : Addr) (l m t : Int) : mergeK [] (srcK c l m t) = srcK c l m t := by
  have h1 := ne_inr n_cl
  have h2 := ne_inr n_cm
  have h3 := ne_inr n_ct
  have h4 := ne_inr n_lm
  have h5 := ne_inr n_lt
  have h6 := ne_inr n_mt
  unfold mergeK srcK putK
  simp [h1, h2, h3, h4, h5, h6]
/-- an item of a list of ints -/
theorem int_at {ns : List Int} {i : Nat} {y : V} (h : (ns.map V.int)[i]? = some y) : ∃ z, ns[i]? = some z ∧ y = V.int z := by
  rw [List.getElem?_map] at h
  cases e : ns[i]? with
  | none => rw [e] at h; cases h
  | some z => rw [e] at h; exact ⟨z, rfl, (Option.some.inj h).symm⟩
theorem same_new {H : Hp} {p : Addr} {o : HO} (n : H p = none) : Same H (upd H p o) := fun b u e => by
  rw [upd_ne (ne_of_none e n)]
  exact e
section
variable {P : Program} {w : World} {K : PySem.W.Frag} {mg : Str → Option Value} {base : Heap}
theorem scSource : FnScope ["script", "mixed", "cell"] ["script"] (defScope sSource) := ⟨rfl, rfl, rfl, by decide +kernel, rfl, by decide +kernel, by decide +kernel⟩
theorem ok_source {f : Addr} {fd : FuncData} (F : Fun K "_law_source" "_law_source" sSource f fd) (mA : mg "abs" = none) (mI : mg "int" = none) : FnG P w K mg base 1 f fd ["script"] (spSource K) := by
  refine okG F scSource (fun vs H Q E h => ?_) (fun cdv A outer s H vs Q E hg hr h => ?_)
  · obtain ⟨a, ns, rfl, _⟩ := h
    rfl
  · obtain ⟨a, ns, rfl, hS, hl, k⟩ := h
    refine ⟨_, pss_cons (ps_set (i := 1) scSource.nd rfl (.inl rfl) pe_int)
      (pss_cons (ps_for PassesOwn.never rfl (pi_list (pv 0)) (pg_name (i := 2) scSource.nd rfl (.inl rfl))
        (pss_one (ps_set (i := 1) scSource.nd rfl (.inl rfl) (pe_op op_mod (pe_callTy call_int1 (by rfl) mI (by decide +kernel)
          (pa_cons (pe_op op_add (pe_op op_add (pe_op op_mul (pv 1) pe_int) (pe_op op_mul (pv 2) pe_int)) pe_int) pa_nil)) pe_int))))
      (pss_one (ps_ret (pe_disp (pps_cons pe_str (pe_revL (pe_lc (own := [("cell", 2)]) (g := gName 2) (tt := tYes) rfl scSource.nd (pi_list (pv 0))
          (blkOk_by (N := ["script", "mixed", "cell"]) (sc := defScope sSource) (by decide +kernel)) (fun _ _ _ _ _ => pg_name (i := 2) scSource.nd rfl (Or.inl rfl)) (fun _ _ _ _ _ => pts_nil)
          (fun _ _ _ _ _ => pe_callB call_abs (by rfl) mA (by decide +kernel) (pa_cons (pv 2) pa_nil))))
        (pps_cons pe_str pe_int (pps_cons pe_str (pv 1) (pps_cons pe_str pe_int pps_nil)))) (by rfl) (by rfl) (fun z => by cases z) (by decide))))), ?_⟩
    refine ⟨_, rfl, a, rfl, ⟨_, hS⟩, for_list (K := K) (a := a) (xs := ns.map V.int) (fun i σ H2 => ∃ (m : Int) (v : Option V), σ = [some (.ref a), some (.int m), v] ∧ H2 = H)
      ⟨11, none, rfl, rfl⟩ (fun i σ H2 _ ⟨_, _, _, e⟩ => by rw [e]; exact hS) ?_ ?_⟩
    · rintro i y σ H2 hi ⟨m, v, rfl, rfl⟩
      obtain ⟨z, hz, rfl⟩ := int_at hi
      refine ⟨_, rfl, _, _, rfl, rfl, .inr ⟨by decide, by decide⟩, _, rfl, _, _, rfl, rfl, .inr ⟨by decide, by decide⟩, _, _, rfl, rfl, _, _, rfl, rfl, .inl ⟨_, rfl, _, _, rfl, rfl, (by show (0 : Int) < 2147483629; decide), ?_⟩⟩
      exact ⟨_, _, rfl, rfl⟩
    · rintro σ H2 ⟨m, v, rfl, rfl⟩
      intro p np
      have s1 := same_new (o := .dK []) np
      refine ⟨_, rfl, a, rfl, ⟨_, s1.seq hS⟩, fun D nD => ?_⟩
      have s2 := s1.trans (same_new (o := .lst []) nD)
      have npD : p ≠ D := ne_of_none upd_same nD
      refine lc_list (K := K) (a := a) (xs := ns.map V.int) (fun i H3 => Same H2 H3 ∧ H3 p = some (.dK []) ∧ ∃ ks : List Int, ks.length = i ∧ H3 D = some (.lst (ks.map V.int)))
        ⟨s2, by rw [upd_ne npD]; exact upd_same, [], rfl, upd_same⟩ (fun i H3 _ ⟨s3, _⟩ => s3.seq hS) ?_ ?_
      · rintro i y H3 hi ⟨s3, hp, ks, rfl, hD⟩
        obtain ⟨z, hz, rfl⟩ := int_at hi
        have il : ks.length < ns.length := (List.getElem?_eq_some_iff.mp hz).1
        refine ⟨rfl, _, rfl, _, rfl, _, hD, ?_, ?_⟩
        · rw [List.length_map]
          exact small1000 (by omega)
        · have nD2 : H2 D = none := s1.free nD
          refine ⟨fun b o e => by rw [upd_ne (ne_of_none e nD2)]; exact s3 b o e, by rw [upd_ne npD]; exact hp, ks ++ [if z < 0 then -z else z], by simp, ?_⟩
          rw [upd_same, List.map_append]
          rfl
      · rintro H3 ⟨s3, hp, ks, ek, hD⟩
        refine ⟨D, _, rfl, .inl (.inl hD), fun c nc => ?_⟩
        refine ⟨_, rfl, ?_, srcK c 1 m 0, rfl, (by show 4 ≤ 15; decide), ?_⟩
        · rw [upd_ne (ne_of_none hp nc)]
          exact hp
        · rw [merge_src]
          have pc : p ≠ c := ne_of_none hp nc
          refine k p c _ np (s3.free nc) ⟨ks.reverse, 1, m, 0, upd_same, ?_⟩ fun b o e => ?_
          · rw [upd_ne pc.symm, upd_same, List.map_reverse]
          · have z := s3 b o e
            rw [upd_ne (ne_of_none e np), upd_ne (ne_of_none z nc)]
            exact z
end
end K00
namespace K00
open PySem PySem.Spec L2 Rt
open PyProof.Rows hiding St
abbrev veT : List Value := [.type "ValueError", .type "Exception", .type "BaseException", .type "object"]
abbrev leT : List Value := [.type "LookupError", .type "Exception", .type "BaseException", .type "object"]
def spPath (K : PySem.W.Frag) (C : Addr) : Sp := fun vs H Q _ => ∃ (a p : Addr) (xs : List V), vs = [.ref a, .ref p] ∧ H a = some (exo a C none) ∧ (H p = some (.lst xs) ∨ H p = some (.tup xs)) ∧ xs.length ≤ 1000 ∧
  ∀ (d q : Addr) (H' : Hp), H' a = some (exo a C (some d)) → H' d = some (exd d [("path", .ref q)]) → H' q = some (.tup xs) → (∀ b o, H b = some o → b ≠ a → H' b = some o) → Q .non H'
def spAttr (C : Addr) (f : Str) : Sp := fun vs H Q _ => ∃ (a : Addr) (v : V), vs = [.ref a, v] ∧ H a = some (exo a C none) ∧
  ∀ (d : Addr) (H' : Hp), H' a = some (exo a C (some d)) → H' d = some (exd d [(f, v)]) → (∀ b o, H b = some o → b ≠ a → H' b = some o) → Q .non H'
section
variable {P : Program} {w : World} {K : PySem.W.Frag} {mg : Str → Option Value} {base : Heap}
theorem ext_tup {a C : Addr} {d : Option Addr} {H : Hp} {p : Addr} {xs : List V} (e : H a = some (exo a C d)) (h : H p = some (.tup xs)) : p ≠ a := ext_ne e h fun _ => nofun
abbrev sBadNetwork : Stmt := inClass (top 6) 0
theorem scBadNetwork : FnScope ["self", "path"] ["self", "path"] (defScope sBadNetwork) := ⟨rfl, rfl, rfl, by decide +kernel, rfl, by decide +kernel, by decide +kernel⟩
theorem ok_BadNetwork {f C : Addr} {fd : FuncData} (F : Fun K "__init__" "BadNetwork.__init__" sBadNetwork f fd) (mT : mg "tuple" = none) (M : ExM K C veT) (no : PySem.W.findIn K (.ref C) "path" = some none) : FnOk P w K mg base CX0 1 f fd ["self", "path"] (spPath K C) := by
  refine F.ok scBadNetwork (fun vs H Q E h => ?_) (fun cdv A outer s H vs Q E hr h => ?_)
  · obtain ⟨a, p, xs, rfl, _⟩ := h
    rfl
  · obtain ⟨a, p, xs, rfl, ha, hp, few, k⟩ := h
    refine ⟨_, pss_one (ps_xs PySem.F.store_ValueError (pv 0) (pe_callTy call_tuple_of (by rfl) mT (by decide +kernel) (pa_cons (pv 1) pa_nil))), ?_⟩
    rcases hp with hp | hp
    · refine ⟨_, rfl, p, xs, rfl, .inl ⟨SqL.of hp, fun l nl => ?_⟩⟩
      have al : a ≠ l := ne_of_none ha nl
      refine ⟨_, rfl, a, C, rfl, M, no, (by rw [upd_ne al]; exact ha), fun dx nd da => ?_⟩
      have ld : l ≠ dx := ne_of_none upd_same nd
      refine k dx l _ upd_same (by rw [upd_ne da]; exact upd_same) (by rw [upd_ne al.symm, upd_ne ld]; exact upd_same) fun b o e nb => ?_
      have z : (upd H l (.tup xs)) b = some o := by
        rw [upd_ne (ne_of_none e nl)]
        exact e
      rw [upd_ne nb, upd_ne (ne_of_none z nd)]
      exact z
    · refine ⟨_, rfl, p, xs, rfl, .inr ⟨SqT.of hp, ?_⟩⟩
      refine ⟨_, rfl, a, C, rfl, M, no, ha, fun dx nd da => ?_⟩
      refine k dx p _ upd_same (by rw [upd_ne da]; exact upd_same) (by rw [upd_ne (ext_tup ha hp), upd_ne (ne_of_none hp nd)]; exact hp) fun b o e nb => ?_
      rw [upd_ne nb, upd_ne (ne_of_none e nd)]
      exact e
abbrev sBadLead : Stmt := inClass (top 7) 0
theorem scBadLead : FnScope ["self", "path"] ["self", "path"] (defScope sBadLead) := ⟨rfl, rfl, rfl, by decide +kernel, rfl, by decide +kernel, by decide +kernel⟩
theorem ok_BadLead {f C : Addr} {fd : FuncData} (F : Fun K "__init__" "BadLead.__init__" sBadLead f fd) (mT : mg "tuple" = none) (M : ExM K C veT) (no : PySem.W.findIn K (.ref C) "path" = some none) : FnOk P w K mg base CX0 1 f fd ["self", "path"] (spPath K C) := by
  refine F.ok scBadLead (fun vs H Q E h => ?_) (fun cdv A outer s H vs Q E hr h => ?_)
  · obtain ⟨a, p, xs, rfl, _⟩ := h
    rfl
  · obtain ⟨a, p, xs, rfl, ha, hp, few, k⟩ := h
    refine ⟨_, pss_one (ps_xs PySem.F.store_ValueError (pv 0) (pe_callTy call_tuple_of (by rfl) mT (by decide +kernel) (pa_cons (pv 1) pa_nil))), ?_⟩
    rcases hp with hp | hp
    · refine ⟨_, rfl, p, xs, rfl, .inl ⟨SqL.of hp, fun l nl => ?_⟩⟩
      have al : a ≠ l := ne_of_none ha nl
      refine ⟨_, rfl, a, C, rfl, M, no, (by rw [upd_ne al]; exact ha), fun dx nd da => ?_⟩
      have ld : l ≠ dx := ne_of_none upd_same nd
      refine k dx l _ upd_same (by rw [upd_ne da]; exact upd_same) (by rw [upd_ne al.symm, upd_ne ld]; exact upd_same) fun b o e nb => ?_
      have z : (upd H l (.tup xs)) b = some o := by
        rw [upd_ne (ne_of_none e nl)]
        exact e
      rw [upd_ne nb, upd_ne (ne_of_none z nd)]
      exact z
    · refine ⟨_, rfl, p, xs, rfl, .inr ⟨SqT.of hp, ?_⟩⟩
      refine ⟨_, rfl, a, C, rfl, M, no, ha, fun dx nd da => ?_⟩
      refine k dx p _ upd_same (by rw [upd_ne da]; exact upd_same) (by rw [upd_ne (ext_tup ha hp), upd_ne (ne_of_none hp nd)]; exact hp) fun b o e nb => ?_
      rw [upd_ne nb, upd_ne (ne_of_none e nd)]
      exact e
abbrev sBadTable : Stmt := inClass (top 8) 0
theorem scBadTable : FnScope ["self", "path"] ["self", "path"] (defScope sBadTable) := ⟨rfl, rfl, rfl, by decide +kernel, rfl, by decide +kernel, by decide +kernel⟩
theorem ok_BadTable {f C : Addr} {fd : FuncData} (F : Fun K "__init__" "BadTable.__init__" sBadTable f fd) (mT : mg "tuple" = none) (M : ExM K C veT) (no : PySem.W.findIn K (.ref C) "path" = some none) : FnOk P w K mg base CX0 1 f fd ["self", "path"] (spPath K C) := by
  refine F.ok scBadTable (fun vs H Q E h => ?_) (fun cdv A outer s H vs Q E hr h => ?_)
  · obtain ⟨a, p, xs, rfl, _⟩ := h
    rfl
  · obtain ⟨a, p, xs, rfl, ha, hp, few, k⟩ := h
    refine ⟨_, pss_one (ps_xs PySem.F.store_ValueError (pv 0) (pe_callTy call_tuple_of (by rfl) mT (by decide +kernel) (pa_cons (pv 1) pa_nil))), ?_⟩
    rcases hp with hp | hp
    · refine ⟨_, rfl, p, xs, rfl, .inl ⟨SqL.of hp, fun l nl => ?_⟩⟩
      have al : a ≠ l := ne_of_none ha nl
      refine ⟨_, rfl, a, C, rfl, M, no, (by rw [upd_ne al]; exact ha), fun dx nd da => ?_⟩
      have ld : l ≠ dx := ne_of_none upd_same nd
      refine k dx l _ upd_same (by rw [upd_ne da]; exact upd_same) (by rw [upd_ne al.symm, upd_ne ld]; exact upd_same) fun b o e nb => ?_
      have z : (upd H l (.tup xs)) b = some o := by
        rw [upd_ne (ne_of_none e nl)]
        exact e
      rw [upd_ne nb, upd_ne (ne_of_none z nd)]
      exact z
    · refine ⟨_, rfl, p, xs, rfl, .inr ⟨SqT.of hp, ?_⟩⟩
      refine ⟨_, rfl, a, C, rfl, M, no, ha, fun dx nd da => ?_⟩
      refine k dx p _ upd_same (by rw [upd_ne da]; exact upd_same) (by rw [upd_ne (ext_tup ha hp), upd_ne (ne_of_none hp nd)]; exact hp) fun b o e nb => ?_
      rw [upd_ne nb, upd_ne (ne_of_none e nd)]
      exact e
abbrev sBadProgram : Stmt := inClass (top 9) 0
theorem scBadProgram : FnScope ["self", "path"] ["self", "path"] (defScope sBadProgram) := ⟨rfl, rfl, rfl, by decide +kernel, rfl, by decide +kernel, by decide +kernel⟩
theorem ok_BadProgram {f C : Addr} {fd : FuncData} (F : Fun K "__init__" "BadProgram.__init__" sBadProgram f fd) (mT : mg "tuple" = none) (M : ExM K C veT) (no : PySem.W.findIn K (.ref C) "path" = some none) : FnOk P w K mg base CX0 1 f fd ["self", "path"] (spPath K C) := by
  refine F.ok scBadProgram (fun vs H Q E h => ?_) (fun cdv A outer s H vs Q E hr h => ?_)
  · obtain ⟨a, p, xs, rfl, _⟩ := h
    rfl
  · obtain ⟨a, p, xs, rfl, ha, hp, few, k⟩ := h
    refine ⟨_, pss_one (ps_xs PySem.F.store_ValueError (pv 0) (pe_callTy call_tuple_of (by rfl) mT (by decide +kernel) (pa_cons (pv 1) pa_nil))), ?_⟩
    rcases hp with hp | hp
    · refine ⟨_, rfl, p, xs, rfl, .inl ⟨SqL.of hp, fun l nl => ?_⟩⟩
      have al : a ≠ l := ne_of_none ha nl
      refine ⟨_, rfl, a, C, rfl, M, no, (by rw [upd_ne al]; exact ha), fun dx nd da => ?_⟩
      have ld : l ≠ dx := ne_of_none upd_same nd
      refine k dx l _ upd_same (by rw [upd_ne da]; exact upd_same) (by rw [upd_ne al.symm, upd_ne ld]; exact upd_same) fun b o e nb => ?_
      have z : (upd H l (.tup xs)) b = some o := by
        rw [upd_ne (ne_of_none e nl)]
        exact e
      rw [upd_ne nb, upd_ne (ne_of_none z nd)]
      exact z
    · refine ⟨_, rfl, p, xs, rfl, .inr ⟨SqT.of hp, ?_⟩⟩
      refine ⟨_, rfl, a, C, rfl, M, no, ha, fun dx nd da => ?_⟩
      refine k dx p _ upd_same (by rw [upd_ne da]; exact upd_same) (by rw [upd_ne (ext_tup ha hp), upd_ne (ne_of_none hp nd)]; exact hp) fun b o e nb => ?_
      rw [upd_ne nb, upd_ne (ne_of_none e nd)]
      exact e
abbrev sGain : Stmt := inClass (top 10) 0
theorem scGain : FnScope ["self", "ring"] ["self", "ring"] (defScope sGain) := ⟨rfl, rfl, rfl, by decide +kernel, rfl, by decide +kernel, by decide +kernel⟩
theorem ok_Gain {f C : Addr} {fd : FuncData} (F : Fun K "__init__" "Gain.__init__" sGain f fd) (M : ExM K C veT) (no : PySem.W.findIn K (.ref C) "ring" = some none) : FnOk P w K mg base CX0 1 f fd ["self", "ring"] (spAttr C "ring") := by
  refine F.ok scGain (fun vs H Q E h => ?_) (fun cdv A outer s H vs Q E hr h => ?_)
  · obtain ⟨a, v, rfl, _⟩ := h
    rfl
  · obtain ⟨a, v, rfl, ha, k⟩ := h
    refine ⟨_, pss_one (ps_xs PySem.F.store_ValueError (pv 0) (pv 1)), ?_⟩
    refine ⟨_, rfl, _, rfl, a, C, rfl, M, no, ha, fun dx nd da => ?_⟩
    refine k dx _ upd_same (by rw [upd_ne da]; exact upd_same) fun b o e nb => ?_
    rw [upd_ne nb, upd_ne (ne_of_none e nd)]
    exact e
abbrev sBadText : Stmt := inClass (top 11) 0
theorem scBadText : FnScope ["self", "place"] ["self", "place"] (defScope sBadText) := ⟨rfl, rfl, rfl, by decide +kernel, rfl, by decide +kernel, by decide +kernel⟩
theorem ok_BadText {f C : Addr} {fd : FuncData} (F : Fun K "__init__" "BadText.__init__" sBadText f fd) (M : ExM K C veT) (no : PySem.W.findIn K (.ref C) "place" = some none) : FnOk P w K mg base CX0 1 f fd ["self", "place"] (spAttr C "place") := by
  refine F.ok scBadText (fun vs H Q E h => ?_) (fun cdv A outer s H vs Q E hr h => ?_)
  · obtain ⟨a, v, rfl, _⟩ := h
    rfl
  · obtain ⟨a, v, rfl, ha, k⟩ := h
    refine ⟨_, pss_one (ps_xs PySem.F.store_ValueError (pv 0) (pv 1)), ?_⟩
    refine ⟨_, rfl, _, rfl, a, C, rfl, M, no, ha, fun dx nd da => ?_⟩
    refine k dx _ upd_same (by rw [upd_ne da]; exact upd_same) fun b o e nb => ?_
    rw [upd_ne nb, upd_ne (ne_of_none e nd)]
    exact e
abbrev sBadAct : Stmt := inClass (top 12) 0
theorem scBadAct : FnScope ["self", "word"] ["self", "word"] (defScope sBadAct) := ⟨rfl, rfl, rfl, by decide +kernel, rfl, by decide +kernel, by decide +kernel⟩
theorem ok_BadAct {f C : Addr} {fd : FuncData} (F : Fun K "__init__" "BadAct.__init__" sBadAct f fd) (M : ExM K C veT) (no : PySem.W.findIn K (.ref C) "word" = some none) : FnOk P w K mg base CX0 1 f fd ["self", "word"] (spAttr C "word") := by
  refine F.ok scBadAct (fun vs H Q E h => ?_) (fun cdv A outer s H vs Q E hr h => ?_)
  · obtain ⟨a, v, rfl, _⟩ := h
    rfl
  · obtain ⟨a, v, rfl, ha, k⟩ := h
    refine ⟨_, pss_one (ps_xs PySem.F.store_ValueError (pv 0) (pv 1)), ?_⟩
    refine ⟨_, rfl, _, rfl, a, C, rfl, M, no, ha, fun dx nd da => ?_⟩
    refine k dx _ upd_same (by rw [upd_ne da]; exact upd_same) fun b o e nb => ?_
    rw [upd_ne nb, upd_ne (ne_of_none e nd)]
    exact e
abbrev sConflict : Stmt := inClass (top 13) 0
theorem scConflict : FnScope ["self", "name"] ["self", "name"] (defScope sConflict) := ⟨rfl, rfl, rfl, by decide +kernel, rfl, by decide +kernel, by decide +kernel⟩
theorem ok_Conflict {f C : Addr} {fd : FuncData} (F : Fun K "__init__" "Conflict.__init__" sConflict f fd) (M : ExM K C veT) (no : PySem.W.findIn K (.ref C) "name" = some none) : FnOk P w K mg base CX0 1 f fd ["self", "name"] (spAttr C "name") := by
  refine F.ok scConflict (fun vs H Q E h => ?_) (fun cdv A outer s H vs Q E hr h => ?_)
  · obtain ⟨a, v, rfl, _⟩ := h
    rfl
  · obtain ⟨a, v, rfl, ha, k⟩ := h
    refine ⟨_, pss_one (ps_xs PySem.F.store_ValueError (pv 0) (pv 1)), ?_⟩
    refine ⟨_, rfl, _, rfl, a, C, rfl, M, no, ha, fun dx nd da => ?_⟩
    refine k dx _ upd_same (by rw [upd_ne da]; exact upd_same) fun b o e nb => ?_
    rw [upd_ne nb, upd_ne (ne_of_none e nd)]
    exact e
abbrev sUnknownName : Stmt := inClass (top 15) 0
theorem scUnknownName : FnScope ["self", "name"] ["self", "name"] (defScope sUnknownName) := ⟨rfl, rfl, rfl, by decide +kernel, rfl, by decide +kernel, by decide +kernel⟩
theorem ok_UnknownName {f C : Addr} {fd : FuncData} (F : Fun K "__init__" "UnknownName.__init__" sUnknownName f fd) (M : ExM K C leT) (no : PySem.W.findIn K (.ref C) "name" = some none) : FnOk P w K mg base CX0 1 f fd ["self", "name"] (spAttr C "name") := by
  refine F.ok scUnknownName (fun vs H Q E h => ?_) (fun cdv A outer s H vs Q E hr h => ?_)
  · obtain ⟨a, v, rfl, _⟩ := h
    rfl
  · obtain ⟨a, v, rfl, ha, k⟩ := h
    refine ⟨_, pss_one (ps_xs PySem.F.store_LookupError (pv 0) (pv 1)), ?_⟩
    refine ⟨_, rfl, _, rfl, a, C, rfl, M, no, ha, fun dx nd da => ?_⟩
    refine k dx _ upd_same (by rw [upd_ne da]; exact upd_same) fun b o e nb => ?_
    rw [upd_ne nb, upd_ne (ne_of_none e nd)]
    exact e
end
end K00
namespace K00
open PySem PySem.Spec L2 Rt
open PyProof.Rows hiding St
abbrev sKinds : Stmt := top 19
abbrev sBases : Stmt := top 20
abbrev sEvery : Stmt := top 21
abbrev sKept : Stmt := top 22
structure Asked (K : PySem.W.Frag) (mg : Str → Option Value) (c : Nat → Addr) (cT cN : Addr) : Prop where
  n0 : mg "NoWay" = some (.ref (c 0))
  n1 : mg "Unlike" = some (.ref (c 1))
  n2 : mg "TooGreat" = some (.ref (c 2))
  n3 : mg "NothingDone" = some (.ref (c 3))
  n4 : mg "BadNetwork" = some (.ref (c 4))
  n5 : mg "BadLead" = some (.ref (c 5))
  n6 : mg "BadTable" = some (.ref (c 6))
  n7 : mg "BadProgram" = some (.ref (c 7))
  n8 : mg "Gain" = some (.ref (c 8))
  n9 : mg "BadText" = some (.ref (c 9))
  n10 : mg "BadAct" = some (.ref (c 10))
  n11 : mg "Conflict" = some (.ref (c 11))
  n12 : mg "UnknownName" = some (.ref (c 12))
  nT : mg "TickError" = some (.ref cT)
  nN : mg "NameMissing" = some (.ref cN)
  zisinstance : mg "isinstance" = none
  zValueError : mg "ValueError" = none
  zLookupError : mg "LookupError" = none
  zKeyError : mg "KeyError" = none
  zIndexError : mg "IndexError" = none
  cc : ∀ k, k < 13 → ExcC K (c k)
  kit : ∀ k j, k < 13 → j < 13 → PySem.W.kitOne K (.ref (c k)) (.ref (c j)) = some (decide (j = k))
  kT : ∀ k, k < 13 → PySem.W.kitOne K (.ref (c k)) (.ref cT) = some (decide (k < 12))
  kV : ∀ k, k < 13 → PySem.W.kitOne K (.ref (c k)) (.type "ValueError") = some (decide (k < 12))
  kN : ∀ k, k < 13 → PySem.W.kitOne K (.ref (c k)) (.ref cN) = some (decide (k = 12))
  kL : ∀ k, k < 13 → PySem.W.kitOne K (.ref (c k)) (.type "LookupError") = some (decide (k = 12))
  kE : ∀ k, k < 13 → PySem.W.kitAny K (.ref (c k)) [.type "KeyError", .type "IndexError"] = some false
theorem Ex.same {H H' : Hp} {a C : Addr} {fs : List (Str × V)} (s : Same H H') (e : Ex H a C fs) : Ex H' a C fs := by
  rcases e with ⟨z, e⟩ | ⟨d, e, f⟩
  · exact .inl ⟨z, s _ _ e⟩
  · exact .inr ⟨d, s _ _ e, s _ _ f⟩
def spKinds (c : Nat → Addr) : Sp := fun vs H Q _ => ∃ (a : Addr) (fs : List (Str × V)) (k : Nat), vs = [.ref a] ∧ Ex H a (c k) fs ∧ k < 13 ∧
  ∀ (L : Addr) (H' : Hp), H L = none → Same H H' → H' L = some (.lst ((List.range 13).map fun j => V.bl (decide (j = k)))) → Q (.ref L) H'
def spBases (c : Nat → Addr) : Sp := fun vs H Q _ => ∃ (a : Addr) (fs : List (Str × V)) (k : Nat), vs = [.ref a] ∧ Ex H a (c k) fs ∧ k < 13 ∧
  ∀ (L : Addr) (H' : Hp), H L = none → Same H H' → H' L = some (.lst [.bl (decide (k < 12)), .bl (decide (k < 12)), .bl (decide (k = 12)), .bl (decide (k = 12)), .bl false]) → Q (.ref L) H'
section
variable {P : Program} {w : World} {K : PySem.W.Frag} {mg : Str → Option Value} {base : Heap} {c : Nat → Addr} {cT cN : Addr}
theorem scKinds : FnScope ["e", "found"] ["e"] (defScope sKinds) := ⟨rfl, rfl, rfl, by decide +kernel, rfl, by decide +kernel, by decide +kernel⟩
theorem ok_kinds {f : Addr} {fd : FuncData} (F : Fun K "_law_kinds" "_law_kinds" sKinds f fd) (T : Asked K mg c cT cN) : FnG P w K mg base 1 f fd ["e"] (spKinds c) := by
  refine okG F scKinds (fun vs H Q E h => ?_) (fun cdv A outer s H vs Q E hg hr h => ?_)
  · obtain ⟨a, fs, k, rfl, _⟩ := h
    rfl
  · obtain ⟨a, fs, k, rfl, ex, hk, q⟩ := h
    have cc := T.cc k hk
    refine ⟨_, (pss_cons (ps_set (i := 1) scKinds.nd rfl (.inl rfl) (pe_lst (pa_cons (pe_callB call_isX (by rfl) T.zisinstance (by decide +kernel) (pa_cons (pv 0) (pa_cons (pe_glob (v := .ref _) (by rfl) T.n0 rfl) pa_nil))) (pa_cons (pe_callB call_isX (by rfl) T.zisinstance (by decide +kernel) (pa_cons (pv 0) (pa_cons (pe_glob (v := .ref _) (by rfl) T.n1 rfl) pa_nil))) (pa_cons (pe_callB call_isX (by rfl) T.zisinstance (by decide +kernel) (pa_cons (pv 0) (pa_cons (pe_glob (v := .ref _) (by rfl) T.n2 rfl) pa_nil))) (pa_cons (pe_callB call_isX (by rfl) T.zisinstance (by decide +kernel) (pa_cons (pv 0) (pa_cons (pe_glob (v := .ref _) (by rfl) T.n3 rfl) pa_nil))) pa_nil))))))
      (pss_cons (ps_set (i := 1) scKinds.nd rfl (.inl rfl) (pe_op op_cat (pv 1) (pe_lst (pa_cons (pe_callB call_isX (by rfl) T.zisinstance (by decide +kernel) (pa_cons (pv 0) (pa_cons (pe_glob (v := .ref _) (by rfl) T.n4 rfl) pa_nil))) (pa_cons (pe_callB call_isX (by rfl) T.zisinstance (by decide +kernel) (pa_cons (pv 0) (pa_cons (pe_glob (v := .ref _) (by rfl) T.n5 rfl) pa_nil))) (pa_cons (pe_callB call_isX (by rfl) T.zisinstance (by decide +kernel) (pa_cons (pv 0) (pa_cons (pe_glob (v := .ref _) (by rfl) T.n6 rfl) pa_nil))) (pa_cons (pe_callB call_isX (by rfl) T.zisinstance (by decide +kernel) (pa_cons (pv 0) (pa_cons (pe_glob (v := .ref _) (by rfl) T.n7 rfl) pa_nil))) pa_nil)))))))
      (pss_cons (ps_set (i := 1) scKinds.nd rfl (.inl rfl) (pe_op op_cat (pv 1) (pe_lst (pa_cons (pe_callB call_isX (by rfl) T.zisinstance (by decide +kernel) (pa_cons (pv 0) (pa_cons (pe_glob (v := .ref _) (by rfl) T.n8 rfl) pa_nil))) (pa_cons (pe_callB call_isX (by rfl) T.zisinstance (by decide +kernel) (pa_cons (pv 0) (pa_cons (pe_glob (v := .ref _) (by rfl) T.n9 rfl) pa_nil))) (pa_cons (pe_callB call_isX (by rfl) T.zisinstance (by decide +kernel) (pa_cons (pv 0) (pa_cons (pe_glob (v := .ref _) (by rfl) T.n10 rfl) pa_nil))) (pa_cons (pe_callB call_isX (by rfl) T.zisinstance (by decide +kernel) (pa_cons (pv 0) (pa_cons (pe_glob (v := .ref _) (by rfl) T.n11 rfl) pa_nil))) pa_nil)))))))
      (pss_one (ps_ret (pe_op op_cat (pv 1) (pe_lst (pa_cons (pe_callB call_isX (by rfl) T.zisinstance (by decide +kernel) (pa_cons (pv 0) (pa_cons (pe_glob (v := .ref _) (by rfl) T.n12 rfl) pa_nil))) pa_nil)))))))), ?_⟩
    refine ⟨_, rfl, a, c k, fs, ex, cc, .inl ⟨.ref (c 0), _, decide (0 = k), rfl, .own _, T.kit k 0 hk (by decide), _, rfl, a, c k, fs, ex, cc, .inl ⟨.ref (c 1), _, decide (1 = k), rfl, .own _, T.kit k 1 hk (by decide), _, rfl, a, c k, fs, ex, cc, .inl ⟨.ref (c 2), _, decide (2 = k), rfl, .own _, T.kit k 2 hk (by decide), _, rfl, a, c k, fs, ex, cc, .inl ⟨.ref (c 3), _, decide (3 = k), rfl, .own _, T.kit k 3 hk (by decide), (by show 4 ≤ sizeLine; decide), fun p1 n1 => ?_⟩⟩⟩⟩⟩
    have s1 := same_new (o := .lst [.bl (decide (0 = k)), .bl (decide (1 = k)), .bl (decide (2 = k)), .bl (decide (3 = k))]) n1
    refine ⟨_, rfl, _, rfl, a, c k, fs, (Ex.same s1 ex), cc, .inl ⟨.ref (c 4), _, decide (4 = k), rfl, .own _, T.kit k 4 hk (by decide), _, rfl, a, c k, fs, (Ex.same s1 ex), cc, .inl ⟨.ref (c 5), _, decide (5 = k), rfl, .own _, T.kit k 5 hk (by decide), _, rfl, a, c k, fs, (Ex.same s1 ex), cc, .inl ⟨.ref (c 6), _, decide (6 = k), rfl, .own _, T.kit k 6 hk (by decide), _, rfl, a, c k, fs, (Ex.same s1 ex), cc, .inl ⟨.ref (c 7), _, decide (7 = k), rfl, .own _, T.kit k 7 hk (by decide), (by show 4 ≤ sizeLine; decide), fun p2 n2 => ?_⟩⟩⟩⟩⟩
    have s2 := s1.trans (same_new (o := .lst [.bl (decide (4 = k)), .bl (decide (5 = k)), .bl (decide (6 = k)), .bl (decide (7 = k))]) n2)
    have p12 : p1 ≠ p2 := ne_of_none upd_same n2
    refine ⟨p1, p2, _, _, rfl, rfl, by rw [upd_ne p12]; exact upd_same, upd_same, (by show 4 + 4 ≤ sizeLine; decide), fun p3 n3 => ?_⟩
    have s3 := s2.trans (same_new (o := .lst [.bl (decide (0 = k)), .bl (decide (1 = k)), .bl (decide (2 = k)), .bl (decide (3 = k)), .bl (decide (4 = k)), .bl (decide (5 = k)), .bl (decide (6 = k)), .bl (decide (7 = k))]) n3)
    refine ⟨_, rfl, _, rfl, a, c k, fs, (Ex.same s3 ex), cc, .inl ⟨.ref (c 8), _, decide (8 = k), rfl, .own _, T.kit k 8 hk (by decide), _, rfl, a, c k, fs, (Ex.same s3 ex), cc, .inl ⟨.ref (c 9), _, decide (9 = k), rfl, .own _, T.kit k 9 hk (by decide), _, rfl, a, c k, fs, (Ex.same s3 ex), cc, .inl ⟨.ref (c 10), _, decide (10 = k), rfl, .own _, T.kit k 10 hk (by decide), _, rfl, a, c k, fs, (Ex.same s3 ex), cc, .inl ⟨.ref (c 11), _, decide (11 = k), rfl, .own _, T.kit k 11 hk (by decide), (by show 4 ≤ sizeLine; decide), fun p4 n4 => ?_⟩⟩⟩⟩⟩
    have s4 := s3.trans (same_new (o := .lst [.bl (decide (8 = k)), .bl (decide (9 = k)), .bl (decide (10 = k)), .bl (decide (11 = k))]) n4)
    have p34 : p3 ≠ p4 := ne_of_none upd_same n4
    refine ⟨p3, p4, _, _, rfl, rfl, by rw [upd_ne p34]; exact upd_same, upd_same, (by show 8 + 4 ≤ sizeLine; decide), fun p5 n5 => ?_⟩
    have s5 := s4.trans (same_new (o := .lst [.bl (decide (0 = k)), .bl (decide (1 = k)), .bl (decide (2 = k)), .bl (decide (3 = k)), .bl (decide (4 = k)), .bl (decide (5 = k)), .bl (decide (6 = k)), .bl (decide (7 = k)), .bl (decide (8 = k)), .bl (decide (9 = k)), .bl (decide (10 = k)), .bl (decide (11 = k))]) n5)
    refine ⟨_, rfl, _, rfl, a, c k, fs, (Ex.same s5 ex), cc, .inl ⟨.ref (c 12), _, decide (12 = k), rfl, .own _, T.kit k 12 hk (by decide), (by show 1 ≤ sizeLine; decide), fun p6 n6 => ?_⟩⟩
    have s6 := s5.trans (same_new (o := .lst [.bl (decide (12 = k))]) n6)
    have p56 : p5 ≠ p6 := ne_of_none upd_same n6
    refine ⟨p5, p6, _, _, rfl, rfl, by rw [upd_ne p56]; exact upd_same, upd_same, (by show 12 + 1 ≤ sizeLine; decide), fun p7 n7 => ?_⟩
    exact q p7 _ (s6.free n7) (s6.trans (same_new n7)) upd_same
theorem scBases : FnScope ["e", "found"] ["e"] (defScope sBases) := ⟨rfl, rfl, rfl, by decide +kernel, rfl, by decide +kernel, by decide +kernel⟩
theorem ok_bases {f : Addr} {fd : FuncData} (F : Fun K "_law_bases" "_law_bases" sBases f fd) (T : Asked K mg c cT cN) : FnG P w K mg base 1 f fd ["e"] (spBases c) := by
  refine okG F scBases (fun vs H Q E h => ?_) (fun cdv A outer s H vs Q E hg hr h => ?_)
  · obtain ⟨a, fs, k, rfl, _⟩ := h
    rfl
  · obtain ⟨a, fs, k, rfl, ex, hk, q⟩ := h
    have cc := T.cc k hk
    refine ⟨_, (pss_cons (ps_set (i := 1) scBases.nd rfl (.inl rfl) (pe_lst (pa_cons (pe_callB call_isX (by rfl) T.zisinstance (by decide +kernel) (pa_cons (pv 0) (pa_cons (pe_glob (v := .ref _) (by rfl) T.nT rfl) pa_nil))) (pa_cons (pe_callB call_isX (by rfl) T.zisinstance (by decide +kernel) (pa_cons (pv 0) (pa_cons (pe_bltn (v := .ty "ValueError") (by rfl) T.zValueError (by decide +kernel) rfl) pa_nil))) pa_nil))))
      (pss_one (ps_ret (pe_op op_cat (pv 1) (pe_lst (pa_cons (pe_callB call_isX (by rfl) T.zisinstance (by decide +kernel) (pa_cons (pv 0) (pa_cons (pe_glob (v := .ref _) (by rfl) T.nN rfl) pa_nil))) (pa_cons (pe_callB call_isX (by rfl) T.zisinstance (by decide +kernel) (pa_cons (pv 0) (pa_cons (pe_bltn (v := .ty "LookupError") (by rfl) T.zLookupError (by decide +kernel) rfl) pa_nil))) (pa_cons (pe_callB call_isX (by rfl) T.zisinstance (by decide +kernel) (pa_cons (pv 0) (pa_cons (pe_tup (pa_cons (pe_bltn (v := .ty "KeyError") (by rfl) T.zKeyError (by decide +kernel) rfl) (pa_cons (pe_bltn (v := .ty "IndexError") (by rfl) T.zIndexError (by decide +kernel) rfl) pa_nil))) pa_nil))) pa_nil)))))))), ?_⟩
    refine ⟨_, rfl, a, c k, fs, ex, cc, .inl ⟨.ref cT, _, decide (k < 12), rfl, .own _, T.kT k hk, _, rfl, a, c k, fs, ex, cc, .inl ⟨.ty "ValueError", _, decide (k < 12), rfl, .ty _, T.kV k hk, (by show 2 ≤ sizeLine; decide), fun p1 n1 => ?_⟩⟩⟩
    have s1 := same_new (o := .lst [.bl (decide (k < 12)), .bl (decide (k < 12))]) n1
    refine ⟨_, rfl, _, rfl, a, c k, fs, Ex.same s1 ex, cc, .inl ⟨.ref cN, _, decide (k = 12), rfl, .own _, T.kN k hk, _, rfl, a, c k, fs, Ex.same s1 ex, cc, .inl ⟨.ty "LookupError", _, decide (k = 12), rfl, .ty _, T.kL k hk,
      _, rfl, (by show 2 ≤ sizeLine; decide), fun tp nt => ?_⟩⟩⟩
    have s2 := s1.trans (same_new (o := .tup [.ty "KeyError", .ty "IndexError"]) nt)
    refine ⟨a, c k, fs, Ex.same s2 ex, cc, .inr ⟨tp, _, _, false, rfl, upd_same, .cons (.ty _) (.cons (.ty _) .nil), T.kE k hk, (by show 3 ≤ sizeLine; decide), fun p2 n2 => ?_⟩⟩
    have s3 := s2.trans (same_new (o := .lst [.bl (decide (k = 12)), .bl (decide (k = 12)), .bl false]) n2)
    have hp1 : (upd (upd H p1 (.lst [.bl (decide (k < 12)), .bl (decide (k < 12))])) tp (.tup [.ty "KeyError", .ty "IndexError"])) p1 = some (.lst [.bl (decide (k < 12)), .bl (decide (k < 12))]) := by
      rw [upd_ne (ne_of_none upd_same nt)]
      exact upd_same
    refine ⟨p1, p2, _, _, rfl, rfl, by rw [upd_ne (ne_of_none hp1 n2)]; exact hp1, upd_same, (by show 2 + 3 ≤ sizeLine; decide), fun p3 n3 => ?_⟩
    exact q p3 _ (s3.free n3) (s3.trans (same_new n3)) upd_same
end
end K00
namespace K00
open PySem PySem.Spec L2 Rt
open PyProof.Rows hiding St
structure Makes (P : Program) (w : World) (K : PySem.W.Frag) (mg : Str → Option Value) (base : Heap) (c fi : Nat → Addr) (fd : Nat → FuncData) : Prop where
  n0 : mg "NoWay" = some (.ref (c 0))
  q0 : PySem.W.excIn K (c 0) veT "ValueError.__new__" = true
  kp0 : PySem.W.keepIn K (.ref (c 0)) = true
  n1 : mg "Unlike" = some (.ref (c 1))
  q1 : PySem.W.excIn K (c 1) veT "ValueError.__new__" = true
  kp1 : PySem.W.keepIn K (.ref (c 1)) = true
  n2 : mg "TooGreat" = some (.ref (c 2))
  q2 : PySem.W.excIn K (c 2) veT "ValueError.__new__" = true
  kp2 : PySem.W.keepIn K (.ref (c 2)) = true
  n3 : mg "NothingDone" = some (.ref (c 3))
  q3 : PySem.W.excIn K (c 3) veT "ValueError.__new__" = true
  kp3 : PySem.W.keepIn K (.ref (c 3)) = true
  n4 : mg "BadNetwork" = some (.ref (c 4))
  M4 : ExM K (c 4) veT
  i4 : PySem.W.excInitIn K (c 4) veT "ValueError.__new__" = true
  f4 : PySem.W.findIn K (.ref (c 4)) "__init__" = some (some (.ref (fi 4)))
  t4 : PySem.W.typeIn K (.ref (fi 4)) = some (.type "function")
  g4 : FnOk P w K mg base CX0 1 (fi 4) (fd 4) ["self", "path"] (spPath K (c 4))
  b4 : Binds K (fd 4) ["self", "path"] []
  n5 : mg "BadLead" = some (.ref (c 5))
  M5 : ExM K (c 5) veT
  i5 : PySem.W.excInitIn K (c 5) veT "ValueError.__new__" = true
  f5 : PySem.W.findIn K (.ref (c 5)) "__init__" = some (some (.ref (fi 5)))
  t5 : PySem.W.typeIn K (.ref (fi 5)) = some (.type "function")
  g5 : FnOk P w K mg base CX0 1 (fi 5) (fd 5) ["self", "path"] (spPath K (c 5))
  b5 : Binds K (fd 5) ["self", "path"] []
  n6 : mg "BadTable" = some (.ref (c 6))
  M6 : ExM K (c 6) veT
  i6 : PySem.W.excInitIn K (c 6) veT "ValueError.__new__" = true
  f6 : PySem.W.findIn K (.ref (c 6)) "__init__" = some (some (.ref (fi 6)))
  t6 : PySem.W.typeIn K (.ref (fi 6)) = some (.type "function")
  g6 : FnOk P w K mg base CX0 1 (fi 6) (fd 6) ["self", "path"] (spPath K (c 6))
  b6 : Binds K (fd 6) ["self", "path"] []
  n7 : mg "BadProgram" = some (.ref (c 7))
  M7 : ExM K (c 7) veT
  i7 : PySem.W.excInitIn K (c 7) veT "ValueError.__new__" = true
  f7 : PySem.W.findIn K (.ref (c 7)) "__init__" = some (some (.ref (fi 7)))
  t7 : PySem.W.typeIn K (.ref (fi 7)) = some (.type "function")
  g7 : FnOk P w K mg base CX0 1 (fi 7) (fd 7) ["self", "path"] (spPath K (c 7))
  b7 : Binds K (fd 7) ["self", "path"] []
  n8 : mg "Gain" = some (.ref (c 8))
  M8 : ExM K (c 8) veT
  i8 : PySem.W.excInitIn K (c 8) veT "ValueError.__new__" = true
  f8 : PySem.W.findIn K (.ref (c 8)) "__init__" = some (some (.ref (fi 8)))
  t8 : PySem.W.typeIn K (.ref (fi 8)) = some (.type "function")
  g8 : FnOk P w K mg base CX0 1 (fi 8) (fd 8) ["self", "ring"] (spAttr (c 8) "ring")
  b8 : Binds K (fd 8) ["self", "ring"] []
  n9 : mg "BadText" = some (.ref (c 9))
  M9 : ExM K (c 9) veT
  i9 : PySem.W.excInitIn K (c 9) veT "ValueError.__new__" = true
  f9 : PySem.W.findIn K (.ref (c 9)) "__init__" = some (some (.ref (fi 9)))
  t9 : PySem.W.typeIn K (.ref (fi 9)) = some (.type "function")
  g9 : FnOk P w K mg base CX0 1 (fi 9) (fd 9) ["self", "place"] (spAttr (c 9) "place")
  b9 : Binds K (fd 9) ["self", "place"] []
  n10 : mg "BadAct" = some (.ref (c 10))
  M10 : ExM K (c 10) veT
  i10 : PySem.W.excInitIn K (c 10) veT "ValueError.__new__" = true
  f10 : PySem.W.findIn K (.ref (c 10)) "__init__" = some (some (.ref (fi 10)))
  t10 : PySem.W.typeIn K (.ref (fi 10)) = some (.type "function")
  g10 : FnOk P w K mg base CX0 1 (fi 10) (fd 10) ["self", "word"] (spAttr (c 10) "word")
  b10 : Binds K (fd 10) ["self", "word"] []
  n11 : mg "Conflict" = some (.ref (c 11))
  M11 : ExM K (c 11) veT
  i11 : PySem.W.excInitIn K (c 11) veT "ValueError.__new__" = true
  f11 : PySem.W.findIn K (.ref (c 11)) "__init__" = some (some (.ref (fi 11)))
  t11 : PySem.W.typeIn K (.ref (fi 11)) = some (.type "function")
  g11 : FnOk P w K mg base CX0 1 (fi 11) (fd 11) ["self", "name"] (spAttr (c 11) "name")
  b11 : Binds K (fd 11) ["self", "name"] []
  n12 : mg "UnknownName" = some (.ref (c 12))
  M12 : ExM K (c 12) leT
  i12 : PySem.W.excInitIn K (c 12) leT "LookupError.__new__" = true
  f12 : PySem.W.findIn K (.ref (c 12)) "__init__" = some (some (.ref (fi 12)))
  t12 : PySem.W.typeIn K (.ref (fi 12)) = some (.type "function")
  g12 : FnOk P w K mg base CX0 1 (fi 12) (fd 12) ["self", "name"] (spAttr (c 12) "name")
  b12 : Binds K (fd 12) ["self", "name"] []
/-- what stands behind every -/
structure EvAt (c : Nat → Addr) (H : Hp) (word number other : V) (xs : List V) (e0 e1 e2 e3 e4 e5 e6 e7 e8 e9 e10 e11 e12 : Addr) : Prop where
  x0 : Ex H e0 (c 0) []
  x1 : Ex H e1 (c 1) []
  x2 : Ex H e2 (c 2) []
  x3 : Ex H e3 (c 3) []
  x4 : ∃ q, Ex H e4 (c 4) [("path", .ref q)] ∧ H q = some (.tup xs)
  x5 : ∃ q, Ex H e5 (c 5) [("path", .ref q)] ∧ H q = some (.tup xs)
  x6 : ∃ q, Ex H e6 (c 6) [("path", .ref q)] ∧ H q = some (.tup xs)
  x7 : ∃ q, Ex H e7 (c 7) [("path", .ref q)] ∧ H q = some (.tup xs)
  x8 : Ex H e8 (c 8) [("ring", other)]
  x9 : Ex H e9 (c 9) [("place", number)]
  x10 : Ex H e10 (c 10) [("word", word)]
  x11 : Ex H e11 (c 11) [("name", word)]
  x12 : Ex H e12 (c 12) [("name", other)]
theorem same_mk {H H' : Hp} {a : Addr} {u : HO} (n : H a = none) (kp : ∀ b o, (upd H a u) b = some o → b ≠ a → H' b = some o) : Same H H' := fun b o e => kp b o (by rw [upd_ne (ne_of_none e n)]; exact e) (ne_of_none e n)
def Seq (H : Hp) (p : Addr) (xs : List V) : Prop := H p = some (.lst xs) ∨ H p = some (.tup xs)
theorem Seq.same {H H' : Hp} {p : Addr} {xs : List V} (h : Seq H p xs) (s : Same H H') : Seq H' p xs := h.imp (s _ _) (s _ _)
def spEvery (c : Nat → Addr) : Sp := fun vs H Q _ => ∃ (word number other : V) (p : Addr) (xs : List V), vs = [word, number, .ref p, other] ∧ Seq H p xs ∧ xs.length ≤ 1000 ∧
  ∀ (L e0 e1 e2 e3 e4 e5 e6 e7 e8 e9 e10 e11 e12 : Addr) (H' : Hp), H L = none → Same H H' → H' L = some (.lst [.ref e0, .ref e1, .ref e2, .ref e3, .ref e4, .ref e5, .ref e6, .ref e7, .ref e8, .ref e9, .ref e10, .ref e11, .ref e12]) →
    EvAt c H' word number other xs e0 e1 e2 e3 e4 e5 e6 e7 e8 e9 e10 e11 e12 → Q (.ref L) H'
section
variable {P : Program} {w : World} {K : PySem.W.Frag} {mg : Str → Option Value} {base : Heap} {c fi : Nat → Addr} {fdd : Nat → FuncData}
theorem scEvery : FnScope ["word", "number", "some", "other", "found"] ["word", "number", "some", "other"] (defScope sEvery) := ⟨rfl, rfl, rfl, by decide +kernel, rfl, by decide +kernel, by decide +kernel⟩
theorem ok_every {f : Addr} {fd : FuncData} (F : Fun K "_law_every" "_law_every" sEvery f fd) (T : Makes P w K mg base c fi fdd) : FnG P w K mg base 3 f fd ["word", "number", "some", "other"] (spEvery c) := by
  refine okG F scEvery (fun vs H Q E h => ?_) (fun cdv A outer s H vs Q E hg hr h => ?_)
  · obtain ⟨word, number, other, p, xs, rfl, _⟩ := h
    rfl
  · obtain ⟨word, number, other, p, xs, rfl, hp, few, k⟩ := h
    refine ⟨_, (pss_cons (ps_set (i := 4) scEvery.nd rfl (.inl rfl) (pe_lst (pa_cons (pe_xn PySem.F.excBase_ValueError T.q0 T.kp0 (by rfl) T.n0) (pa_cons (pe_xn PySem.F.excBase_ValueError T.q1 T.kp1 (by rfl) T.n1) (pa_cons (pe_xn PySem.F.excBase_ValueError T.q2 T.kp2 (by rfl) T.n2) (pa_cons (pe_xn PySem.F.excBase_ValueError T.q3 T.kp3 (by rfl) T.n3) (pa_cons (pe_xm PySem.F.excBase_ValueError T.M4 T.i4 T.f4 T.t4 T.g4 hr T.b4 (by rfl) T.n4 (pa_cons (pv 2) pa_nil)) (pa_cons (pe_xm PySem.F.excBase_ValueError T.M5 T.i5 T.f5 T.t5 T.g5 hr T.b5 (by rfl) T.n5 (pa_cons (pv 2) pa_nil)) (pa_cons (pe_xm PySem.F.excBase_ValueError T.M6 T.i6 T.f6 T.t6 T.g6 hr T.b6 (by rfl) T.n6 (pa_cons (pv 2) pa_nil)) pa_nil)))))))))
      (pss_cons (ps_set (i := 4) scEvery.nd rfl (.inl rfl) (pe_op op_cat (pv 4) (pe_lst (pa_cons (pe_xm PySem.F.excBase_ValueError T.M7 T.i7 T.f7 T.t7 T.g7 hr T.b7 (by rfl) T.n7 (pa_cons (pv 2) pa_nil)) (pa_cons (pe_xm PySem.F.excBase_ValueError T.M8 T.i8 T.f8 T.t8 T.g8 hr T.b8 (by rfl) T.n8 (pa_cons (pv 3) pa_nil)) (pa_cons (pe_xm PySem.F.excBase_ValueError T.M9 T.i9 T.f9 T.t9 T.g9 hr T.b9 (by rfl) T.n9 (pa_cons (pv 1) pa_nil)) (pa_cons (pe_xm PySem.F.excBase_ValueError T.M10 T.i10 T.f10 T.t10 T.g10 hr T.b10 (by rfl) T.n10 (pa_cons (pv 0) pa_nil)) (pa_cons (pe_xm PySem.F.excBase_ValueError T.M11 T.i11 T.f11 T.t11 T.g11 hr T.b11 (by rfl) T.n11 (pa_cons (pv 0) pa_nil)) pa_nil))))))))
      (pss_one (ps_ret (pe_op op_cat (pv 4) (pe_lst (pa_cons (pe_xm PySem.F.excBase_LookupError T.M12 T.i12 T.f12 T.t12 T.g12 hr T.b12 (by rfl) T.n12 (pa_cons (pv 3) pa_nil)) pa_nil))))))), ?_⟩
    have t0 : Same H H := Same.refl H
    intro e0 m0
    have s0 : Same _ _ := same_new (o := exo e0 (c 0) none) m0
    have x0 : Ex _ e0 (c 0) [] := .inl ⟨rfl, upd_same (H := H) (a := e0) (o := exo e0 (c 0) none)⟩
    have t1 := t0.trans s0
    intro e1 m1
    have s1 : Same _ _ := same_new (o := exo e1 (c 1) none) m1
    have x1 : Ex _ e1 (c 1) [] := .inl ⟨rfl, upd_same (H := (upd H e0 (exo e0 (c 0) none))) (a := e1) (o := exo e1 (c 1) none)⟩
    have t2 := t1.trans s1
    intro e2 m2
    have s2 : Same _ _ := same_new (o := exo e2 (c 2) none) m2
    have x2 : Ex _ e2 (c 2) [] := .inl ⟨rfl, upd_same (H := (upd (upd H e0 (exo e0 (c 0) none)) e1 (exo e1 (c 1) none))) (a := e2) (o := exo e2 (c 2) none)⟩
    have t3 := t2.trans s2
    intro e3 m3
    have s3 : Same _ _ := same_new (o := exo e3 (c 3) none) m3
    have x3 : Ex _ e3 (c 3) [] := .inl ⟨rfl, upd_same (H := (upd (upd (upd H e0 (exo e0 (c 0) none)) e1 (exo e1 (c 1) none)) e2 (exo e2 (c 2) none))) (a := e3) (o := exo e3 (c 3) none)⟩
    have t4 := t3.trans s3
    refine ⟨_, rfl, (by show 1 ≤ 1000; decide), fun e4 m4 => ?_⟩
    refine ⟨e4, p, xs, rfl, upd_same, (hp.same (t4.trans (same_new m4))), few, fun d4 q4 h4 ha4 hd4 hq4 kp4 => ⟨rfl, ?_⟩⟩
    have s4 : Same (upd (upd (upd (upd H e0 (exo e0 (c 0) none)) e1 (exo e1 (c 1) none)) e2 (exo e2 (c 2) none)) e3 (exo e3 (c 3) none)) h4 := same_mk m4 kp4
    have x4 : ∃ q, Ex h4 e4 (c 4) [("path", .ref q)] ∧ h4 q = some (.tup xs) := ⟨q4, .inr ⟨d4, ha4, hd4⟩, hq4⟩
    have t5 := t4.trans s4
    refine ⟨_, rfl, (by show 1 ≤ 1000; decide), fun e5 m5 => ?_⟩
    refine ⟨e5, p, xs, rfl, upd_same, (hp.same (t5.trans (same_new m5))), few, fun d5 q5 h5 ha5 hd5 hq5 kp5 => ⟨rfl, ?_⟩⟩
    have s5 : Same h4 h5 := same_mk m5 kp5
    have x5 : ∃ q, Ex h5 e5 (c 5) [("path", .ref q)] ∧ h5 q = some (.tup xs) := ⟨q5, .inr ⟨d5, ha5, hd5⟩, hq5⟩
    have t6 := t5.trans s5
    refine ⟨_, rfl, (by show 1 ≤ 1000; decide), fun e6 m6 => ?_⟩
    refine ⟨e6, p, xs, rfl, upd_same, (hp.same (t6.trans (same_new m6))), few, fun d6 q6 h6 ha6 hd6 hq6 kp6 => ⟨rfl, ?_⟩⟩
    have s6 : Same h5 h6 := same_mk m6 kp6
    have x6 : ∃ q, Ex h6 e6 (c 6) [("path", .ref q)] ∧ h6 q = some (.tup xs) := ⟨q6, .inr ⟨d6, ha6, hd6⟩, hq6⟩
    have t7 := t6.trans s6
    refine ⟨(by show 7 ≤ sizeLine; decide), fun l1 nl1 => ?_⟩
    have sl1 : Same h6 _ := same_new (o := .lst [.ref e0, .ref e1, .ref e2, .ref e3, .ref e4, .ref e5, .ref e6]) nl1
    have t8 := t7.trans sl1
    have hl1 := upd_same (H := h6) (a := l1) (o := .lst [.ref e0, .ref e1, .ref e2, .ref e3, .ref e4, .ref e5, .ref e6])
    refine ⟨_, rfl, ?_⟩
    refine ⟨_, rfl, (by show 1 ≤ 1000; decide), fun e7 m7 => ?_⟩
    refine ⟨e7, p, xs, rfl, upd_same, (hp.same (t8.trans (same_new m7))), few, fun d7 q7 h7 ha7 hd7 hq7 kp7 => ⟨rfl, ?_⟩⟩
    have s7 : Same (upd h6 l1 (.lst [.ref e0, .ref e1, .ref e2, .ref e3, .ref e4, .ref e5, .ref e6])) h7 := same_mk m7 kp7
    have x7 : ∃ q, Ex h7 e7 (c 7) [("path", .ref q)] ∧ h7 q = some (.tup xs) := ⟨q7, .inr ⟨d7, ha7, hd7⟩, hq7⟩
    have t9 := t8.trans s7
    refine ⟨_, rfl, (by show 1 ≤ 1000; decide), fun e8 m8 => ?_⟩
    refine ⟨e8, other, rfl, upd_same, fun d8 h8 ha8 hd8 kp8 => ⟨rfl, ?_⟩⟩
    have s8 : Same h7 h8 := same_mk m8 kp8
    have x8 : Ex h8 e8 (c 8) [("ring", other)] := .inr ⟨d8, ha8, hd8⟩
    have t10 := t9.trans s8
    refine ⟨_, rfl, (by show 1 ≤ 1000; decide), fun e9 m9 => ?_⟩
    refine ⟨e9, number, rfl, upd_same, fun d9 h9 ha9 hd9 kp9 => ⟨rfl, ?_⟩⟩
    have s9 : Same h8 h9 := same_mk m9 kp9
    have x9 : Ex h9 e9 (c 9) [("place", number)] := .inr ⟨d9, ha9, hd9⟩
    have t11 := t10.trans s9
    refine ⟨_, rfl, (by show 1 ≤ 1000; decide), fun e10 m10 => ?_⟩
    refine ⟨e10, word, rfl, upd_same, fun d10 h10 ha10 hd10 kp10 => ⟨rfl, ?_⟩⟩
    have s10 : Same h9 h10 := same_mk m10 kp10
    have x10 : Ex h10 e10 (c 10) [("word", word)] := .inr ⟨d10, ha10, hd10⟩
    have t12 := t11.trans s10
    refine ⟨_, rfl, (by show 1 ≤ 1000; decide), fun e11 m11 => ?_⟩
    refine ⟨e11, word, rfl, upd_same, fun d11 h11 ha11 hd11 kp11 => ⟨rfl, ?_⟩⟩
    have s11 : Same h10 h11 := same_mk m11 kp11
    have x11 : Ex h11 e11 (c 11) [("name", word)] := .inr ⟨d11, ha11, hd11⟩
    have t13 := t12.trans s11
    refine ⟨(by show 5 ≤ sizeLine; decide), fun l2 nl2 => ?_⟩
    have sl2 : Same h11 _ := same_new (o := .lst [.ref e7, .ref e8, .ref e9, .ref e10, .ref e11]) nl2
    have t14 := t13.trans sl2
    have hl1 := (((((s7.trans s8).trans s9).trans s10).trans s11).trans sl2) _ _ hl1
    refine ⟨l1, l2, _, _, rfl, rfl, hl1, upd_same, (by show 7 + 5 ≤ sizeLine; decide), fun l3 nl3 => ?_⟩
    have sl3 : Same (upd h11 l2 (.lst [.ref e7, .ref e8, .ref e9, .ref e10, .ref e11])) _ := same_new (o := .lst [.ref e0, .ref e1, .ref e2, .ref e3, .ref e4, .ref e5, .ref e6, .ref e7, .ref e8, .ref e9, .ref e10, .ref e11]) nl3
    have t15 := t14.trans sl3
    have hl3 := upd_same (H := (upd h11 l2 (.lst [.ref e7, .ref e8, .ref e9, .ref e10, .ref e11]))) (a := l3) (o := .lst [.ref e0, .ref e1, .ref e2, .ref e3, .ref e4, .ref e5, .ref e6, .ref e7, .ref e8, .ref e9, .ref e10, .ref e11])
    refine ⟨_, rfl, ?_⟩
    refine ⟨_, rfl, (by show 1 ≤ 1000; decide), fun e12 m12 => ?_⟩
    refine ⟨e12, other, rfl, upd_same, fun d12 h12 ha12 hd12 kp12 => ⟨rfl, ?_⟩⟩
    have s12 : Same (upd (upd h11 l2 (.lst [.ref e7, .ref e8, .ref e9, .ref e10, .ref e11])) l3 (.lst [.ref e0, .ref e1, .ref e2, .ref e3, .ref e4, .ref e5, .ref e6, .ref e7, .ref e8, .ref e9, .ref e10, .ref e11])) h12 := same_mk m12 kp12
    have x12 : Ex h12 e12 (c 12) [("name", other)] := .inr ⟨d12, ha12, hd12⟩
    have t16 := t15.trans s12
    refine ⟨(by show 1 ≤ sizeLine; decide), fun l4 nl4 => ?_⟩
    have sl4 : Same h12 _ := same_new (o := .lst [.ref e12]) nl4
    have t17 := t16.trans sl4
    have hl3 := (s12.trans sl4) _ _ hl3
    refine ⟨l3, l4, _, _, rfl, rfl, hl3, upd_same, (by show 12 + 1 ≤ sizeLine; decide), fun l5 nl5 => ?_⟩
    have sl5 : Same (upd h12 l4 (.lst [.ref e12])) _ := same_new (o := .lst [.ref e0, .ref e1, .ref e2, .ref e3, .ref e4, .ref e5, .ref e6, .ref e7, .ref e8, .ref e9, .ref e10, .ref e11, .ref e12]) nl5
    have t18 := t17.trans sl5
    have r18 : Same (upd (upd h12 l4 (.lst [.ref e12])) l5 (.lst [.ref e0, .ref e1, .ref e2, .ref e3, .ref e4, .ref e5, .ref e6, .ref e7, .ref e8, .ref e9, .ref e10, .ref e11, .ref e12])) (upd (upd h12 l4 (.lst [.ref e12])) l5 (.lst [.ref e0, .ref e1, .ref e2, .ref e3, .ref e4, .ref e5, .ref e6, .ref e7, .ref e8, .ref e9, .ref e10, .ref e11, .ref e12])) := Same.refl _
    have r17 := sl5.trans r18
    have r16 := sl4.trans r17
    have r15 := s12.trans r16
    have r14 := sl3.trans r15
    have r13 := sl2.trans r14
    have r12 := s11.trans r13
    have r11 := s10.trans r12
    have r10 := s9.trans r11
    have r9 := s8.trans r10
    have r8 := s7.trans r9
    have r7 := sl1.trans r8
    have r6 := s6.trans r7
    have r5 := s5.trans r6
    have r4 := s4.trans r5
    have r3 := s3.trans r4
    have r2 := s2.trans r3
    have r1 := s1.trans r2
    have r0 := s0.trans r1
    exact k l5 e0 e1 e2 e3 e4 e5 e6 e7 e8 e9 e10 e11 e12 _ (t17.free nl5) t18 upd_same ⟨Ex.same r1 x0, Ex.same r2 x1, Ex.same r3 x2, Ex.same r4 x3, x4.elim fun q z => ⟨q, Ex.same r5 z.1, r5 _ _ z.2⟩, x5.elim fun q z => ⟨q, Ex.same r6 z.1, r6 _ _ z.2⟩, x6.elim fun q z => ⟨q, Ex.same r7 z.1, r7 _ _ z.2⟩, x7.elim fun q z => ⟨q, Ex.same r9 z.1, r9 _ _ z.2⟩, Ex.same r10 x8, Ex.same r11 x9, Ex.same r12 x10, Ex.same r13 x11, Ex.same r16 x12⟩
end
end K00
namespace K00
open PySem PySem.Spec L2 Rt
theorem tup_new {H : Hp} {t p : Addr} {o : HO} {xs : List V} (h : H t = some (.tup xs)) (n : H p = none) : (upd H p o) t = some (.tup xs) := by
  rw [upd_ne (ne_of_none h n)]
  exact h
theorem lst_new {H : Hp} {t p : Addr} {o : HO} {xs : List V} (h : H t = some (.lst xs)) (n : H p = none) : (upd H p o) t = some (.lst xs) := by
  rw [upd_ne (ne_of_none h n)]
  exact h
end K00
namespace K00
open PySem PySem.Spec L2 Rt
open PyProof.Rows hiding St
theorem sqT_same {K : PySem.W.Frag} {H H' : Hp} {a : Addr} {xs : List V} (s : Same H H') (h : SqT K H a xs) : SqT K H' a xs := by
  rcases h with (h | ⟨o, h⟩) | h
  · exact .inl (.inl (s _ _ h))
  · exact .inl (.inr ⟨o, s _ _ h⟩)
  · exact .inr h
mutual
theorem Dx.same {K : PySem.W.Frag} {H H' : Hp} (s : Same H H') : ∀ (v : V) (d : PyData), Dx K H v d → Dx K H' v d
  | _, _, .non => .non
  | _, _, .bl b => .bl b
  | _, _, .int i => .int i
  | _, _, .str x => .str x
  | _, _, .lst h a => .lst (s.seq h) (DxAll.same s _ _ a)
  | _, _, .tup h a => .tup (sqT_same s h) (DxAll.same s _ _ a)
  | _, _, .dic h a => .dic (s _ _ h) (DxAll.same s _ _ a)
theorem DxAll.same {K : PySem.W.Frag} {H H' : Hp} (s : Same H H') : ∀ (vs : List V) (ds : List PyData), DxAll K H vs ds → DxAll K H' vs ds
  | _, _, .nil => .nil
  | _, _, .cons h t => .cons (Dx.same s _ _ h) (DxAll.same s _ _ t)
end
/-- data that is told shortly -/
structure Nice (d : PyData) : Prop where
  sh : d.showable = true
  dp : d.depth ≤ 3
  ln : d.shown.length ≤ 1000
theorem Nice.one {d : PyData} (n : Nice d) : d.showable = true ∧ d.depth ≤ 60 ∧ d.shown.length ≤ sizeLine := ⟨n.sh, Nat.le_trans n.dp (by decide), Nat.le_trans n.ln (by decide)⟩
theorem Nice.two {d : PyData} (n : Nice d) : (PyData.list [d, d]).showable = true ∧ (PyData.list [d, d]).depth ≤ 60 ∧ (PyData.list [d, d]).shown.length ≤ sizeLine := by
  have h1 := n.dp
  have h2 := n.ln
  refine ⟨by simp [PyData.showable, PyData.showableAll, n.sh], ?_, ?_⟩
  · simp only [PyData.depth, PyData.depthAll]
    omega
  · simp only [PyData.shown, PyData.shownAll]
    refine Nat.le_trans (listText_len_le _) ?_
    simp only [List.map_cons, List.map_nil, List.sum_cons, List.sum_nil, List.length_cons, List.length_nil]
    rw [sizeLine_eq]
    omega
theorem Nice.four {d : PyData} (n : Nice d) : (PyData.list [d, d, d, d]).showable = true ∧ (PyData.list [d, d, d, d]).depth ≤ 60 ∧ (PyData.list [d, d, d, d]).shown.length ≤ sizeLine := by
  have h1 := n.dp
  have h2 := n.ln
  refine ⟨by simp [PyData.showable, PyData.showableAll, n.sh], ?_, ?_⟩
  · simp only [PyData.depth, PyData.depthAll]
    omega
  · simp only [PyData.shown, PyData.shownAll]
    refine Nat.le_trans (listText_len_le _) ?_
    simp only [List.map_cons, List.map_nil, List.sum_cons, List.sum_nil, List.length_cons, List.length_nil]
    rw [sizeLine_eq]
    omega
theorem iteE {c A B : Prop} [Decidable c] (hc : c) (h : A) : if decide c = true then A else B := by
  rw [decide_eq_true hc]
  exact iteT h
theorem look1 (n : Str) (v : V) : List.lookup n [(n, v)] = some v := by simp [List.lookup]
structure Kept (K : PySem.W.Frag) (mg : Str → Option Value) (c : Nat → Addr) : Prop where
  zrepr : mg "repr" = none
  ztuple : mg "tuple" = none
  cc : ∀ k, k < 13 → ExcC K (c k)
  a4 : PySem.W.findIn K (.ref (c 4)) "path" = some none
  a5 : PySem.W.findIn K (.ref (c 5)) "path" = some none
  a6 : PySem.W.findIn K (.ref (c 6)) "path" = some none
  a7 : PySem.W.findIn K (.ref (c 7)) "path" = some none
  a8 : PySem.W.findIn K (.ref (c 8)) "ring" = some none
  a9 : PySem.W.findIn K (.ref (c 9)) "place" = some none
  a10 : PySem.W.findIn K (.ref (c 10)) "word" = some none
  a11 : PySem.W.findIn K (.ref (c 11)) "name" = some none
  a12 : PySem.W.findIn K (.ref (c 12)) "name" = some none
def spKept (K : PySem.W.Frag) (c : Nat → Addr) : Sp := fun vs H Q _ => ∃ (word number other : V) (L p : Addr) (xs : List V) (dw dn dq : PyData) (ds : List PyData) (e0 e1 e2 e3 e4 e5 e6 e7 e8 e9 e10 e11 e12 : Addr), vs = [.ref L, word, number, .ref p, other] ∧
  H L = some (.lst [.ref e0, .ref e1, .ref e2, .ref e3, .ref e4, .ref e5, .ref e6, .ref e7, .ref e8, .ref e9, .ref e10, .ref e11, .ref e12]) ∧ EvAt c H word number other xs e0 e1 e2 e3 e4 e5 e6 e7 e8 e9 e10 e11 e12 ∧
  Seq H p xs ∧ Dx K H word dw ∧ Nice dw ∧ Dx K H number dn ∧ Nice dn ∧ Dx K H other dq ∧ Nice dq ∧ DxAll K H xs ds ∧ Nice (.tuple ds) ∧ ∀ H', Same H H' → Q (.bl true) H'
section
variable {P : Program} {w : World} {K : PySem.W.Frag} {mg : Str → Option Value} {base : Heap} {c : Nat → Addr}
theorem scKept : FnScope ["every", "word", "number", "some", "other", "paths", "words"] ["every", "word", "number", "some", "other"] (defScope sKept) := ⟨rfl, rfl, rfl, by decide +kernel, rfl, by decide +kernel, by decide +kernel⟩
theorem ok_kept {f : Addr} {fd : FuncData} (F : Fun K "_law_kept" "_law_kept" sKept f fd) (T : Kept K mg c) : FnG P w K mg base 1 f fd ["every", "word", "number", "some", "other"] (spKept K c) := by
  refine okG F scKept (fun vs H Q E h => ?_) (fun cdv A outer s H vs Q E hg hr h => ?_)
  · obtain ⟨word, number, other, L, p, xs, dw, dn, dq, ds, e0, e1, e2, e3, e4, e5, e6, e7, e8, e9, e10, e11, e12, rfl, _⟩ := h
    rfl
  · obtain ⟨word, number, other, L, p, xs, dw, dn, dq, ds, e0, e1, e2, e3, e4, e5, e6, e7, e8, e9, e10, e11, e12, rfl, hL, ev, hp, xw, nw, xn, nn, xq, nq, xa, na, k⟩ := h
    have hu := hr.units
    refine ⟨_, (pss_cons (ps_par (i := 5) (j := 6) rfl scKept.nd rfl rfl (by decide) rfl rfl (pa_cons (pe_lst (pa_cons (pe_xg (pe_ix ix_list (pv 0) pe_int (fun _ _ => rfl))) (pa_cons (pe_xg (pe_ix ix_list (pv 0) pe_int (fun _ _ => rfl))) (pa_cons (pe_xg (pe_ix ix_list (pv 0) pe_int (fun _ _ => rfl))) (pa_cons (pe_xg (pe_ix ix_list (pv 0) pe_int (fun _ _ => rfl))) pa_nil))))) (pa_cons (pe_lst (pa_cons (pe_xg (pe_ix ix_list (pv 0) pe_int (fun _ _ => rfl))) (pa_cons (pe_xg (pe_ix ix_list (pv 0) pe_int (fun _ _ => rfl))) pa_nil))) pa_nil)) (by rfl))
      (pss_cons (ps_if (PW.pt (pw_or (pt_cmpR op_ne (pe_callB (call_reprX hg hu) (by rfl) T.zrepr (by decide +kernel) (pa_cons (pv 5) pa_nil)) (pe_callB (call_reprX hg hu) (by rfl) T.zrepr (by decide +kernel) (pa_cons (pe_op op_rep (pe_lst (pa_cons (pe_callTy call_tuple_of (by rfl) T.ztuple (by decide +kernel) (pa_cons (pv 3) pa_nil)) pa_nil)) pe_int) pa_nil)) (nomark _)) (pw_or1 (pt_cmpR op_ne (pe_callB (call_reprX hg hu) (by rfl) T.zrepr (by decide +kernel) (pa_cons (pv 6) pa_nil)) (pe_callB (call_reprX hg hu) (by rfl) T.zrepr (by decide +kernel) (pa_cons (pe_op op_rep (pe_lst (pa_cons (pv 1) pa_nil)) pe_int) pa_nil)) (nomark _))))) (pss_one (ps_ret pe_bl)) pss_nil)
      (pss_one (ps_ret (pe_and (pe_cmpR op_eq (pe_callB (call_reprX hg hu) (by rfl) T.zrepr (by decide +kernel) (pa_cons (pe_lst (pa_cons (pe_xg (pe_ix ix_list (pv 0) pe_int (fun _ _ => rfl))) (pa_cons (pe_xg (pe_ix ix_list (pv 0) pe_int (fun _ _ => rfl))) pa_nil))) pa_nil)) (pe_callB (call_reprX hg hu) (by rfl) T.zrepr (by decide +kernel) (pa_cons (pe_op op_rep (pe_lst (pa_cons (pv 4) pa_nil)) pe_int) pa_nil)) (nomark _)) (pe_one (pe_cmpR op_eq (pe_callB (call_reprX hg hu) (by rfl) T.zrepr (by decide +kernel) (pa_cons (pe_xg (pe_ix ix_list (pv 0) pe_int (fun _ _ => rfl))) pa_nil)) (pe_callB (call_reprX hg hu) (by rfl) T.zrepr (by decide +kernel) (pa_cons (pv 2) pa_nil)) (nomark _)))))))), ?_⟩
    obtain ⟨q4, x4, h4⟩ := ev.x4
    obtain ⟨q5, x5, h5⟩ := ev.x5
    obtain ⟨q6, x6, h6⟩ := ev.x6
    obtain ⟨q7, x7, h7⟩ := ev.x7
    -- paths, words
    refine ⟨_, rfl, L, _, 4, _, rfl, rfl, SqL.of hL, rfl, e4, c 4, _, .ref q4, rfl, x4, T.cc 4 (by decide), T.a4, look1 _ _, _, rfl, L, _, 5, _, rfl, rfl, SqL.of hL, rfl, e5, c 5, _, .ref q5, rfl, x5, T.cc 5 (by decide), T.a5, look1 _ _, _, rfl, L, _, 6, _, rfl, rfl, SqL.of hL, rfl, e6, c 6, _, .ref q6, rfl, x6, T.cc 6 (by decide), T.a6, look1 _ _, _, rfl, L, _, 7, _, rfl, rfl, SqL.of hL, rfl, e7, c 7, _, .ref q7, rfl, x7, T.cc 7 (by decide), T.a7, look1 _ _, (by show 4 ≤ sizeLine; decide), fun p1 n1 => ?_⟩
    have s1 := same_new (o := .lst [.ref q4, .ref q5, .ref q6, .ref q7]) n1
    refine ⟨_, rfl, L, _, 10, _, rfl, rfl, SqL.of (s1 _ _ hL), rfl, e10, c 10, _, word, rfl, Ex.same s1 ev.x10, T.cc 10 (by decide), T.a10, look1 _ _, _, rfl, L, _, 11, _, rfl, rfl, SqL.of (s1 _ _ hL), rfl, e11, c 11, _, word, rfl, Ex.same s1 ev.x11, T.cc 11 (by decide), T.a11, look1 _ _, (by show 2 ≤ sizeLine; decide), fun p2 n2 => ?_⟩
    have s2 := s1.trans (same_new (o := .lst [word, word]) n2)
    refine ⟨_, _, rfl, ?_⟩
    -- repr(paths) != repr([tuple(some)] * 4)
    have hp1 := lst_new (p := p2) (o := .lst [word, word]) (upd_same (H := H) (a := p1) (o := .lst [.ref q4, .ref q5, .ref q6, .ref q7])) n2
    have hp2 := upd_same (H := upd H p1 (.lst [.ref q4, .ref q5, .ref q6, .ref q7])) (a := p2) (o := .lst [word, word])
    revert hp1 hp2 s2
    generalize upd (upd H p1 (.lst [.ref q4, .ref q5, .ref q6, .ref q7])) p2 (.lst [word, word]) = H2
    intro s2 hp1 hp2
    have tt : ∀ q, H q = some (.tup xs) → Dx K H2 (.ref q) (.tuple ds) := fun q hq => .tup (SqT.of (s2 _ _ hq)) (DxAll.same s2 _ _ xa)
    have four : Dx K H2 (.ref p1) (.list [.tuple ds, .tuple ds, .tuple ds, .tuple ds]) := .lst (SqL.of hp1) (.cons (tt _ h4) (.cons (tt _ h5) (.cons (tt _ h6) (.cons (tt _ h7) .nil))))
    refine ⟨_, rfl, _, _, rfl, four, na.four.1, na.four.2.1, na.four.2.2, ?_⟩
    have hp0 : H p = some (.lst xs) ∨ H p = some (.tup xs) := hp
    rcases hp0 with hp | hp
    · refine ⟨_, rfl, p, xs, rfl, .inl ⟨SqL.of (s2 _ _ hp), fun l nl => ?_⟩⟩
      have s3 := s2.trans (same_new (o := .tup xs) nl)
      have ht := upd_same (H := H2) (a := l) (o := .tup xs)
      have hp2 := (same_new (o := .tup xs) nl) _ _ hp2
      revert s3 ht hp2
      generalize upd H2 l (.tup xs) = H3
      intro s3 ht hp2
      -- [tuple(some)] * 4
      refine ⟨(by show 1 ≤ sizeLine; decide), fun p3 n3 => ?_⟩
      refine ⟨p3, 4, _, rfl, rfl, upd_same, by decide, by decide, (by show 1 * 4 ≤ sizeLine; decide), fun p4 n4 => ?_⟩
      have a3 := same_new (o := .lst [.ref l]) n3
      have a4 := same_new (o := .lst (List.replicate (4 : Int).toNat [V.ref l]).flatten) n4
      have s4 := (s3.trans a3).trans a4
      have d4 : Dx K _ (.ref l) (.tuple ds) := .tup (SqT.of (a4 _ _ (a3 _ _ ht))) (DxAll.same s4 _ _ xa)
      have hp2 := a4 _ _ (a3 _ _ hp2)
      refine ⟨_, .list [.tuple ds, .tuple ds, .tuple ds, .tuple ds], rfl, .lst (SqL.of upd_same) (.cons d4 (.cons d4 (.cons d4 (.cons d4 .nil)))), na.four.1, na.four.2.1, na.four.2.2, rfl, _, rfl, ?_⟩
      refine iteNS rfl ?_
      -- repr(words) != repr([word] * 2)
      have w4 := Dx.same s4 _ _ xw
      refine ⟨_, rfl, _, .list [dw, dw], rfl, .lst (SqL.of hp2) (.cons w4 (.cons w4 .nil)), nw.two.1, nw.two.2.1, nw.two.2.2, ?_⟩
      refine ⟨_, rfl, (by show 1 ≤ sizeLine; decide), fun p5 n5 => ?_⟩
      refine ⟨p5, 2, _, rfl, rfl, upd_same, by decide, by decide, (by show 1 * 2 ≤ sizeLine; decide), fun p6 n6 => ?_⟩
      have s6 := (s4.trans (same_new (o := .lst [word]) n5)).trans (same_new (o := .lst (List.replicate (2 : Int).toNat [word]).flatten) n6)
      have w6 := Dx.same s6 _ _ xw
      refine ⟨_, .list [dw, dw], rfl, .lst (SqL.of upd_same) (.cons w6 (.cons w6 .nil)), nw.two.1, nw.two.2.1, nw.two.2.2, rfl, _, rfl, ?_⟩
      refine iteNS rfl ?_
      -- return ..
      refine ⟨_, rfl, L, _, 8, _, rfl, rfl, SqL.of (s6 _ _ hL), rfl, e8, c 8, _, other, rfl, Ex.same s6 ev.x8, T.cc 8 (by decide), T.a8, look1 _ _, _, rfl, L, _, 12, _, rfl, rfl, SqL.of (s6 _ _ hL), rfl, e12, c 12, _, other, rfl, Ex.same s6 ev.x12, T.cc 12 (by decide), T.a12, look1 _ _, (by show 2 ≤ sizeLine; decide), fun p7 n7 => ?_⟩
      have s7 := s6.trans (same_new (o := .lst [other, other]) n7)
      have o7 := Dx.same s7 _ _ xq
      refine ⟨_, .list [dq, dq], rfl, .lst (SqL.of upd_same) (.cons o7 (.cons o7 .nil)), nq.two.1, nq.two.2.1, nq.two.2.2, ?_⟩
      refine ⟨_, rfl, (by show 1 ≤ sizeLine; decide), fun p8 n8 => ?_⟩
      refine ⟨p8, 2, _, rfl, rfl, upd_same, by decide, by decide, (by show 1 * 2 ≤ sizeLine; decide), fun p9 n9 => ?_⟩
      have s9 := (s7.trans (same_new (o := .lst [other]) n8)).trans (same_new (o := .lst (List.replicate (2 : Int).toNat [other]).flatten) n9)
      have o9 := Dx.same s9 _ _ xq
      refine ⟨_, .list [dq, dq], rfl, .lst (SqL.of upd_same) (.cons o9 (.cons o9 .nil)), nq.two.1, nq.two.2.1, nq.two.2.2, rfl, _, rfl, ?_⟩
      refine iteE rfl ?_
      have y9 := Dx.same s9 _ _ xn
      refine ⟨_, rfl, L, _, 9, _, rfl, rfl, SqL.of (s9 _ _ hL), rfl, e9, c 9, _, number, rfl, Ex.same s9 ev.x9, T.cc 9 (by decide), T.a9, look1 _ _, _, dn, rfl, y9, nn.one.1, nn.one.2.1, nn.one.2.2, ?_⟩
      refine ⟨_, rfl, _, dn, rfl, y9, nn.one.1, nn.one.2.1, nn.one.2.2, rfl, ?_⟩
      rw [decide_eq_true rfl]
      exact k _ s9
    · refine ⟨_, rfl, p, xs, rfl, .inr ⟨SqT.of (s2 _ _ hp), ?_⟩⟩
      have s3 := s2
      have ht := s2 _ _ hp
      -- [tuple(some)] * 4
      refine ⟨(by show 1 ≤ sizeLine; decide), fun p3 n3 => ?_⟩
      refine ⟨p3, 4, _, rfl, rfl, upd_same, by decide, by decide, (by show 1 * 4 ≤ sizeLine; decide), fun p4 n4 => ?_⟩
      have a3 := same_new (o := .lst [.ref p]) n3
      have a4 := same_new (o := .lst (List.replicate (4 : Int).toNat [V.ref p]).flatten) n4
      have s4 := (s3.trans a3).trans a4
      have d4 : Dx K _ (.ref p) (.tuple ds) := .tup (SqT.of (a4 _ _ (a3 _ _ ht))) (DxAll.same s4 _ _ xa)
      have hp2 := a4 _ _ (a3 _ _ hp2)
      refine ⟨_, .list [.tuple ds, .tuple ds, .tuple ds, .tuple ds], rfl, .lst (SqL.of upd_same) (.cons d4 (.cons d4 (.cons d4 (.cons d4 .nil)))), na.four.1, na.four.2.1, na.four.2.2, rfl, _, rfl, ?_⟩
      refine iteNS rfl ?_
      -- repr(words) != repr([word] * 2)
      have w4 := Dx.same s4 _ _ xw
      refine ⟨_, rfl, _, .list [dw, dw], rfl, .lst (SqL.of hp2) (.cons w4 (.cons w4 .nil)), nw.two.1, nw.two.2.1, nw.two.2.2, ?_⟩
      refine ⟨_, rfl, (by show 1 ≤ sizeLine; decide), fun p5 n5 => ?_⟩
      refine ⟨p5, 2, _, rfl, rfl, upd_same, by decide, by decide, (by show 1 * 2 ≤ sizeLine; decide), fun p6 n6 => ?_⟩
      have s6 := (s4.trans (same_new (o := .lst [word]) n5)).trans (same_new (o := .lst (List.replicate (2 : Int).toNat [word]).flatten) n6)
      have w6 := Dx.same s6 _ _ xw
      refine ⟨_, .list [dw, dw], rfl, .lst (SqL.of upd_same) (.cons w6 (.cons w6 .nil)), nw.two.1, nw.two.2.1, nw.two.2.2, rfl, _, rfl, ?_⟩
      refine iteNS rfl ?_
      -- return ..
      refine ⟨_, rfl, L, _, 8, _, rfl, rfl, SqL.of (s6 _ _ hL), rfl, e8, c 8, _, other, rfl, Ex.same s6 ev.x8, T.cc 8 (by decide), T.a8, look1 _ _, _, rfl, L, _, 12, _, rfl, rfl, SqL.of (s6 _ _ hL), rfl, e12, c 12, _, other, rfl, Ex.same s6 ev.x12, T.cc 12 (by decide), T.a12, look1 _ _, (by show 2 ≤ sizeLine; decide), fun p7 n7 => ?_⟩
      have s7 := s6.trans (same_new (o := .lst [other, other]) n7)
      have o7 := Dx.same s7 _ _ xq
      refine ⟨_, .list [dq, dq], rfl, .lst (SqL.of upd_same) (.cons o7 (.cons o7 .nil)), nq.two.1, nq.two.2.1, nq.two.2.2, ?_⟩
      refine ⟨_, rfl, (by show 1 ≤ sizeLine; decide), fun p8 n8 => ?_⟩
      refine ⟨p8, 2, _, rfl, rfl, upd_same, by decide, by decide, (by show 1 * 2 ≤ sizeLine; decide), fun p9 n9 => ?_⟩
      have s9 := (s7.trans (same_new (o := .lst [other]) n8)).trans (same_new (o := .lst (List.replicate (2 : Int).toNat [other]).flatten) n9)
      have o9 := Dx.same s9 _ _ xq
      refine ⟨_, .list [dq, dq], rfl, .lst (SqL.of upd_same) (.cons o9 (.cons o9 .nil)), nq.two.1, nq.two.2.1, nq.two.2.2, rfl, _, rfl, ?_⟩
      refine iteE rfl ?_
      have y9 := Dx.same s9 _ _ xn
      refine ⟨_, rfl, L, _, 9, _, rfl, rfl, SqL.of (s9 _ _ hL), rfl, e9, c 9, _, number, rfl, Ex.same s9 ev.x9, T.cc 9 (by decide), T.a9, look1 _ _, _, dn, rfl, y9, nn.one.1, nn.one.2.1, nn.one.2.2, ?_⟩
      refine ⟨_, rfl, _, dn, rfl, y9, nn.one.1, nn.one.2.1, nn.one.2.2, rfl, ?_⟩
      rw [decide_eq_true rfl]
      exact k _ s9
end
end K00
namespace K00
open PySem PySem.Spec L2 Rt
open PyProof.Rows hiding St
abbrev sLaw : Stmt := top 23
theorem op_mulS {X : Cx} : OpR X (binaryOp .Mult) (fun x y H Q => ∃ a n, x = .str a ∧ y = .int n ∧ MulOk a n ∧ Q (.str (Txt.mul a n)) H) := by
  intro pins s σ H x y v u Q I rx ry h
  obtain ⟨a, n, rfl, rfl, ok, q⟩ := h
  obtain ⟨t, rfl⟩ := rx
  obtain ⟨t', rfl⟩ := ry
  exact SB.mul ok fun t2 k => ⟨.str _, H, I.tok _, ⟨_, rfl⟩, q⟩
/-! ### the heap without the source -/
def mask (d c : Addr) (H : Hp) : Hp := fun b => if b = d ∨ b = c then none else H b
section
variable {d c p : Addr} {H H' : Hp} {o : HO}
theorem mask_same : Same (mask d c H) H := fun b u e => by
  unfold mask at e
  split at e
  · cases e
  · exact e
theorem mask_keep (a : Keep d c H H') : Same (mask d c H) (mask d c H') := fun b u e => by
  unfold mask at e ⊢
  split at e
  · cases e
  · rename_i n
    rw [if_neg n]
    exact a b u e (fun z => n (.inl z)) (fun z => n (.inr z))
theorem mask_new (n : H p = none) : Same (mask d c H) (mask d c (upd H p o)) := mask_keep (Keep.refl.new n)
theorem mask_at (n : p ≠ d ∧ p ≠ c) (e : H p = some o) : mask d c H p = some o := by
  unfold mask
  rw [if_neg (fun z => z.elim n.1 n.2)]
  exact e
theorem Src.away (S : Src H d c) (n : H p = none) : p ≠ d ∧ p ≠ c := by
  obtain ⟨ks, l, m, u, h1, h2⟩ := S.ex
  exact ⟨(ne_of_none h1 n).symm, (ne_of_none h2 n).symm⟩
theorem Src.same (S : Src H d c) (s : Same H H') : Src H' d c := by
  obtain ⟨ks, l, m, u, h1, h2⟩ := S.ex
  exact ⟨ks, l, m, u, s _ _ h1, s _ _ h2⟩
end
/-! ### menus -/
def Menu (K : PySem.W.Frag) (M : Hp) (xs : List V) : Prop := ∀ v, v ∈ xs → ∃ d, Dx K M v d ∧ Nice d
theorem menuN {K : PySem.W.Frag} {M : Hp} : Menu K M [] := fun _ h => nomatch h
theorem menuC {K : PySem.W.Frag} {M : Hp} {v : V} {xs : List V} (d : PyData) (x : Dx K M v d) (n : Nice d) (r : Menu K M xs) : Menu K M (v :: xs) := fun u h => by
  rcases List.mem_cons.mp h with e | h
  · subst e
    exact ⟨d, x, n⟩
  · exact r u h
theorem Menu.same {K : PySem.W.Frag} {M M' : Hp} {xs : List V} (h : Menu K M xs) (s : Same M M') : Menu K M' xs := fun v m => by
  obtain ⟨d, x, n⟩ := h v m
  exact ⟨d, Dx.same s _ _ x, n⟩
/-- what may stand for a path -/
def Pth (K : PySem.W.Frag) (M : Hp) (v : V) : Prop := ∃ (q : Addr) (ys : List V) (ds : List PyData), v = .ref q ∧ Seq M q ys ∧ ys.length ≤ 1000 ∧ DxAll K M ys ds ∧ Nice (.tuple ds)
def Pths (K : PySem.W.Frag) (M : Hp) (xs : List V) : Prop := ∀ v, v ∈ xs → Pth K M v
theorem pthN {K : PySem.W.Frag} {M : Hp} : Pths K M [] := fun _ h => nomatch h
theorem pthC {K : PySem.W.Frag} {M : Hp} {v : V} {xs : List V} (x : Pth K M v) (r : Pths K M xs) : Pths K M (v :: xs) := fun u h => by
  rcases List.mem_cons.mp h with e | h
  · subst e
    exact x
  · exact r u h
theorem Pth.same {K : PySem.W.Frag} {M M' : Hp} {v : V} (h : Pth K M v) (s : Same M M') : Pth K M' v := by
  obtain ⟨q, ys, ds, e, a, b, c, n⟩ := h
  exact ⟨q, ys, ds, e, a.same s, b, DxAll.same s _ _ c, n⟩
theorem Pths.same {K : PySem.W.Frag} {M M' : Hp} {xs : List V} (h : Pths K M xs) (s : Same M M') : Pths K M' xs := fun v m => (h v m).same s
/-! ### lists of truth values -/
theorem dpBools {K : PySem.W.Frag} {H : Hp} : ∀ bs : List Bool, DpAll K H (bs.map V.bl) (bs.map PyData.bool)
  | [] => .nil
  | b :: bs => .cons (.bl b) (dpBools bs)
theorem lay_bools : ∀ bs : List Bool, PyData.canLayAll0 (bs.map PyData.bool) = true
  | [] => by simp [PyData.canLayAll0]
  | b :: bs => by
    have h := lay_bools bs
    simp [PyData.canLayAll0, PyData.canLay0, h]
theorem depth_bools : ∀ bs : List Bool, PyData.depthAll (bs.map PyData.bool) = 0
  | [] => by simp [PyData.depthAll]
  | b :: bs => by
    have h := depth_bools bs
    simp [PyData.depthAll, PyData.depth, h]
theorem shaped_bools (bs : List Bool) : SeqAt.shaped (.list (bs.map PyData.bool)) = true := by
  unfold SeqAt.shaped
  simp [PyData.canLay0, lay_bools, PyData.depth, depth_bools]
theorem eqv_bools (bs : List Bool) : PyData.eqv (.list (bs.map PyData.bool)) (.list (bs.map PyData.bool)) = true := SeqAt.eqv_refl _ (by simp [PyData.canLay0, lay_bools])
theorem dec_V (i j : Int) : decide (V.int i = V.int j) = decide (i = j) := by
  by_cases h : i = j
  · subst h
    simp
  · rw [decide_eq_false h]
    exact decide_eq_false fun z => h (V.int.inj z)
theorem pick_at {xs : List V} {r : Int} (h0 : 0 ≤ r) (h1 : r < xs.length) : ∃ v, atI xs r = some v ∧ v ∈ xs := by
  obtain ⟨j, ej⟩ : ∃ j : Nat, r = (j : Int) := ⟨r.toNat, by omega⟩
  have hj : j < xs.length := by omega
  exact ⟨xs[j], at_of (j := j) ej (List.getElem?_eq_getElem hj), List.getElem_mem hj⟩
def bk (n k : Nat) : List Bool := (List.range n).map fun j => decide (j = k)
theorem bk_map (n k : Nat) : ((List.range n).map fun j => V.bl (decide (j = k))) = (bk n k).map V.bl := by
  unfold bk
  rw [List.map_map]
  rfl
theorem bk_succ (n k : Nat) : (bk n k).map V.bl ++ [V.bl (decide (n = k))] = (bk (n + 1) k).map V.bl := by
  unfold bk
  rw [List.range_succ, List.map_append, List.map_append]
  rfl
theorem bk_len (n k : Nat) : ((bk n k).map V.bl).length = n := by
  unfold bk
  simp
theorem EvAt.at {c : Nat → Addr} {H : Hp} {word number other : V} {xs : List V} {e0 e1 e2 e3 e4 e5 e6 e7 e8 e9 e10 e11 e12 : Addr} (v : EvAt c H word number other xs e0 e1 e2 e3 e4 e5 e6 e7 e8 e9 e10 e11 e12) :
    ∀ i : Nat, i < 13 → ∃ e fs, atI ([.ref e0, .ref e1, .ref e2, .ref e3, .ref e4, .ref e5, .ref e6, .ref e7, .ref e8, .ref e9, .ref e10, .ref e11, .ref e12] : List V) ((0 : Int) + (i : Int)) = some (.ref e) ∧ Ex H e (c i) fs
  | 0, _ => ⟨e0, _, rfl, v.x0⟩
  | 1, _ => ⟨e1, _, rfl, v.x1⟩
  | 2, _ => ⟨e2, _, rfl, v.x2⟩
  | 3, _ => ⟨e3, _, rfl, v.x3⟩
  | 4, _ => by obtain ⟨q, x, _⟩ := v.x4; exact ⟨e4, _, rfl, x⟩
  | 5, _ => by obtain ⟨q, x, _⟩ := v.x5; exact ⟨e5, _, rfl, x⟩
  | 6, _ => by obtain ⟨q, x, _⟩ := v.x6; exact ⟨e6, _, rfl, x⟩
  | 7, _ => by obtain ⟨q, x, _⟩ := v.x7; exact ⟨e7, _, rfl, x⟩
  | 8, _ => ⟨e8, _, rfl, v.x8⟩
  | 9, _ => ⟨e9, _, rfl, v.x9⟩
  | 10, _ => ⟨e10, _, rfl, v.x10⟩
  | 11, _ => ⟨e11, _, rfl, v.x11⟩
  | 12, _ => ⟨e12, _, rfl, v.x12⟩
  | n + 13, h => absurd h (by omega)
theorem EvAt.same {c : Nat → Addr} {H H' : Hp} {word number other : V} {xs : List V} {e0 e1 e2 e3 e4 e5 e6 e7 e8 e9 e10 e11 e12 : Addr} (v : EvAt c H word number other xs e0 e1 e2 e3 e4 e5 e6 e7 e8 e9 e10 e11 e12) (s : Same H H') : EvAt c H' word number other xs e0 e1 e2 e3 e4 e5 e6 e7 e8 e9 e10 e11 e12 :=
  ⟨Ex.same s v.x0, Ex.same s v.x1, Ex.same s v.x2, Ex.same s v.x3, by obtain ⟨q, x, h⟩ := v.x4; exact ⟨q, Ex.same s x, s _ _ h⟩, by obtain ⟨q, x, h⟩ := v.x5; exact ⟨q, Ex.same s x, s _ _ h⟩, by obtain ⟨q, x, h⟩ := v.x6; exact ⟨q, Ex.same s x, s _ _ h⟩, by obtain ⟨q, x, h⟩ := v.x7; exact ⟨q, Ex.same s x, s _ _ h⟩, Ex.same s v.x8, Ex.same s v.x9, Ex.same s v.x10, Ex.same s v.x11, Ex.same s v.x12⟩
theorem dec_idx (x j : Nat) : decide (V.int ((0 : Int) + (x : Int)) = V.int ((0 : Int) + (j : Int))) = decide (x = j) := by
  rw [dec_V]
  exact decide_eq_decide.mpr (by omega)
theorem dec_12 (j : Nat) : decide (V.int ((0 : Int) + (j : Int)) = V.int 12) = decide (j = 12) := by
  rw [dec_V]
  exact decide_eq_decide.mpr (by omega)
theorem dec_lt12 (j : Nat) : decide ((0 : Int) + (j : Int) < 12) = decide (j < 12) := decide_eq_decide.mpr (by omega)
def b5 (j : Nat) : List Bool := [decide (j < 12), decide (j < 12), decide (j = 12), decide (j = 12), false]
def b5i (j : Nat) : List Bool := [decide ((0 : Int) + (j : Int) < 12), decide ((0 : Int) + (j : Int) < 12), decide (V.int ((0 : Int) + (j : Int)) = V.int 12), decide (V.int ((0 : Int) + (j : Int)) = V.int 12), false]
theorem b5i_eq (j : Nat) : b5i j = b5 j := by
  unfold b5i b5
  rw [dec_lt12, dec_12]
def spLaw (K : PySem.W.Frag) : Sp := fun vs H Q _ => ∃ (a : Addr) (ns : List Int), vs = [.ref a] ∧ SqL K H a (ns.map V.int) ∧ ns.length ≤ 63 ∧ ∀ H', Q (.bl true) H'
abbrev NL : List Str := ["script", "source", "great", "lap", "word", "number", "some", "other", "every", "k", "j"]
structure Free (mg : Str → Option Value) : Prop where
  zrange : mg "range" = none
  zint : mg "int" = none
  zlen : mg "len" = none
structure CallsX (P : Program) (w : World) (K : PySem.W.Frag) (mg : Str → Option Value) (base : Heap) (c : Nat → Addr) : Prop where
  source : Cb P w K mg base 1 "_law_source" (spSource K)
  pick : Cb P w K mg base 1 "_law_pick" spPick
  every : Cb P w K mg base 3 "_law_every" (spEvery c)
  kinds : Cb P w K mg base 1 "_law_kinds" (spKinds c)
  bases : Cb P w K mg base 1 "_law_bases" (spBases c)
  kept : Cb P w K mg base 1 "_law_kept" (spKept K c)
section
variable {P : Program} {w : World} {K : PySem.W.Frag} {mg : Str → Option Value} {base : Heap} {c : Nat → Addr}
theorem scL : FnScope NL ["script"] (defScope sLaw) := ⟨rfl, rfl, rfl, by decide +kernel, rfl, by decide +kernel, by decide +kernel⟩
theorem ok_law {f : Addr} {fd : FuncData} (F : Fun K "law" "law" sLaw f fd) (T : Free mg) (C : CallsX P w K mg base c) : FnG P w K mg base 4 f fd ["script"] (spLaw K) := by
  refine okG F scL (fun vs H Q E h => ?_) (fun cdv A outer s H vs Q E hg hr h => ?_)
  · obtain ⟨a, ns, rfl, _⟩ := h
    rfl
  · obtain ⟨a, ns, rfl, hS, hl, k⟩ := h
    have hu := hr.units
    refine ⟨_, (pss_cons (ps_set (i := 1) scL.nd rfl (.inl rfl) (pe_k C.source hg hr (by decide) (by rfl) (pa_cons (pv 0) pa_nil)))
      (pss_cons (ps_set (i := 2) scL.nd rfl (.inl rfl) (pe_callTy call_int_str (by rfl) T.zint (by decide +kernel) (pa_cons (pe_op op_add_str pe_str (pe_op op_mulS pe_str pe_int)) pa_nil)))
      (pss_cons (ps_for PassesOwn.never rfl (pi_range1 (by rfl) T.zrange (pa_cons pe_int pa_nil)) (pg_name (i := 3) scL.nd rfl (.inl rfl))
        (pss_cons (ps_set (i := 4) scL.nd rfl (.inl rfl) (pe_ix ix_list (pe_lst (pa_cons pe_str (pa_cons pe_str (pa_cons pe_str (pa_cons pe_non (pa_cons (pe_op op_mulS pe_str pe_int) (pa_cons (pe_tup (pa_cons pe_str pa_nil)) (pa_cons pe_int (pa_cons (pe_lst (pa_cons pe_str (pa_cons pe_dnewK pa_nil))) pa_nil))))))))) (pe_k C.pick hg hr (by decide) (by rfl) (pa_cons (pv 1) (pa_cons pe_int pa_nil))) (fun _ _ => rfl)))
        (pss_cons (ps_set (i := 5) scL.nd rfl (.inl rfl) (pe_ix ix_list (pe_lst (pa_cons pe_int (pa_cons pe_int (pa_cons pe_int (pa_cons pe_int (pa_cons (pv 2) (pa_cons (pe_un un_neg pe_int) (pa_cons pe_non pa_nil)))))))) (pe_k C.pick hg hr (by decide) (by rfl) (pa_cons (pv 1) (pa_cons pe_int pa_nil))) (fun _ _ => rfl)))
        (pss_cons (ps_set (i := 6) scL.nd rfl (.inl rfl) (pe_ix ix_list (pe_lst (pa_cons (pe_lst (pa_cons pe_str (pa_cons pe_str pa_nil))) (pa_cons (pe_lst pa_nil) (pa_cons (pe_tup (pa_cons pe_str pa_nil)) (pa_cons (pe_lst (pa_cons pe_int (pa_cons pe_int (pa_cons pe_int pa_nil)))) (pa_cons (pe_tup (pa_cons (pe_tup (pa_cons pe_str (pa_cons pe_str pa_nil))) pa_nil)) (pa_cons (pe_lst (pa_cons (pe_lst pa_nil) pa_nil)) pa_nil))))))) (pe_k C.pick hg hr (by decide) (by rfl) (pa_cons (pv 1) (pa_cons pe_int pa_nil))) (fun _ _ => rfl)))
        (pss_cons (ps_set (i := 7) scL.nd rfl (.inl rfl) (pe_ix ix_list (pe_lst (pa_cons (pe_tup pa_nil) (pa_cons (pe_tup (pa_cons pe_str (pa_cons pe_int (pa_cons (pe_tup (pa_cons pe_int (pa_cons pe_int pa_nil))) pa_nil)))) (pa_cons (pe_lst (pa_cons pe_int (pa_cons pe_int pa_nil))) (pa_cons pe_non (pa_cons pe_str (pa_cons (pe_disp (pps_cons pe_str pe_int pps_nil) (by rfl) (by rfl) (fun z => by cases z) (by decide)) (pa_cons (pe_tup (pa_cons pe_str (pa_cons pe_str pa_nil))) (pa_cons pe_bl pa_nil))))))))) (pe_k C.pick hg hr (by decide) (by rfl) (pa_cons (pv 1) (pa_cons pe_int pa_nil))) (fun _ _ => rfl)))
        (pss_cons (ps_set (i := 8) scL.nd rfl (.inl rfl) (pe_k C.every hg hr (by decide) (by rfl) (pa_cons (pv 4) (pa_cons (pv 5) (pa_cons (pv 6) (pa_cons (pv 7) pa_nil))))))
        (pss_cons (ps_for PassesOwn.never rfl (pi_range1 (by rfl) T.zrange (pa_cons (pe_callB call_len_seq (by rfl) T.zlen (by decide +kernel) (pa_cons (pv 8) pa_nil)) pa_nil)) (pg_name (i := 9) scL.nd rfl (.inr rfl))
          (pss_cons (ps_if (pt_cmpR (op_neD hu) (pe_k C.kinds hg hr (by decide) (by rfl) (pa_cons (pe_ix ix_list (pv 8) (pv 9) (fun _ _ => rfl)) pa_nil)) (pe_lc (own := [("j", 10)]) (by rfl) scL.nd (pi_range1 (by rfl) T.zrange (pa_cons (pe_callB call_len_seq (by rfl) T.zlen (by decide +kernel) (pa_cons (pv 8) pa_nil)) pa_nil)) (blkOk_by (N := NL) (sc := defScope sLaw) (by decide +kernel)) (fun _ _ _ _ _ => (pg_name (i := 10) scL.nd rfl (.inl rfl))) (fun _ _ _ _ _ => pts_nil) (fun _ _ _ _ _ => (pe_cmpR op_eq (pv 10) (pv 9) (nomark _)))) (nomark _)) (pss_one (ps_ret pe_bl)) pss_nil)
          (pss_one (ps_if (pt_cmpR (op_neD hu) (pe_k C.bases hg hr (by decide) (by rfl) (pa_cons (pe_ix ix_list (pv 8) (pv 9) (fun _ _ => rfl)) pa_nil)) (pe_lst (pa_cons (pe_cmpR op_lt (pv 9) pe_int (nomark _)) (pa_cons (pe_cmpR op_lt (pv 9) pe_int (nomark _)) (pa_cons (pe_cmpR op_eq (pv 9) pe_int (nomark _)) (pa_cons (pe_cmpR op_eq (pv 9) pe_int (nomark _)) (pa_cons pe_bl pa_nil)))))) (nomark _)) (pss_one (ps_ret pe_bl)) pss_nil))))
        (pss_one (ps_if (PW.pt (pw_or (pt_cmpR op_ne (pe_callB call_len_seq (by rfl) T.zlen (by decide +kernel) (pa_cons (pv 8) pa_nil)) pe_int (nomark _)) (pw_or1 (pt_not (pt_val (pe_k C.kept hg hr (by decide) (by rfl) (pa_cons (pv 8) (pa_cons (pv 4) (pa_cons (pv 5) (pa_cons (pv 6) (pa_cons (pv 7) pa_nil))))))))))) (pss_one (ps_ret pe_bl)) pss_nil)))))))))
      (pss_one (ps_ret pe_bl))))), ?_⟩
    -- source, great
    refine ⟨_, rfl, a, ns, rfl, hS, hl, fun d cc H1 nd nc S1 same1 => ?_⟩
    refine ⟨_, 30, rfl, rfl, ⟨by decide +kernel, by decide +kernel, by decide +kernel⟩, _, _, rfl, rfl, (by decide +kernel), _, 10 ^ 30, rfl, (by decide +kernel), (by decide +kernel), ?_⟩
    refine ⟨2, rfl, by decide, by decide, for_range (lo := 0) (n := 2) (fun i σ H2 => ∃ (v3 v4 v5 v6 v7 v8 v9 v10 : Option V), σ = [some (.ref a), some (.ref d), some (.int (10 ^ 30)), v3, v4, v5, v6, v7, v8, v9, v10] ∧ Src H2 d cc)
      ⟨none, none, none, none, none, none, none, none, rfl, S1⟩ ?_ ?_⟩
    · rintro i σ H2 hi ⟨v3, v4, v5, v6, v7, v8, v9, v10, rfl, S2⟩
      -- word
      refine ⟨_, 100, rfl, rfl, ⟨by decide +kernel, by decide +kernel, by decide +kernel⟩, (by show 1 ≤ sizeLine; decide), fun t5 m5 => ?_⟩
      have a5 := S2.away m5
      have S5 := S2.new (o := .tup [.str "a"]) m5
      have f5 := mask_at (d := d) (c := cc) a5 (upd_same (H := H2) (a := t5) (o := .tup [.str "a"]))
      intro d8 m8
      have a8 := S5.away m8
      have S8 := S5.new (o := .dK []) m8
      have g8 := mask_new (d := d) (c := cc) (o := .dK []) m8
      have f8 := mask_at (d := d) (c := cc) a8 (upd_same (H := upd H2 t5 (.tup [.str "a"])) (a := d8) (o := .dK []))
      refine ⟨(by show 2 ≤ sizeLine; decide), fun l8 m9 => ?_⟩
      have a9 := S8.away m9
      have S9 := S8.new (o := .lst [.str "a", .ref d8]) m9
      have g9 := mask_new (d := d) (c := cc) (o := .lst [.str "a", .ref d8]) m9
      have f9 := mask_at (d := d) (c := cc) a9 (upd_same (H := upd (upd H2 t5 (.tup [.str "a"])) d8 (.dK [])) (a := l8) (o := .lst [.str "a", .ref d8]))
      have menu : Menu K (mask d cc (upd (upd (upd H2 t5 (.tup [.str "a"])) d8 (.dK [])) l8 (.lst [.str "a", .ref d8]))) [.str "", .str "x", .str "no such name", .non, .str (Txt.mul "x" 100), .ref t5, .int 0, .ref l8] :=
        menuC _ (.str _) ⟨by decide +kernel, by decide +kernel, by decide +kernel⟩ (menuC _ (.str _) ⟨by decide +kernel, by decide +kernel, by decide +kernel⟩ (menuC _ (.str _) ⟨by decide +kernel, by decide +kernel, by decide +kernel⟩
        (menuC _ .non ⟨by decide +kernel, by decide +kernel, by decide +kernel⟩ (menuC _ (.str _) ⟨by decide +kernel, by decide +kernel, by decide +kernel⟩
        (menuC (.tuple [.str "a"]) (.tup (SqT.of (g9 _ _ (g8 _ _ f5))) (.cons (.str _) .nil)) ⟨by decide +kernel, by decide +kernel, by decide +kernel⟩ (menuC _ (.int _) ⟨by decide +kernel, by decide +kernel, by decide +kernel⟩
        (menuC (.list [.str "a", .dict []]) (.lst (SqL.of f9) (.cons (.str _) (.cons (.dic (ds := []) (g9 _ _ f8) .nil) .nil))) ⟨by decide +kernel, by decide +kernel, by decide +kernel⟩ menuN)))))))
      revert S9 menu
      generalize upd (upd (upd H2 t5 (.tup [.str "a"])) d8 (.dK [])) l8 (.lst [.str "a", .ref d8]) = H3
      intro S9 menu
      refine ⟨(by show 8 ≤ sizeLine; decide), fun p3 n3 => ?_⟩
      have a3 := S9.away n3
      refine ⟨_, rfl, d, cc, 8, rfl, S9.new n3, (by decide), fun rword H4 r0word r1word S4 k4 => ?_⟩
      obtain ⟨word, eword, mword⟩ := pick_at (xs := [.str "", .str "x", .str "no such name", .non, .str (Txt.mul "x" 100), .ref t5, .int 0, .ref l8]) r0word (by show rword < 8; omega)
      refine ⟨p3, _, rword, word, rfl, rfl, SqL.of (k4 p3 _ upd_same a3.1 a3.2), eword, ?_⟩
      obtain ⟨dw, xw, nw⟩ := (menu.same (mask_new n3)).same (mask_keep k4) word mword
      refine ⟨_, rfl, _, rfl, (by show 7 ≤ sizeLine; decide), fun p4 n4 => ?_⟩
      have a4 := S4.away n4
      have menu4 : Menu K (mask d cc H4) [.int 0, .int 1, .int 7, .int 200, .int (10 ^ 30), .int (-1), .non] := menuC _ (.int _) ⟨by decide +kernel, by decide +kernel, by decide +kernel⟩ (menuC _ (.int _) ⟨by decide +kernel, by decide +kernel, by decide +kernel⟩ (menuC _ (.int _) ⟨by decide +kernel, by decide +kernel, by decide +kernel⟩ (menuC _ (.int _) ⟨by decide +kernel, by decide +kernel, by decide +kernel⟩ (menuC _ (.int _) ⟨by decide +kernel, by decide +kernel, by decide +kernel⟩ (menuC _ (.int _) ⟨by decide +kernel, by decide +kernel, by decide +kernel⟩ (menuC _ .non ⟨by decide +kernel, by decide +kernel, by decide +kernel⟩ menuN))))))
      refine ⟨_, rfl, d, cc, 7, rfl, S4.new n4, (by decide), fun rnumber H5 r0number r1number S5x k5 => ?_⟩
      obtain ⟨number, enumber, mnumber⟩ := pick_at (xs := [.int 0, .int 1, .int 7, .int 200, .int (10 ^ 30), .int (-1), .non]) r0number (by show rnumber < 7; omega)
      refine ⟨p4, _, rnumber, number, rfl, rfl, SqL.of (k5 p4 _ upd_same a4.1 a4.2), enumber, ?_⟩
      obtain ⟨dn, xn, nn⟩ := (menu4.same (mask_new n4)).same (mask_keep k5) number mnumber
      have xw := Dx.same ((mask_new n4).trans (mask_keep k5)) _ _ xw
      refine ⟨(by show 2 ≤ sizeLine; decide), fun ab nab => ?_⟩
      have aab := S5x.away nab
      have Sab := S5x.new (o := .lst [.str "a", .str "b"]) nab
      have gab := mask_new (d := d) (c := cc) (o := .lst [.str "a", .str "b"]) nab
      have fab := mask_at (d := d) (c := cc) aab (upd_same (H := H5) (a := ab) (o := .lst [.str "a", .str "b"]))
      revert Sab gab fab
      generalize upd H5 ab (.lst [.str "a", .str "b"]) = hab
      intro Sab gab fab
      refine ⟨(by show 0 ≤ sizeLine; decide), fun nil nnil => ?_⟩
      have anil := Sab.away nnil
      have Snil := Sab.new (o := .lst []) nnil
      have gnil := mask_new (d := d) (c := cc) (o := .lst []) nnil
      have fnil := mask_at (d := d) (c := cc) anil (upd_same (H := hab) (a := nil) (o := .lst []))
      revert Snil gnil fnil
      generalize upd hab nil (.lst []) = hnil
      intro Snil gnil fnil
      refine ⟨(by show 1 ≤ sizeLine; decide), fun ta nta => ?_⟩
      have ata := Snil.away nta
      have Sta := Snil.new (o := .tup [.str "a"]) nta
      have gta := mask_new (d := d) (c := cc) (o := .tup [.str "a"]) nta
      have fta := mask_at (d := d) (c := cc) ata (upd_same (H := hnil) (a := ta) (o := .tup [.str "a"]))
      revert Sta gta fta
      generalize upd hnil ta (.tup [.str "a"]) = hta
      intro Sta gta fta
      refine ⟨(by show 3 ≤ sizeLine; decide), fun num nnum => ?_⟩
      have anum := Sta.away nnum
      have Snum := Sta.new (o := .lst [.int 0, .int 1, .int 0]) nnum
      have gnum := mask_new (d := d) (c := cc) (o := .lst [.int 0, .int 1, .int 0]) nnum
      have fnum := mask_at (d := d) (c := cc) anum (upd_same (H := hta) (a := num) (o := .lst [.int 0, .int 1, .int 0]))
      revert Snum gnum fnum
      generalize upd hta num (.lst [.int 0, .int 1, .int 0]) = hnum
      intro Snum gnum fnum
      refine ⟨(by show 2 ≤ sizeLine; decide), fun xy nxy => ?_⟩
      have axy := Snum.away nxy
      have Sxy := Snum.new (o := .tup [.str "x", .str "y"]) nxy
      have gxy := mask_new (d := d) (c := cc) (o := .tup [.str "x", .str "y"]) nxy
      have fxy := mask_at (d := d) (c := cc) axy (upd_same (H := hnum) (a := xy) (o := .tup [.str "x", .str "y"]))
      revert Sxy gxy fxy
      generalize upd hnum xy (.tup [.str "x", .str "y"]) = hxy
      intro Sxy gxy fxy
      refine ⟨(by show 1 ≤ sizeLine; decide), fun txy ntxy => ?_⟩
      have atxy := Sxy.away ntxy
      have Stxy := Sxy.new (o := .tup [.ref xy]) ntxy
      have gtxy := mask_new (d := d) (c := cc) (o := .tup [.ref xy]) ntxy
      have ftxy := mask_at (d := d) (c := cc) atxy (upd_same (H := hxy) (a := txy) (o := .tup [.ref xy]))
      revert Stxy gtxy ftxy
      generalize upd hxy txy (.tup [.ref xy]) = htxy
      intro Stxy gtxy ftxy
      refine ⟨(by show 0 ≤ sizeLine; decide), fun nl nnl => ?_⟩
      have anl := Stxy.away nnl
      have Snl := Stxy.new (o := .lst []) nnl
      have gnl := mask_new (d := d) (c := cc) (o := .lst []) nnl
      have fnl := mask_at (d := d) (c := cc) anl (upd_same (H := htxy) (a := nl) (o := .lst []))
      revert Snl gnl fnl
      generalize upd htxy nl (.lst []) = hnl
      intro Snl gnl fnl
      refine ⟨(by show 1 ≤ sizeLine; decide), fun lnl nlnl => ?_⟩
      have alnl := Snl.away nlnl
      have Slnl := Snl.new (o := .lst [.ref nl]) nlnl
      have glnl := mask_new (d := d) (c := cc) (o := .lst [.ref nl]) nlnl
      have flnl := mask_at (d := d) (c := cc) alnl (upd_same (H := hnl) (a := lnl) (o := .lst [.ref nl]))
      revert Slnl glnl flnl
      generalize upd hnl lnl (.lst [.ref nl]) = hlnl
      intro Slnl glnl flnl
      have menu6 : Pths K (mask d cc hlnl) [.ref ab, .ref nil, .ref ta, .ref num, .ref txy, .ref lnl] := (pthC ⟨ab, [.str "a", .str "b"], [.str "a", .str "b"], rfl, .inl (glnl _ _ (gnl _ _ (gtxy _ _ (gxy _ _ (gnum _ _ (gta _ _ (gnil _ _ fab))))))), (by show 2 ≤ 1000; decide), .cons (.str _) (.cons (.str _) .nil), ⟨by decide +kernel, by decide +kernel, by decide +kernel⟩⟩
        (pthC ⟨nil, [], [], rfl, .inl (glnl _ _ (gnl _ _ (gtxy _ _ (gxy _ _ (gnum _ _ (gta _ _ fnil)))))), (by show 0 ≤ 1000; decide), .nil, ⟨by decide +kernel, by decide +kernel, by decide +kernel⟩⟩
        (pthC ⟨ta, [.str "a"], [.str "a"], rfl, .inr (glnl _ _ (gnl _ _ (gtxy _ _ (gxy _ _ (gnum _ _ fta))))), (by show 1 ≤ 1000; decide), .cons (.str _) .nil, ⟨by decide +kernel, by decide +kernel, by decide +kernel⟩⟩
        (pthC ⟨num, [.int 0, .int 1, .int 0], [.int 0, .int 1, .int 0], rfl, .inl (glnl _ _ (gnl _ _ (gtxy _ _ (gxy _ _ fnum)))), (by show 3 ≤ 1000; decide), .cons (.int _) (.cons (.int _) (.cons (.int _) .nil)), ⟨by decide +kernel, by decide +kernel, by decide +kernel⟩⟩
        (pthC ⟨txy, [.ref xy], [.tuple [.str "x", .str "y"]], rfl, .inr (glnl _ _ (gnl _ _ ftxy)), (by show 1 ≤ 1000; decide), .cons (.tup (SqT.of (glnl _ _ (gnl _ _ (gtxy _ _ fxy)))) (.cons (.str _) (.cons (.str _) .nil))) .nil, ⟨by decide +kernel, by decide +kernel, by decide +kernel⟩⟩
        (pthC ⟨lnl, [.ref nl], [.list []], rfl, .inl flnl, (by show 1 ≤ 1000; decide), .cons (.lst (SqL.of (glnl _ _ fnl)) .nil) .nil, ⟨by decide +kernel, by decide +kernel, by decide +kernel⟩⟩
        pthN))))))
      have q6 := ((((((((gab.trans gnil).trans gta).trans gnum).trans gxy).trans gtxy).trans gnl).trans glnl))
      refine ⟨(by show 6 ≤ sizeLine; decide), fun p6 n6 => ?_⟩
      have a6 := Slnl.away n6
      refine ⟨_, rfl, d, cc, 6, rfl, Slnl.new n6, (by decide), fun rsome H6 r0some r1some S6x k6 => ?_⟩
      obtain ⟨some, esome, msome⟩ := pick_at (xs := [.ref ab, .ref nil, .ref ta, .ref num, .ref txy, .ref lnl]) r0some (by show rsome < 6; omega)
      refine ⟨p6, _, rsome, some, rfl, rfl, SqL.of (k6 p6 _ upd_same a6.1 a6.2), esome, ?_⟩
      have q6 := (q6.trans (mask_new n6)).trans (mask_keep k6)
      have pt := ((menu6 some msome).same (mask_new n6)).same (mask_keep k6)
      have xw := Dx.same q6 _ _ xw
      have xn := Dx.same q6 _ _ xn
      refine ⟨(by show 0 ≤ sizeLine; decide), fun te nte => ?_⟩
      have ate := S6x.away nte
      have Ste := S6x.new (o := .tup []) nte
      have gte := mask_new (d := d) (c := cc) (o := .tup []) nte
      have fte := mask_at (d := d) (c := cc) ate (upd_same (H := H6) (a := te) (o := .tup []))
      revert Ste gte fte
      generalize upd H6 te (.tup []) = hte
      intro Ste gte fte
      refine ⟨(by show 2 ≤ sizeLine; decide), fun t01 nt01 => ?_⟩
      have at01 := Ste.away nt01
      have St01 := Ste.new (o := .tup [.int 0, .int 1]) nt01
      have gt01 := mask_new (d := d) (c := cc) (o := .tup [.int 0, .int 1]) nt01
      have ft01 := mask_at (d := d) (c := cc) at01 (upd_same (H := hte) (a := t01) (o := .tup [.int 0, .int 1]))
      revert St01 gt01 ft01
      generalize upd hte t01 (.tup [.int 0, .int 1]) = ht01
      intro St01 gt01 ft01
      refine ⟨(by show 3 ≤ sizeLine; decide), fun ta0 nta0 => ?_⟩
      have ata0 := St01.away nta0
      have Sta0 := St01.new (o := .tup [.str "a", .int 0, .ref t01]) nta0
      have gta0 := mask_new (d := d) (c := cc) (o := .tup [.str "a", .int 0, .ref t01]) nta0
      have fta0 := mask_at (d := d) (c := cc) ata0 (upd_same (H := ht01) (a := ta0) (o := .tup [.str "a", .int 0, .ref t01]))
      revert Sta0 gta0 fta0
      generalize upd ht01 ta0 (.tup [.str "a", .int 0, .ref t01]) = hta0
      intro Sta0 gta0 fta0
      refine ⟨(by show 2 ≤ sizeLine; decide), fun l01 nl01 => ?_⟩
      have al01 := Sta0.away nl01
      have Sl01 := Sta0.new (o := .lst [.int 0, .int 1]) nl01
      have gl01 := mask_new (d := d) (c := cc) (o := .lst [.int 0, .int 1]) nl01
      have fl01 := mask_at (d := d) (c := cc) al01 (upd_same (H := hta0) (a := l01) (o := .lst [.int 0, .int 1]))
      revert Sl01 gl01 fl01
      generalize upd hta0 l01 (.lst [.int 0, .int 1]) = hl01
      intro Sl01 gl01 fl01
      intro da nda
      refine ⟨upd_same, [(Sum.inr "a", .int 0)], rfl, (by decide), ?_⟩
      rw [upd_upd]
      have ada := Sl01.away nda
      have Sda := Sl01.new (o := .dK (mergeK [] [((Sum.inr "a" : Key), V.int 0)])) nda
      have gda := mask_new (d := d) (c := cc) (o := .dK (mergeK [] [((Sum.inr "a" : Key), V.int 0)])) nda
      have fda := mask_at (d := d) (c := cc) ada (upd_same (H := hl01) (a := da) (o := .dK (mergeK [] [((Sum.inr "a" : Key), V.int 0)])))
      revert Sda gda fda
      generalize upd hl01 da (.dK (mergeK [] [((Sum.inr "a" : Key), V.int 0)])) = hda
      intro Sda gda fda
      refine ⟨(by show 2 ≤ sizeLine; decide), fun tab ntab => ?_⟩
      have atab := Sda.away ntab
      have Stab := Sda.new (o := .tup [.str "a", .str "b"]) ntab
      have gtab := mask_new (d := d) (c := cc) (o := .tup [.str "a", .str "b"]) ntab
      have ftab := mask_at (d := d) (c := cc) atab (upd_same (H := hda) (a := tab) (o := .tup [.str "a", .str "b"]))
      revert Stab gtab ftab
      generalize upd hda tab (.tup [.str "a", .str "b"]) = htab
      intro Stab gtab ftab
      have menu8 : Menu K (mask d cc htab) [.ref te, .ref ta0, .ref l01, .non, .str "path", .ref da, .ref tab, .bl true] := (menuC (.tuple []) (.tup (SqT.of (gtab _ _ (gda _ _ (gl01 _ _ (gta0 _ _ (gt01 _ _ fte)))))) .nil) ⟨by decide +kernel, by decide +kernel, by decide +kernel⟩
        (menuC (.tuple [.str "a", .int 0, .tuple [.int 0, .int 1]]) (.tup (SqT.of (gtab _ _ (gda _ _ (gl01 _ _ fta0)))) (.cons (.str _) (.cons (.int _) (.cons (.tup (SqT.of (gtab _ _ (gda _ _ (gl01 _ _ (gta0 _ _ ft01))))) (.cons (.int _) (.cons (.int _) .nil))) .nil)))) ⟨by decide +kernel, by decide +kernel, by decide +kernel⟩
        (menuC (.list [.int 0, .int 1]) (.lst (SqL.of (gtab _ _ (gda _ _ fl01))) (.cons (.int _) (.cons (.int _) .nil))) ⟨by decide +kernel, by decide +kernel, by decide +kernel⟩
        (menuC _ .non ⟨by decide +kernel, by decide +kernel, by decide +kernel⟩
        (menuC _ (.str _) ⟨by decide +kernel, by decide +kernel, by decide +kernel⟩
        (menuC (.dict [(.str "a", .int 0)]) (.dic (ds := [.int 0]) (gtab _ _ fda) (.cons (.int _) .nil)) ⟨by decide +kernel, by decide +kernel, by decide +kernel⟩
        (menuC (.tuple [.str "a", .str "b"]) (.tup (SqT.of ftab) (.cons (.str _) (.cons (.str _) .nil))) ⟨by decide +kernel, by decide +kernel, by decide +kernel⟩
        (menuC _ (.bl _) ⟨by decide +kernel, by decide +kernel, by decide +kernel⟩
        menuN))))))))
      have q8 := ((((((gte.trans gt01).trans gta0).trans gl01).trans gda).trans gtab))
      refine ⟨(by show 8 ≤ sizeLine; decide), fun p8 n8 => ?_⟩
      have a8x := Stab.away n8
      refine ⟨_, rfl, d, cc, 8, rfl, Stab.new n8, (by decide), fun rother H8 r0other r1other S8x k8 => ?_⟩
      obtain ⟨other, eother, mother⟩ := pick_at (xs := [.ref te, .ref ta0, .ref l01, .non, .str "path", .ref da, .ref tab, .bl true]) r0other (by show rother < 8; omega)
      refine ⟨p8, _, rother, other, rfl, rfl, SqL.of (k8 p8 _ upd_same a8x.1 a8x.2), eother, ?_⟩
      have q8 := (q8.trans (mask_new n8)).trans (mask_keep k8)
      obtain ⟨dq, xq, nq⟩ := (menu8.same (mask_new n8)).same (mask_keep k8) other mother
      have xw := Dx.same mask_same _ _ (Dx.same q8 _ _ xw)
      have xn := Dx.same mask_same _ _ (Dx.same q8 _ _ xn)
      have xq := Dx.same mask_same _ _ xq
      obtain ⟨q, ys, ds, rfl, sq, few, xa, na⟩ := (pt.same q8).same mask_same
      refine ⟨_, rfl, _, rfl, _, rfl, _, rfl, word, number, other, q, ys, rfl, sq, few, fun L e0 e1 e2 e3 e4 e5 e6 e7 e8 e9 e10 e11 e12 H9 mL s9 hL ev => ?_⟩
      refine ⟨_, rfl, L, _, rfl, .inl (SqL.of hL), 13, rfl, by decide, by decide, for_range (lo := 0) (n := 13) (fun j σ H3 => ∃ (v9 v10 : Option V), σ = [some (.ref a), some (.ref d), some (.int (10 ^ 30)), some (.int (0 + (i : Int))), Option.some word, Option.some number, Option.some (.ref q), Option.some other, Option.some (.ref L), v9, v10] ∧ Same H9 H3)
        ⟨_, _, rfl, Same.refl _⟩ ?_ ?_⟩
      · rintro j σ H10 hj ⟨v9, v10, rfl, s10⟩
        obtain ⟨e, fs, at_, ex⟩ := ev.at j hj
        refine ⟨_, rfl, _, rfl, L, _, _, _, rfl, rfl, SqL.of (s10 _ _ hL), at_, e, fs, j, rfl, Ex.same s10 ex, hj, fun Lk H11 mk s11 hk => ?_⟩
        have t11 := s10.trans s11
        refine ⟨_, rfl, L, _, rfl, .inl (SqL.of (t11 _ _ hL)), 13, rfl, by decide, by decide, fun D nD => ?_⟩
        have sD := same_new (o := .lst []) nD
        refine lc_range (lo := 0) (n := 13) (fun x H => Same H11 H ∧ H D = some (.lst ((bk x j).map V.bl))) ⟨sD, upd_same⟩ ?_ ?_
        · rintro x H12 hx ⟨s12, h12⟩
          refine ⟨rfl, _, rfl, _, rfl, rfl, ?_⟩
          refine ⟨_, h12, small1000 (by rw [bk_len]; omega), fun b o e => by rw [upd_ne (ne_of_none e nD)]; exact s12 b o e, ?_⟩
          rw [upd_same, dec_idx, bk_succ]
        · rintro H12 ⟨s12, h12⟩
          rw [bk_map] at hk
          refine ⟨.list ((bk 13 j).map PyData.bool), .list ((bk 13 j).map PyData.bool), .lst (SqL.of (s12 _ _ hk)) (dpBools _), .lst (SqL.of h12) (dpBools _), shaped_bools _, shaped_bools _, ?_⟩
          rw [eqv_bools]
          refine ⟨false, rfl, iteF ?_⟩
          have t12 := t11.trans s12
          -- bases
          refine ⟨_, rfl, _, rfl, L, _, _, _, rfl, rfl, SqL.of (t12 _ _ hL), at_, e, fs, j, rfl, Ex.same t12 ex, hj, fun Lb H13 mb s13 hb => ?_⟩
          have t13 := t12.trans s13
          refine ⟨_, rfl, _, _, rfl, rfl, _, rfl, _, _, rfl, rfl, _, rfl, rfl, _, rfl, rfl, (by show 5 ≤ sizeLine; decide), fun pb nb => ?_⟩
          refine ⟨.list ((b5 j).map PyData.bool), .list ((b5i j).map PyData.bool), .lst (SqL.of (same_new nb _ _ hb)) (dpBools (b5 j)), .lst (SqL.of upd_same) (dpBools (b5i j)), shaped_bools _, shaped_bools _, ?_⟩
          rw [b5i_eq, eqv_bools]
          exact ⟨false, rfl, iteF ⟨_, _, rfl, t13.trans (same_new nb)⟩⟩
      · rintro σ H10 ⟨v9, v10, rfl, s10⟩
        have xw := Dx.same (s9.trans s10) _ _ xw
        have xn := Dx.same (s9.trans s10) _ _ xn
        have xq := Dx.same (s9.trans s10) _ _ xq
        have xa := DxAll.same (s9.trans s10) _ _ xa
        refine ⟨_, rfl, L, _, rfl, .inl (SqL.of (s10 _ _ hL)), rfl, false, rfl, iteF ?_⟩
        refine ⟨_, rfl, _, rfl, _, rfl, _, rfl, _, rfl, word, number, other, L, q, ys, dw, dn, dq, ds, e0, e1, e2, e3, e4, e5, e6, e7, e8, e9, e10, e11, e12, rfl, s10 _ _ hL, ev.same s10, sq.same (s9.trans s10), xw, nw, xn, nn, xq, nq, xa, na, fun H11 s11 => ?_⟩
        refine ⟨true, rfl, ?_⟩
        refine iteF ?_
        exact ⟨_, _, _, _, _, _, _, _, rfl, S8x.same ((s9.trans s10).trans s11)⟩
    · rintro σ H2 ⟨v3, v4, v5, v6, v7, v8, v9, v10, rfl, S2⟩
      exact k _
end
end K00
namespace K00
open PySem PySem.Spec L2 Rt
open PyProof.Rows hiding St
structure Easy (K : PySem.W.Frag) (mg : Str → Option Value) (x : Str) (C : Addr) : Prop where
  m : mg x = some (.ref C)
  q : PySem.W.excIn K C veT "ValueError.__new__" = true
  kp : PySem.W.keepIn K (.ref C) = true
  cc : ExcC K C
structure Own (K : PySem.W.Frag) (mg : Str → Option Value) (x qual attr : Str) (st : Stmt) (bm : List Value) (newId : String) (C f : Addr) : Prop where
  m : mg x = some (.ref C)
  M : ExM K C bm
  i : PySem.W.excInitIn K C bm newId = true
  fnd : PySem.W.findIn K (.ref C) "__init__" = some (some (.ref f))
  ty : PySem.W.typeIn K (.ref f) = some (.type "function")
  no : PySem.W.findIn K (.ref C) attr = some none
  ex : ∃ fd : FuncData, Fun K "__init__" qual st f fd
section
variable {K : PySem.W.Frag} {mg : Str → Option Value} {h : Heap} {x qual attr : Str} {C f : Addr}
theorem easy_mk (X : K.In h) (G : h.Ns mainGlobals mg) (a : PySem.W.nsIn K mainGlobals x = some (some (.ref C))) (kp : PySem.W.keepIn K (.ref C) = true) (cc : ExcC K C) (q : PySem.W.excIn K C veT "ValueError.__new__" = true) : Easy K mg x C := ⟨PySem.W.mg_of X G a, q, kp, cc⟩
theorem own_mk {st : Stmt} {bm : List Value} {newId : String} {oc kV dc pm cd ct : Value} {od an : Option Addr} {sl : Array (Option Value)} (X : K.In h) (G : h.Ns mainGlobals mg) (a : PySem.W.nsIn K mainGlobals x = some (some (.ref C)))
    (over : PySem.W.excOver K C bm = true) (sa : PySem.W.findIn K (.ref C) "__setattr__" = some (some (.builtin "object.__setattr__"))) (cc : ExcC K C) (kp : PySem.W.keepIn K (.ref C) = true)
    (i : PySem.W.excInitIn K C bm newId = true) (fnd : PySem.W.findIn K (.ref C) "__init__" = some (some (.ref f))) (ty : PySem.W.typeIn K (.ref f) = some (.type "function")) (no : PySem.W.findIn K (.ref C) attr = some none)
    (l : K.lookup f = some ⟨oc, od, .func (PySem.W.fnOf "__init__" qual (defArgs st) (defBody st) (defScope st) .none kV dc pm an cd ct), sl⟩) (c : PySem.W.codeIn K cd qual = true) (k : PySem.W.keepIn K (.ref f) = true) : Own K mg x qual attr st bm newId C f :=
  ⟨PySem.W.mg_of X G a, ⟨over, sa, cc, kp⟩, i, fnd, ty, no, ⟨_, fun_mk l c k⟩⟩
end
/-! ### who is what -/
def same? : Option Bool → Bool → Bool
  | some a, b => a == b
  | none, _ => false
theorem same?_eq : ∀ {o : Option Bool} {b : Bool}, same? o b = true → o = some b
  | some a, b, h => by
    have e : a = b := eq_of_beq h
    rw [e]
  | none, _, h => nomatch h
def tab (K : PySem.W.Frag) (c : Nat → Addr) (t : Nat → Value) (b : Nat → Nat → Bool) (n : Nat) : Bool := (List.range 13).all fun k => (List.range n).all fun j => same? (PySem.W.kitOne K (.ref (c k)) (t j)) (b k j)
theorem tab_at {K : PySem.W.Frag} {c : Nat → Addr} {t : Nat → Value} {b : Nat → Nat → Bool} {n : Nat} (h : tab K c t b n = true) {k j : Nat} (hk : k < 13) (hj : j < n) : PySem.W.kitOne K (.ref (c k)) (t j) = some (b k j) := by
  unfold tab at h
  rw [List.all_eq_true] at h
  have h1 := h k (List.mem_range.mpr hk)
  rw [List.all_eq_true] at h1
  exact same?_eq (h1 j (List.mem_range.mpr hj))
def eitherT : Nat → Value
  | 0 => .type "KeyError"
  | _ => .type "IndexError"
def baseT (cT cN : Addr) : Nat → Value
  | 0 => .ref cT
  | 1 => .type "ValueError"
  | 2 => .ref cN
  | _ => .type "LookupError"
def baseB (k : Nat) : Nat → Bool
  | 0 => decide (k < 12)
  | 1 => decide (k < 12)
  | 2 => decide (k = 12)
  | _ => decide (k = 12)
def kinB (K : PySem.W.Frag) (c : Nat → Addr) (cT cN : Addr) : Bool := tab K c (fun j => .ref (c j)) (fun k j => decide (j = k)) 13 && tab K c (baseT cT cN) baseB 4 && tab K c eitherT (fun _ _ => false) 2

def c13 (c0 c1 c2 c3 c4 c5 c6 c7 c8 c9 c10 c11 c12 : Addr) : Nat → Addr
  | 0 => c0
  | 1 => c1
  | 2 => c2
  | 3 => c3
  | 4 => c4
  | 5 => c5
  | 6 => c6
  | 7 => c7
  | 8 => c8
  | 9 => c9
  | 10 => c10
  | 11 => c11
  | _ => c12
def f13 (f4 f5 f6 f7 f8 f9 f10 f11 f12 : Addr) : Nat → Addr
  | 4 => f4
  | 5 => f5
  | 6 => f6
  | 7 => f7
  | 8 => f8
  | 9 => f9
  | 10 => f10
  | 11 => f11
  | _ => f12
def d13 (d4 d5 d6 d7 d8 d9 d10 d11 d12 : FuncData) : Nat → FuncData
  | 4 => d4
  | 5 => d5
  | 6 => d6
  | 7 => d7
  | 8 => d8
  | 9 => d9
  | 10 => d10
  | 11 => d11
  | _ => d12
structure All0 (K : PySem.W.Frag) (mg : Str → Option Value) (c0 c1 c2 c3 c4 c5 c6 c7 c8 c9 c10 c11 c12 cT cN f4 f5 f6 f7 f8 f9 f10 f11 f12 : Addr) : Prop where
  x0 : Easy K mg "NoWay" c0
  x1 : Easy K mg "Unlike" c1
  x2 : Easy K mg "TooGreat" c2
  x3 : Easy K mg "NothingDone" c3
  x4 : Own K mg "BadNetwork" "BadNetwork.__init__" "path" sBadNetwork veT "ValueError.__new__" c4 f4
  x5 : Own K mg "BadLead" "BadLead.__init__" "path" sBadLead veT "ValueError.__new__" c5 f5
  x6 : Own K mg "BadTable" "BadTable.__init__" "path" sBadTable veT "ValueError.__new__" c6 f6
  x7 : Own K mg "BadProgram" "BadProgram.__init__" "path" sBadProgram veT "ValueError.__new__" c7 f7
  x8 : Own K mg "Gain" "Gain.__init__" "ring" sGain veT "ValueError.__new__" c8 f8
  x9 : Own K mg "BadText" "BadText.__init__" "place" sBadText veT "ValueError.__new__" c9 f9
  x10 : Own K mg "BadAct" "BadAct.__init__" "word" sBadAct veT "ValueError.__new__" c10 f10
  x11 : Own K mg "Conflict" "Conflict.__init__" "name" sConflict veT "ValueError.__new__" c11 f11
  x12 : Own K mg "UnknownName" "UnknownName.__init__" "name" sUnknownName leT "LookupError.__new__" c12 f12
  xT : mg "TickError" = some (.ref cT)
  xN : mg "NameMissing" = some (.ref cN)
  kin : kinB K (c13 c0 c1 c2 c3 c4 c5 c6 c7 c8 c9 c10 c11 c12) cT cN = true
structure Defs0 (K : PySem.W.Frag) (mg : Str → Option Value) : Prop where
  source : At K mg "_law_source" sSource
  pick : At K mg "_law_pick" sPick
  kinds : At K mg "_law_kinds" sKinds
  bases : At K mg "_law_bases" sBases
  every : At K mg "_law_every" sEvery
  kept : At K mg "_law_kept" sKept
  law : At K mg "law" sLaw
structure Nil0 (mg : Str → Option Value) : Prop where
  zlen : mg "len" = none
  zmax : mg "max" = none
  zint : mg "int" = none
  zabs : mg "abs" = none
  ztuple : mg "tuple" = none
  zrepr : mg "repr" = none
  zisinstance : mg "isinstance" = none
  zrange : mg "range" = none
  zValueError : mg "ValueError" = none
  zLookupError : mg "LookupError" = none
  zKeyError : mg "KeyError" = none
  zIndexError : mg "IndexError" = none
section
variable {P : Program} {w : World} {K : PySem.W.Frag} {mg : Str → Option Value} {base : Heap} {c0 c1 c2 c3 c4 c5 c6 c7 c8 c9 c10 c11 c12 cT cN f4 f5 f6 f7 f8 f9 f10 f11 f12 : Addr}
theorem all_cc (A : All0 K mg c0 c1 c2 c3 c4 c5 c6 c7 c8 c9 c10 c11 c12 cT cN f4 f5 f6 f7 f8 f9 f10 f11 f12) : ∀ k, k < 13 → ExcC K (c13 c0 c1 c2 c3 c4 c5 c6 c7 c8 c9 c10 c11 c12 k)
  | 0, _ => A.x0.cc
  | 1, _ => A.x1.cc
  | 2, _ => A.x2.cc
  | 3, _ => A.x3.cc
  | 4, _ => A.x4.M.cc
  | 5, _ => A.x5.M.cc
  | 6, _ => A.x6.M.cc
  | 7, _ => A.x7.M.cc
  | 8, _ => A.x8.M.cc
  | 9, _ => A.x9.M.cc
  | 10, _ => A.x10.M.cc
  | 11, _ => A.x11.M.cc
  | 12, _ => A.x12.M.cc
  | _ + 13, h => absurd h (by omega)
theorem asked (A : All0 K mg c0 c1 c2 c3 c4 c5 c6 c7 c8 c9 c10 c11 c12 cT cN f4 f5 f6 f7 f8 f9 f10 f11 f12) (N : Nil0 mg) : Asked K mg (c13 c0 c1 c2 c3 c4 c5 c6 c7 c8 c9 c10 c11 c12) cT cN := by
  have h := A.kin
  unfold kinB at h
  rw [Bool.and_eq_true, Bool.and_eq_true] at h
  obtain ⟨⟨h1, h2⟩, h3⟩ := h
  have kE : ∀ k, k < 13 → PySem.W.kitAny K (.ref (c13 c0 c1 c2 c3 c4 c5 c6 c7 c8 c9 c10 c11 c12 k)) [.type "KeyError", .type "IndexError"] = some false := fun k hk => by
    have e0 : PySem.W.kitOne K (.ref (c13 c0 c1 c2 c3 c4 c5 c6 c7 c8 c9 c10 c11 c12 k)) (.type "KeyError") = some false := tab_at h3 hk (j := 0) (by decide)
    have e1 : PySem.W.kitOne K (.ref (c13 c0 c1 c2 c3 c4 c5 c6 c7 c8 c9 c10 c11 c12 k)) (.type "IndexError") = some false := tab_at h3 hk (j := 1) (by decide)
    unfold PySem.W.kitAny
    rw [e0]
    simp only
    unfold PySem.W.kitAny
    rw [e1]
    simp only
    unfold PySem.W.kitAny
    rfl
  exact { n0 := A.x0.m, n1 := A.x1.m, n2 := A.x2.m, n3 := A.x3.m, n4 := A.x4.m, n5 := A.x5.m, n6 := A.x6.m, n7 := A.x7.m, n8 := A.x8.m, n9 := A.x9.m, n10 := A.x10.m, n11 := A.x11.m, n12 := A.x12.m, nT := A.xT, nN := A.xN, zisinstance := N.zisinstance, zValueError := N.zValueError, zLookupError := N.zLookupError, zKeyError := N.zKeyError, zIndexError := N.zIndexError, cc := all_cc A, kit := fun k j hk hj => tab_at h1 hk hj, kT := fun k hk => tab_at h2 hk (j := 0) (by decide), kV := fun k hk => tab_at h2 hk (j := 1) (by decide), kN := fun k hk => tab_at h2 hk (j := 2) (by decide), kL := fun k hk => tab_at h2 hk (j := 3) (by decide), kE := kE }
theorem kept_ (A : All0 K mg c0 c1 c2 c3 c4 c5 c6 c7 c8 c9 c10 c11 c12 cT cN f4 f5 f6 f7 f8 f9 f10 f11 f12) (N : Nil0 mg) : Kept K mg (c13 c0 c1 c2 c3 c4 c5 c6 c7 c8 c9 c10 c11 c12) :=
  { zrepr := N.zrepr, ztuple := N.ztuple, cc := all_cc A, a4 := A.x4.no, a5 := A.x5.no, a6 := A.x6.no, a7 := A.x7.no, a8 := A.x8.no, a9 := A.x9.no, a10 := A.x10.no, a11 := A.x11.no, a12 := A.x12.no }
theorem makes (A : All0 K mg c0 c1 c2 c3 c4 c5 c6 c7 c8 c9 c10 c11 c12 cT cN f4 f5 f6 f7 f8 f9 f10 f11 f12) (N : Nil0 mg) : ∃ fdd : Nat → FuncData, Makes P w K mg base (c13 c0 c1 c2 c3 c4 c5 c6 c7 c8 c9 c10 c11 c12) (f13 f4 f5 f6 f7 f8 f9 f10 f11 f12) fdd := by
  obtain ⟨d4, F4⟩ := A.x4.ex
  obtain ⟨d5, F5⟩ := A.x5.ex
  obtain ⟨d6, F6⟩ := A.x6.ex
  obtain ⟨d7, F7⟩ := A.x7.ex
  obtain ⟨d8, F8⟩ := A.x8.ex
  obtain ⟨d9, F9⟩ := A.x9.ex
  obtain ⟨d10, F10⟩ := A.x10.ex
  obtain ⟨d11, F11⟩ := A.x11.ex
  obtain ⟨d12, F12⟩ := A.x12.ex
  exact ⟨d13 d4 d5 d6 d7 d8 d9 d10 d11 d12, { n0 := A.x0.m, q0 := A.x0.q, kp0 := A.x0.kp, n1 := A.x1.m, q1 := A.x1.q, kp1 := A.x1.kp, n2 := A.x2.m, q2 := A.x2.q, kp2 := A.x2.kp, n3 := A.x3.m, q3 := A.x3.q, kp3 := A.x3.kp, n4 := A.x4.m, M4 := A.x4.M, i4 := A.x4.i, f4 := A.x4.fnd, t4 := A.x4.ty, g4 := ok_BadNetwork F4 N.ztuple A.x4.M A.x4.no, b4 := F4.binds fun _ _ _ _ _ _ us hl => match us, hl with | [_, _], _ => rfl, n5 := A.x5.m, M5 := A.x5.M, i5 := A.x5.i, f5 := A.x5.fnd, t5 := A.x5.ty, g5 := ok_BadLead F5 N.ztuple A.x5.M A.x5.no, b5 := F5.binds fun _ _ _ _ _ _ us hl => match us, hl with | [_, _], _ => rfl, n6 := A.x6.m, M6 := A.x6.M, i6 := A.x6.i, f6 := A.x6.fnd, t6 := A.x6.ty, g6 := ok_BadTable F6 N.ztuple A.x6.M A.x6.no, b6 := F6.binds fun _ _ _ _ _ _ us hl => match us, hl with | [_, _], _ => rfl, n7 := A.x7.m, M7 := A.x7.M, i7 := A.x7.i, f7 := A.x7.fnd, t7 := A.x7.ty, g7 := ok_BadProgram F7 N.ztuple A.x7.M A.x7.no, b7 := F7.binds fun _ _ _ _ _ _ us hl => match us, hl with | [_, _], _ => rfl, n8 := A.x8.m, M8 := A.x8.M, i8 := A.x8.i, f8 := A.x8.fnd, t8 := A.x8.ty, g8 := ok_Gain F8 A.x8.M A.x8.no, b8 := F8.binds fun _ _ _ _ _ _ us hl => match us, hl with | [_, _], _ => rfl, n9 := A.x9.m, M9 := A.x9.M, i9 := A.x9.i, f9 := A.x9.fnd, t9 := A.x9.ty, g9 := ok_BadText F9 A.x9.M A.x9.no, b9 := F9.binds fun _ _ _ _ _ _ us hl => match us, hl with | [_, _], _ => rfl, n10 := A.x10.m, M10 := A.x10.M, i10 := A.x10.i, f10 := A.x10.fnd, t10 := A.x10.ty, g10 := ok_BadAct F10 A.x10.M A.x10.no, b10 := F10.binds fun _ _ _ _ _ _ us hl => match us, hl with | [_, _], _ => rfl, n11 := A.x11.m, M11 := A.x11.M, i11 := A.x11.i, f11 := A.x11.fnd, t11 := A.x11.ty, g11 := ok_Conflict F11 A.x11.M A.x11.no, b11 := F11.binds fun _ _ _ _ _ _ us hl => match us, hl with | [_, _], _ => rfl, n12 := A.x12.m, M12 := A.x12.M, i12 := A.x12.i, f12 := A.x12.fnd, t12 := A.x12.ty, g12 := ok_UnknownName F12 A.x12.M A.x12.no, b12 := F12.binds fun _ _ _ _ _ _ us hl => match us, hl with | [_, _], _ => rfl }⟩
theorem callsX (A : All0 K mg c0 c1 c2 c3 c4 c5 c6 c7 c8 c9 c10 c11 c12 cT cN f4 f5 f6 f7 f8 f9 f10 f11 f12) (D : Defs0 K mg) (N : Nil0 mg) : CallsX P w K mg base (c13 c0 c1 c2 c3 c4 c5 c6 c7 c8 c9 c10 c11 c12) := by
  obtain ⟨fdd, M⟩ := makes (P := P) (w := w) (base := base) A N
  exact { source := D.source.cb (fun f fd F => ok_source F N.zabs N.zint) (fun f fd F => F.binds fun _ _ _ _ _ _ us hl => match us, hl with | [_], _ => rfl), pick := D.pick.cb (fun f fd F => ok_pick F N.zlen N.zmax N.zint) (fun f fd F => F.binds fun _ _ _ _ _ _ us hl => match us, hl with | [_, _], _ => rfl), every := D.every.cb (fun f fd F => ok_every F M) (fun f fd F => F.binds fun _ _ _ _ _ _ us hl => match us, hl with | [_, _, _, _], _ => rfl), kinds := D.kinds.cb (fun f fd F => ok_kinds F (asked A N)) (fun f fd F => F.binds fun _ _ _ _ _ _ us hl => match us, hl with | [_], _ => rfl), bases := D.bases.cb (fun f fd F => ok_bases F (asked A N)) (fun f fd F => F.binds fun _ _ _ _ _ _ us hl => match us, hl with | [_], _ => rfl), kept := D.kept.cb (fun f fd F => ok_kept F (kept_ A N)) (fun f fd F => F.binds fun _ _ _ _ _ _ us hl => match us, hl with | [_, _, _, _, _], _ => rfl) }
theorem finish {h : Heap} {fa : Addr} (X : K.In h) (G : h.Ns mainGlobals mg) (A : All0 K mg c0 c1 c2 c3 c4 c5 c6 c7 c8 c9 c10 c11 c12 cT cN f4 f5 f6 f7 f8 f9 f10 f11 f12) (D : Defs0 K mg) (N : Nil0 mg) (ha : mg "law" = some (.ref fa)) :
    ∃ fd : FuncData, (∀ (s : Shared) (u : Value), BindsTo s fd ⟨[u], []⟩ [("script", u)]) ∧ ∀ base : Heap, K.In base → base.Ns mainGlobals mg → FnG P w K mg base 4 fa fd ["script"] (spLaw K) := by
  obtain ⟨f, fd, F, m⟩ := D.law.ex
  cases ha.symm.trans m
  refine ⟨fd, ?_, fun base _ _ => ok_law F ⟨N.zrange, N.zint, N.zlen⟩ (callsX A D N)⟩
  obtain ⟨oc, od, kV, doc, pm, an, cdv, ct, osl, rfl, lk, hcd⟩ := F.ex
  exact fun s u => .of_eq rfl
end
end K00
open PySem PySem.W PyProof.Rows
set_option maxRecDepth 100000 in
set_option maxHeartbeats 0 in
theorem PySem.Challenge.cw_roundticks_k00_errors_holds : PySem.Challenge.rw_roundticks_k00_errors.Holds := by
  w_on; o_law; k_head; (case hw => w_witness2)
  k_fill
  refine Rt.walk_g (l := PySem.Challenge.rw_roundticks_k00_errors) (k := 4) (sp := K00.spLaw) (x := "script") rfl (by decide) rfl ⟨rfl, by decide, by decide⟩ (fun w h Y => PySem.W.kIn_of Y) ?F (fun K H a ns hl hS => ⟨a, ns, rfl, hS, hl, fun _ => rfl⟩)
  case F =>
    intro w mg fa h KX G hmg
    refine' K00.finish KX G ?alls ?defs ?nils hmg
    case alls =>
      refine' K00.All0.mk ?x0 ?x1 ?x2 ?x3 ?x4 ?x5 ?x6 ?x7 ?x8 ?x9 ?x10 ?x11 ?x12 ?xT ?xN ?kin
      case x0 =>
        refine' K00.easy_mk KX G ?a ?kp ?cc ?exc
        (case a => k_is)
        (case kp => k_is)
        (case cc => (constructor <;> k_is))
        (case exc => kernel_rfl)
      case x1 =>
        refine' K00.easy_mk KX G ?a ?kp ?cc ?exc
        (case a => k_is)
        (case kp => k_is)
        (case cc => (constructor <;> k_is))
        (case exc => kernel_rfl)
      case x2 =>
        refine' K00.easy_mk KX G ?a ?kp ?cc ?exc
        (case a => k_is)
        (case kp => k_is)
        (case cc => (constructor <;> k_is))
        (case exc => kernel_rfl)
      case x3 =>
        refine' K00.easy_mk KX G ?a ?kp ?cc ?exc
        (case a => k_is)
        (case kp => k_is)
        (case cc => (constructor <;> k_is))
        (case exc => kernel_rfl)
      case x4 =>
        refine' K00.own_mk KX G ?a ?over ?sa ?cc ?kp ?i ?fnd ?ty ?no ?l ?c ?k
        (case a => k_is)
        (case over => kx_is)
        (case sa => k_is)
        (case cc => (constructor <;> k_is))
        (case kp => k_is)
        (case i => kx_is)
        (case fnd => k_is)
        (case ty => k_is)
        (case no => k_is)
        (case l => k_is)
        (case c => k_is)
        (case k => k_is)
      case x5 =>
        refine' K00.own_mk KX G ?a ?over ?sa ?cc ?kp ?i ?fnd ?ty ?no ?l ?c ?k
        (case a => k_is)
        (case over => kx_is)
        (case sa => k_is)
        (case cc => (constructor <;> k_is))
        (case kp => k_is)
        (case i => kx_is)
        (case fnd => k_is)
        (case ty => k_is)
        (case no => k_is)
        (case l => k_is)
        (case c => k_is)
        (case k => k_is)
      case x6 =>
        refine' K00.own_mk KX G ?a ?over ?sa ?cc ?kp ?i ?fnd ?ty ?no ?l ?c ?k
        (case a => k_is)
        (case over => kx_is)
        (case sa => k_is)
        (case cc => (constructor <;> k_is))
        (case kp => k_is)
        (case i => kx_is)
        (case fnd => k_is)
        (case ty => k_is)
        (case no => k_is)
        (case l => k_is)
        (case c => k_is)
        (case k => k_is)
      case x7 =>
        refine' K00.own_mk KX G ?a ?over ?sa ?cc ?kp ?i ?fnd ?ty ?no ?l ?c ?k
        (case a => k_is)
        (case over => kx_is)
        (case sa => k_is)
        (case cc => (constructor <;> k_is))
        (case kp => k_is)
        (case i => kx_is)
        (case fnd => k_is)
        (case ty => k_is)
        (case no => k_is)
        (case l => k_is)
        (case c => k_is)
        (case k => k_is)
      case x8 =>
        refine' K00.own_mk KX G ?a ?over ?sa ?cc ?kp ?i ?fnd ?ty ?no ?l ?c ?k
        (case a => k_is)
        (case over => kx_is)
        (case sa => k_is)
        (case cc => (constructor <;> k_is))
        (case kp => k_is)
        (case i => kx_is)
        (case fnd => k_is)
        (case ty => k_is)
        (case no => k_is)
        (case l => k_is)
        (case c => k_is)
        (case k => k_is)
      case x9 =>
        refine' K00.own_mk KX G ?a ?over ?sa ?cc ?kp ?i ?fnd ?ty ?no ?l ?c ?k
        (case a => k_is)
        (case over => kx_is)
        (case sa => k_is)
        (case cc => (constructor <;> k_is))
        (case kp => k_is)
        (case i => kx_is)
        (case fnd => k_is)
        (case ty => k_is)
        (case no => k_is)
        (case l => k_is)
        (case c => k_is)
        (case k => k_is)
      case x10 =>
        refine' K00.own_mk KX G ?a ?over ?sa ?cc ?kp ?i ?fnd ?ty ?no ?l ?c ?k
        (case a => k_is)
        (case over => kx_is)
        (case sa => k_is)
        (case cc => (constructor <;> k_is))
        (case kp => k_is)
        (case i => kx_is)
        (case fnd => k_is)
        (case ty => k_is)
        (case no => k_is)
        (case l => k_is)
        (case c => k_is)
        (case k => k_is)
      case x11 =>
        refine' K00.own_mk KX G ?a ?over ?sa ?cc ?kp ?i ?fnd ?ty ?no ?l ?c ?k
        (case a => k_is)
        (case over => kx_is)
        (case sa => k_is)
        (case cc => (constructor <;> k_is))
        (case kp => k_is)
        (case i => kx_is)
        (case fnd => k_is)
        (case ty => k_is)
        (case no => k_is)
        (case l => k_is)
        (case c => k_is)
        (case k => k_is)
      case x12 =>
        refine' K00.own_mk KX G ?a ?over ?sa ?cc ?kp ?i ?fnd ?ty ?no ?l ?c ?k
        (case a => k_is)
        (case over => kx_is)
        (case sa => k_is)
        (case cc => (constructor <;> k_is))
        (case kp => k_is)
        (case i => kx_is)
        (case fnd => k_is)
        (case ty => k_is)
        (case no => k_is)
        (case l => k_is)
        (case c => k_is)
        (case k => k_is)
      case xT =>
        refine' PySem.W.mg_of KX G ?z
        (case z => k_is)
      case xN =>
        refine' PySem.W.mg_of KX G ?z
        (case z => k_is)
      case kin => kernel_rfl
    case defs =>
      constructor
      all_goals
        refine' Rt.at_mk KX G ?a ?l ?c ?k
        (case a => k_is)
        (case l => k_is)
        (case c => k_is)
        (case k => k_is)
    case nils =>
      constructor
      all_goals
        refine' PySem.W.mg_none_of KX G ?z
        (case z => k_is)
