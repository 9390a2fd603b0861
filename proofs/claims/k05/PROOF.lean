import PyProof.Rows.All
import Wide.All
import OpenK.AllK
import Wide.FinOn
import PyProof.LongRange
import PyProof.ReprRoads
import HandS.Base
import HandS.Call
import HandS.List
import HandS.Words
import HandS.WordsList
import HandS.Ends
import HandS.WordsDict
import HandS.Wide
import HandS.Comp
import HandS.Dict
import HandS.Style
import HandS.Text
import HandS.IsInst
import PySem.Challenge.RW_roundticks_k05_whole_rounding
set_option Elab.async false
set_option linter.all false
set_option maxRecDepth 100000
set_option maxHeartbeats 8000000
/-! own rules: far ranges, repr of data, promises under known guards -/
namespace Rt
open PySem PySem.Spec L2
open PyProof.Rows hiding St
/-! ### a range between any two ints -/
theorem turn_far {P : Program} {w : World} {K : PySem.W.Frag} {tg : Expr} (c : Addr) (lo : Int) (n : Nat) :
    Turn P w K tg (Itr lo n) [c] c (fun i h => IsLongIter h c (lo + ((i : Nat) : Int) * 1) ((n : Int) - ((i : Nat) : Int)) 1) := by
  constructor
  · exact List.mem_singleton.mpr rfl
  · intro i h st b hb
    cases List.mem_singleton.mp hb
    exact ⟨_, st, fun v z => by injection z⟩
  · intro i h h' st kp
    exact kp c (List.mem_singleton.mpr rfl) _ st
  · rintro X rfl rfl rfl calm i pins s σ H E I fresh st more
    obtain ⟨g0, g1, g2, g3, g4, g5⟩ := fresh c (List.mem_singleton.mpr rfl)
    refine (Walks.longrange (prog := X.prog) (w := X.w) (I.ok.hd calm) c lo 1 n).item i s _ _ more st fun v h' tk hv st' kp => ?_
    obtain ⟨t, rfl⟩ := hv
    have J : Inv X pins σ H { s with heap := h', toks := tk } :=
      I.turned (fun b o nb e => kp b o (fun z => nb (List.mem_singleton.mp z)) e) g0 g1 g3 g4 g5
    refine ⟨_, rfl, go_of (n := "longrange_iterator") (s := { s with heap := h', toks := tk }) st' rfl rfl (by decide) ?_⟩
    refine ⟨.int (lo + (i : Int)), H, J, ⟨t, by rw [Int.mul_one]⟩, ⟨rfl, rfl⟩, st', fun b hb => (fresh b hb).1⟩
  · rintro X rfl rfl rfl calm i pins s σ H E I fresh st over
    obtain ⟨g0, g1, g2, g3, g4, g5⟩ := fresh c (List.mem_singleton.mpr rfl)
    have le : (n : Int) - (i : Int) ≤ 0 := by have q : n ≤ i := over; omega
    exact wpAny_pyNext_long_end (I.ok.hd calm) st le fun h' kp =>
      ⟨rfl, I.turned (t' := s.toks) (fun b o nb e => kp b o nb e) g0 g1 g3 g4 g5⟩
  · intro A i s Q E st q
    exact wpAny_pyIter_longiter st q
section
variable {X : Cx} {tg : Expr}
theorem far_it {pins : List (Addr × Obj)} {σ : St} {H : Hp} {s : Shared} {R : It → Hp → Prop} {E : Value → Shared → Prop} {lo hi : Int} {t u v : Tok} {tk : Nat}
    (I : Inv X pins σ H s) (q : R (Itr lo (hi - lo).toNat) H) :
    wpAny (model X.prog X.w) X.A (pyIter (.ref s.heap.objs.size)) (PIE X pins σ tg R) E
      { s with heap := s.heap.push { cls := .type "range", data := .fields #[.int lo t, .int hi u, .int 1 v] }, toks := tk } := by
  have J : Inv X pins σ H { s with heap := s.heap.push { cls := .type "range", data := .fields #[.int lo t, .int hi u, .int 1 v] }, toks := tk } :=
    I.kept fun b o e => Heap.get?_push_of_some _ e
  have ez : lo + (((0 : Nat)) : Int) * 1 = lo := by simp
  have en : (((hi - lo).toNat : Nat) : Int) - ((0 : Nat) : Int) = Builtin.Range.rangeSize lo hi 1 := by
    rw [rangeSize_one]
    split <;> omega
  have fr : ∀ (h2 : Heap) (tk2 : Nat) (b : Addr), Inv X pins σ H { s with heap := h2, toks := tk2 } → b = h2.objs.size → FpOk X pins H b := fun h2 tk2 b J2 e => by
    subst e
    exact J2.fpOk (Nat.le_refl _) (J2.hok.fresh (Nat.le_refl _))
  cases sm : Builtin.Range.small lo hi 1 with
  | true =>
    refine wpAny_pyIter_range (IsRange.new ..) sm ?_
    refine ⟨_, [_], _, Itr lo (hi - lo).toNat, H, rfl, J.kept (t' := tk) fun b o e => Heap.get?_push_of_some _ e, turn_range _ lo (hi - lo).toNat, ?_, fun b hb => fr _ tk b J (List.mem_singleton.mp hb), q⟩
    show IsRangeIter _ _ (lo + (((0 : Nat)) : Int) * 1) ((((hi - lo).toNat : Nat) : Int) - ((0 : Nat) : Int)) 1
    rw [ez, en]
    exact Heap.get?_push_size _ rfl
  | false =>
    refine wpAny_pyIter_longrange (IsRange.new ..) sm ?_
    refine ⟨_, [_], _, Itr lo (hi - lo).toNat, H, rfl, J.kept (t' := tk) fun b o e => Heap.get?_push_of_some _ e, turn_far _ lo (hi - lo).toNat, ?_, fun b hb => fr _ tk b J (List.mem_singleton.mp hb), q⟩
    show IsLongIter _ _ (lo + (((0 : Nat)) : Int) * 1) ((((hi - lo).toNat : Nat) : Int) - ((0 : Nat) : Int)) 1
    rw [ez, en]
    exact Heap.get?_push_size _ rfl
def iFar (ta : TA) : TI := fun σ H R => ta σ H fun vs H1 => ∃ i j : Int, vs = [.int i, .int j] ∧ R (Itr i (j - i).toNat) H1
/-- for x in range(a, b), of ints of any size -/
theorem pi_far {a b : Expr} {ta : TA} {p pos : Pos} (hg : Gl X "range") (hm : X.mg "range" = none) (ha : PA X [a, b] ta)
    (h1 : starEach [a, b] X.env = [(false, eval a X.env), (false, eval b X.env)] := by rfl) (h2 : starEach [b] X.env = [(false, eval b X.env)] := by rfl) :
    PI X tg (.Call (.Name "range" p) [a, b] [] pos) (iFar ta) := by
  constructor
  intro pins s σ H R I h
  have two := thn (ha.run pos pins s σ H _ I h) (Q' := fun us s1 => wpAny (model X.prog X.w) X.A (call (.type "range") us) (fun v s2 => wpAny (model X.prog X.w) X.A (pyIter v) (PIE X pins σ tg R) X.xe s2) X.xe s1)
    fun us s1 ⟨vs, H1, I1, r1, i, j, e, q⟩ => by
      subst e
      obtain ⟨u1, u2, rfl, ⟨t1, rfl⟩, ⟨t2, rfl⟩⟩ := vals2 r1
      exact call_range_2 (far_it I1 q)
  refine PyProof.Rows.Call_ (ld_blt I hg hm boot_range (PyProof.Rows.callWith_type1 two ?_ ?_))
  · rw [h1, h2]
  · rw [h2]; rfl
end
end Rt
namespace Rt
open PySem PySem.Spec L2
open PyProof.Rows hiding St
/-! ### repr of data -/
mutual
theorem dp_plain {K : PySem.W.Frag} {H : Hp} : ∀ (d : PyData) (v : V), Dp K H v d → d.hasDict = false
  | .none, _, _ => by simp only [PyData.hasDict]
  | .bool _, _, _ => by simp only [PyData.hasDict]
  | .int _, _, _ => by simp only [PyData.hasDict]
  | .str _, _, _ => by simp only [PyData.hasDict]
  | .list ds, _, h => by
    cases h with
    | lst _ ha =>
      simp only [PyData.hasDict]
      exact dp_plainAll ds _ ha
  | .tuple ds, _, h => by
    cases h with
    | tup _ ha =>
      simp only [PyData.hasDict]
      exact dp_plainAll ds _ ha
  | .dict _, _, h => by cases h
theorem dp_plainAll {K : PySem.W.Frag} {H : Hp} : ∀ (ds : List PyData) (vs : List V), DpAll K H vs ds → PyData.hasDictAll ds = false
  | [], _, _ => by simp only [PyData.hasDictAll]
  | d :: ds, _, h => by
    cases h with
    | cons h1 h2 => simp only [PyData.hasDictAll, dp_plain d _ h1, dp_plainAll ds _ h2, Bool.or_self]
end
def rRepr (K : PySem.W.Frag) : List V → Hp → VK → Prop := fun xs H Q => ∃ v d, xs = [v] ∧ Dp K H v d ∧ d.showable = true ∧ d.depth ≤ 60 ∧ d.shown.length ≤ sizeLine ∧ Q (.str d.shown) H
section
variable {X : Cx}
theorem call_repr (hg : X.A.guards = some []) (hu : X.A.units + 64 < cLine) : CallR X (.builtin "repr") (rRepr X.K) := by
  intro pins s σ H xs us Q I r h
  obtain ⟨v, d, rfl, hd, hs, hdep, hz, q⟩ := h
  obtain ⟨u, rfl, ru⟩ := vals1 r
  have np := dp_plain d v hd
  obtain ⟨as, rd⟩ := Dp.reads I d v u hd ru
  cases rd with
  | none => exact PySem.P.repr_of_none ⟨.str _, H, I.tok _, ⟨_, rfl⟩, by simpa only [PyData.shown] using q⟩
  | bool b => exact PySem.P.repr_of_bool ⟨.str _, H, I.tok _, ⟨_, rfl⟩, by simpa only [PyData.shown] using q⟩
  | int i t => exact PySem.P.repr_of_int (by simpa [PyData.showable] using hs) ⟨.str _, H, I.tok _, ⟨_, rfl⟩, by simpa only [PyData.shown] using q⟩
  | str x t => exact PySem.P.repr_of_str ⟨.str _, H, I.tok _, ⟨_, rfl⟩, by simpa only [PyData.shown] using q⟩ (by simpa only [PyData.shown] using hz)
  | list h1 h2 h3 h4 =>
    exact repr_of_reads' (.list h1 h2 h3 h4) hs (fun z => by rw [np] at z; cases z) hg (by omega) (fun _ _ e => e) (fun h' u tk kp => ⟨.str _, H, I.kept kp, ⟨u, rfl⟩, q⟩) hz
  | tuple h1 h2 h3 h4 =>
    exact repr_of_reads' (.tuple h1 h2 h3 h4) hs (fun z => by rw [np] at z; cases z) hg (by omega) (fun _ _ e => e) (fun h' u tk kp => ⟨.str _, H, I.kept kp, ⟨u, rfl⟩, q⟩) hz
  | dict => simp [PyData.hasDict] at np
end
end Rt
namespace Rt
open PySem PySem.Spec L2
open PyProof.Rows hiding St
/-! ### promises of defs that are called where no guard stands -/
structure FnG (P : Program) (w : World) (K : PySem.W.Frag) (mg : Str → Option Value) (base : Heap) (k : Nat) (f : Addr) (fd : FuncData) (ps : List Str) (sp : Sp) : Prop where
  many : ∀ vs H Q E, sp vs H Q E → vs.length = ps.length
  go : ∀ (A : Around), A.guards = some [] → Room k A → ∀ (outer : List Env) (s : Shared) (H : Hp) (args : Args) (us : List Value) (vs : List V) (Q : VK) (E : XK), Env0 P w K mg base A outer s H →
    BindsTo s fd args (ps.zip us) → Vals vs us → sp vs H Q E → codeAny (model P w) A (.call (.ref f) args) (CR CX0 outer P w H s Q E) s
section
variable {P : Program} {w : World} {K : PySem.W.Frag} {mg : Str → Option Value} {base : Heap}
theorem okG {x qual : Str} {st : Stmt} {f : Addr} {fd : FuncData} {N ps : List Str} {k : Nat} {sp : Sp} (F : Fun K x qual st f fd) (S : FnScope N ps (defScope st))
    (many : ∀ vs H Q E, sp vs H Q E → vs.length = ps.length)
    (body : ∀ (cdv : Value) (A : Around) (outer : List Env) (s : Shared) (H : Hp) (vs : List V) (Q : VK) (E : XK), A.guards = some [] →
      Room k (A.deeper (envOfC qual (defScope st) s.heap.objs.size f cdv)) → sp vs H Q E →
      ∃ t, PSs (cxOf CX0 P w K mg base N qual (defScope st) f cdv A outer s H E).nox (defBody st) t ∧ t { nx := fun _ H' => Q .non H', rt := Q } (start N vs) H) :
    FnG P w K mg base (k + 1) f fd ps sp := by
  obtain ⟨oc, od, kV, doc, pm, an, cdv, ct, osl, rfl, lk, hcd⟩ := F.ex
  refine ⟨many, ?_⟩
  intro A hg room outer s H args us vs Q E e0 bt rv want
  have size := many vs H Q E want
  have kin : K.In s.heap := e0.mod.kin.keeps fun b o e => (e0.bs b o e).1
  have noLim : s.heap.NoLimit := e0.mod.nolimit.keeps fun b o e => (e0.bs b o e).1
  refine codeAny_call_function room.depth (kin _ _ lk) rfl S.co S.gen rfl (PySem.W.codeRec_of kin hcd) (bt _ _ _ _ ?_)
  refine wpAny_newFunctionEnv_cells S.kind ?_ ?_
  · rintro ⟨nm, val⟩ mem
    exact (S.par nm (List.of_mem_zip mem).1).imp id fun c => ⟨c, PySem.W.cellsFrom_some _ _ _ (.inl c)⟩
  · rintro env rfl s1 entry
    refine ⟨noLim.keeps entry.toInCall.keep, codeAny_func ?_⟩
    obtain ⟨t, ht, now⟩ := body cdv A outer s H vs Q E hg (room.deeper _) want
    have J := inv_start (CX := CX0) (E := E) S room.hd e0 size rv entry
    refine wpAny_mono (ht.nox.run [] s1 (start N vs) H _ J now) (fun way s2 out => ?_) fun _ _ z => z
    cases way with
    | ret u =>
      obtain ⟨v, σ2, H2, J2, ru, q2⟩ := out
      exact ⟨v, H2, J2.os, J2.bare, J2.base, J2.hok, ru, q2⟩
    | next =>
      obtain ⟨σ2, H2, J2, q2⟩ := out
      exact ⟨V.non, H2, J2.os, J2.bare, J2.base, J2.hok, rfl, q2⟩
    | brk => exact out.elim fun _ z => z.elim fun _ y => y.2.elim
    | cont => exact out.elim fun _ z => z.elim fun _ y => y.2.elim
end
/-- a def of the module that may be called by its name -/
structure Cb (P : Program) (w : World) (K : PySem.W.Frag) (mg : Str → Option Value) (base : Heap) (k : Nat) (x : Str) (sp : Sp) : Prop where
  ex : ∃ (f : Addr) (fd : FuncData) (ps : List Str), FnG P w K mg base k f fd ps sp ∧ mg x = some (.ref f) ∧ PySem.W.keepIn K (.ref f) = true ∧ Binds K fd ps []
section
variable {X : Cx} {k j : Nat} {x : Str} {sp : Sp} {p pos : Pos} {e : Expr} {es : List Expr} {t : TA}
theorem pe_k (c : Cb X.prog X.w X.K X.mg X.base k x sp) (hg : X.A.guards = some []) (hr : Room j X.A) (hk : k ≤ j) (hx : Gl X x) (ha : PA X (e :: es) t)
    (hdb : (x == ("__debug__" : Str)) = false := by decide) (he : starEach (e :: es) X.env = (false, eval e X.env) :: starEach es X.env := by rfl)
    (hpl : (backTo pos (starEach es X.env)).any (·.1) = false := by rfl) : PE X (.Call (.Name x p) (e :: es) [] pos) (tCall sp [] E0 t) := by
  obtain ⟨f, fd, ps, G, hm, kp, bd⟩ := c.ex
  constructor
  intro pins s σ H Q I want
  refine wpAny_Call_Name_kw (ld_glob I hx hm ?_ hdb)
  refine PySem.W.callWith_K (h₀ := X.base) I.ok.mod.kin kp (thn (ha.run pos pins s σ H _ I want) ?_) he hpl
  rintro us s1 ⟨vs, H1, J, rv, q⟩
  refine ⟨J.kIn, ?_⟩
  have q' : sp vs H1 Q E0 := by simpa using q
  have size : us.length = ps.length := by
    rw [← rv.length]
    exact G.many _ _ _ _ q'
  have b1 : BindsTo s1 fd ⟨us, []⟩ (ps.zip us) := by
    have z := bd s1 us J.kIn (by simpa using size)
    simpa using z
  refine wpAny_call (codeAny_mono (G.go X.A hg (hr.mono hk) X.stack s1 H1 ⟨us, []⟩ us vs Q E0 J.env0 b1 rv q') ?_)
  intro r s2 out
  match r, out with
  | .error _, z => exact False.elim z
  | .ok (.ret u), z => exact J.after z
  | .ok .next, z => exact False.elim z
  | .ok .brk, z => exact False.elim z
  | .ok .cont, z => exact False.elim z
end
end Rt
namespace Rt
open PySem PySem.Spec L2
open PyProof.Rows hiding St
/-! ### the law's own call -/
abbrev isTrue1 (s₁ : Shared) : Result → Shared → Prop := fun r s' => r = .ok (.ret (.bool true)) ∧ OldK s₁.heap s'.heap ∧ s'.os = s₁.os ∧ AllBare s'.gens
/-- nothing but the script is tracked, at most -/
structure Bare (H : Hp) (h : Heap) (K : PySem.W.Frag) (a : Addr) : Prop where
  only : Only H
  here : ∀ b, H b ≠ none → b = a
  notK : H a ≠ none → K.lookup a = none
section
variable {P : Program} {w : World} {K : PySem.W.Frag} {mg mb : Str → Option Value} {k : Nat} {fa a : Addr} {fd : FuncData} {x : Str} {sp : Sp} {s₁ : Shared} {vs : List Value} {ns : List Int}
theorem bare_call {H : Hp} (B : Bare H s₁.heap K a) (ok : HOk P w H s₁.heap) (KX : K.In s₁.heap) (hns : s₁.heap.Ns mainGlobals mg) (hb : s₁.heap.Ns builtinsNs mb) (hbb : ∀ x : Str, x ≠ "__name__" → mb x = bootBuiltins x)
    (lim : s₁.heap.NoLimit) (gens : s₁.gens = #[]) (ha : s₁.heap.get? a = some { cls := .type "list", data := .seq vs.toArray }) (room : Room k callerA)
    (F : ∀ base : Heap, K.In base → base.Ns mainGlobals mg → FnG P w K mg base k fa fd [x] sp) (bind : ∀ (s : Shared) (u : Value), BindsTo s fd ⟨[u], []⟩ [(x, u)])
    (want : sp [.ref a] H (fun v _ => v = .bl true) E0) : codeAny (model P w) callerA (.call (.ref fa) ⟨[.ref a], []⟩) (isTrue1 s₁) s₁ := by
  -- an object that is no list is untracked
  have dictFree : ∀ {b : Addr} {o : Obj} {es : Array DictEntry} {ep : Nat}, s₁.heap.get? b = some o → o.data = .dict es ep → H b = none := by
    intro b o es ep hb hd
    by_cases z : H b = none
    · exact z
    · exfalso
      cases B.here b z
      rw [ha] at hb
      cases hb
      exact nomatch hd
  have kFree : ∀ {b : Addr} {o : Obj}, K.lookup b = some o → H b = none := by
    intro b o hb
    by_cases z : H b = none
    · exact z
    · exfalso
      cases B.here b z
      rw [B.notK z] at hb
      cases hb
  have names : ∀ {b : Addr} {m : Str → Option Value}, s₁.heap.Ns b m → (hidT s₁.heap H).Ns b m := by
    rintro b m ⟨o, es, ep, e, d, r⟩
    exact ⟨o, es, ep, hidT_get e (dictFree e d), d, r⟩
  have inBase : K.In (hidT s₁.heap H) := fun b o e => hidT_get (KX b o e) (kFree e)
  have noLim : (hidT s₁.heap H).NoLimit := by
    obtain ⟨mc, z1, z2⟩ := lim
    exact ⟨mc, names z1, z2⟩
  have e0 : Env0 P w K mg (hidT s₁.heap H) callerA [] s₁ H := by
    constructor
    · rfl
    · exact ⟨inBase, names hns, ⟨mb, names hb, hbb⟩, noLim⟩
    · exact fun b o e => of_hidT e
    · exact Nat.le_of_eq (hidT_size _ _)
    · exact True.intro
    · exact fun b hb => nomatch (show b ∈ ([] : List Addr) from hb)
    · exact ok
    · exact .of_eq gens
  have run := (F _ inBase (names hns)).go callerA rfl room [] s₁ H ⟨[.ref a], []⟩ [.ref a] [.ref a] _ _ e0 (bind s₁ (.ref a)) (.cons rfl .nil) want
  refine codeAny_mono run ?_
  intro r s2 out
  match r, out with
  | .error _, z => exact False.elim z
  | .ok .next, z => exact False.elim z
  | .ok .brk, z => exact False.elim z
  | .ok .cont, z => exact False.elim z
  | .ok (.ret u), ⟨v, H2, os, bare, un, ok2, ru, q⟩ =>
    obtain rfl : v = .bl true := q
    obtain rfl : u = Value.bool true := ru
    refine ⟨rfl, OldK.of_keep ?_, os, bare⟩
    intro b o e
    by_cases z : H b = none
    · exact un.keep b o e z (fun y => nomatch (show b ∈ ([] : List Addr) from y)) (fun y => nomatch (show b ∈ ([] : List Addr) from y))
    · rcases B.only b with y | ⟨ob, xs, y⟩
      · exact absurd y z
      · have e1 := (ok b _ y).1
        have e2 := (ok2 b _ (un.frzs b ob _ y)).1
        rw [e] at e1
        cases e1
        exact e2
theorem law_g (KX : K.In s₁.heap) (hns : s₁.heap.Ns mainGlobals mg) (hb : s₁.heap.Ns builtinsNs mb) (hbb : ∀ x : Str, x ≠ "__name__" → mb x = bootBuiltins x) (lim : s₁.heap.NoLimit) (gens : s₁.gens = #[])
    (ha : s₁.heap.get? a = some { cls := .type "list", data := .seq vs.toArray }) (nums : IntsAre vs ns) (fit : ns.length ≤ sizeLine) (room : Room k callerA)
    (F : ∀ base : Heap, K.In base → base.Ns mainGlobals mg → FnG P w K mg base k fa fd [x] sp) (bind : ∀ (s : Shared) (u : Value), BindsTo s fd ⟨[u], []⟩ [(x, u)])
    (want : ∀ H : Hp, Only H → SqL K H a (ns.map V.int) → sp [.ref a] H (fun v _ => v = .bl true) E0) :
    codeAny (model P w) callerA (.call (.ref fa) ⟨[.ref a], []⟩) (isTrue1 s₁) s₁ := by
  have rv := vals_ints nums
  have lv := nums.length
  rcases hk : K.lookup a with _ | o
  · -- the script is no object of the module's own
    let H : Hp := fun b => if b = a then some (.frz { cls := .type "list", data := .seq vs.toArray } (.lst (ns.map V.int))) else none
    have Ha : H a = some (.frz { cls := .type "list", data := .seq vs.toArray } (.lst (ns.map V.int))) := if_pos rfl
    have Hn : ∀ b, b ≠ a → H b = none := fun b z => if_neg z
    have only : Only H := fun b => by
      by_cases z : b = a
      · subst z
        exact .inr ⟨_, _, Ha⟩
      · exact .inl (Hn b z)
    have here : ∀ b, H b ≠ none → b = a := fun b z => by
      by_cases y : b = a
      · exact y
      · exact absurd (Hn b y) z
    have ok : HOk P w H s₁.heap := fun b u e => by
      by_cases y : b = a
      · subst y
        rw [Ha] at e
        cases e
        refine ⟨ha, ?_, vs, _, rv, ha⟩
        rw [List.length_map]
        exact fit
      · rw [Hn b y] at e
        cases e
    exact bare_call ⟨only, here, fun _ => hk⟩ ok KX hns hb hbb lim gens ha room F bind (want H only (.inl (.inr ⟨_, Ha⟩)))
  · have e := KX a o hk
    rw [ha] at e
    cases e
    have only : Only (fun _ => none) := fun _ => .inl rfl
    refine bare_call (H := fun _ => none) ⟨only, fun b z => absurd rfl z, fun z => absurd rfl z⟩ (fun b u e => nomatch e) KX hns hb hbb lim gens ha room F bind ?_
    refine want _ only (.inr ⟨_, vs.toArray, _, hk, rfl, rfl, rfl, ?_, by simpa using rv⟩)
    rw [List.size_toArray, lv]
    exact fit
theorem walk_g {l : PySem.W.OpenLaw} {n k : Nat} {q : Program} {loose : List Str} {XP : (Str → Option Value) → Heap → Prop} {YP : World → Heap → Prop} {d : DefRec} {K : Params → PySem.W.Frag} {sp : PySem.W.Frag → Sp} {x : Str}
    (hn : l.most = some n) (le : n ≤ sizeLine) (noDf : d.params.defaults = []) (room : Room k callerA) (hY : ∀ (w : World) (h : Heap), YP w h → (K w.params).In h)
    (F : ∀ (w : World) (mg : Str → Option Value) (fa : Addr) (h : Heap), (K w.params).In h → h.Ns mainGlobals mg → mg d.name = some (.ref fa) →
      ∃ fd : FuncData, (∀ (s : Shared) (u : Value), BindsTo s fd ⟨[u], []⟩ [(x, u)]) ∧
        ∀ base : Heap, (K w.params).In base → base.Ns mainGlobals mg → FnG l.prog w (K w.params) mg base k fa fd [x] (sp (K w.params)))
    (want : ∀ (K : PySem.W.Frag) (H : Hp) (a : Addr) (ns : List Int), ns.length ≤ n → SqL K H a (ns.map V.int) → sp K [.ref a] H (fun v _ => v = .bl true) E0) :
    PySem.W.WalkO q loose XP YP l.row.toRowW d [] (fun f vs => PySem.call f vs) := by
  refine Att.attach_call hn noDf ?_
  intro w s₀ s₁ mg mb fa o pm cd doc a vs ns G Y ho hd hcd hmg hobj nums few gens
  obtain ⟨fd, bind, each⟩ := F w mg fa _ (hY w _ Y) G.T.g hmg
  exact law_g (hY w _ Y) G.T.g G.T.b G.T.builtins G.T.nolimit gens hobj nums (Nat.le_trans few le) room each bind fun H _ hS => want _ H a ns few hS
end
end Rt
namespace Rt
open PySem PySem.Spec L2
open PyProof.Rows hiding St
/-! ### the defs as the top has left them -/
structure At (K : PySem.W.Frag) (mg : Str → Option Value) (x : Str) (st : Stmt) : Prop where
  ex : ∃ (f : Addr) (fd : FuncData), Fun K x x st f fd ∧ mg x = some (.ref f)
section
variable {P : Program} {w : World} {K : PySem.W.Frag} {mg : Str → Option Value} {base h : Heap} {x : Str} {st : Stmt}
theorem at_mk {f : Addr} {oc kV dc pm cd ct : Value} {od an : Option Addr} {sl : Array (Option Value)} (X : K.In h) (G : h.Ns mainGlobals mg) (a : PySem.W.nsIn K mainGlobals x = some (some (.ref f)))
    (l : K.lookup f = some ⟨oc, od, .func (PySem.W.fnOf x x (defArgs st) (defBody st) (defScope st) .none kV dc pm an cd ct), sl⟩) (c : PySem.W.codeIn K cd x = true) (k : PySem.W.keepIn K (.ref f) = true) : At K mg x st :=
  ⟨f, _, fun_mk l c k, PySem.W.mg_of X G a⟩
theorem At.cb {k : Nat} {ps : List Str} {sp : Sp} (A : At K mg x st) (ok : ∀ (f : Addr) (fd : FuncData), Fun K x x st f fd → FnG P w K mg base k f fd ps sp)
    (bd : ∀ (f : Addr) (fd : FuncData), Fun K x x st f fd → Binds K fd ps []) : Cb P w K mg base k x sp := by
  obtain ⟨f, fd, F, m⟩ := A.ex
  exact ⟨f, fd, ps, ok f fd F, m, F.kp, bd f fd F⟩
end
end Rt
namespace K05
open PySem PySem.Spec L2 Rt
open PyProof.Rows hiding St
def top (i : Nat) : Stmt := PySem.Challenge.pw_roundticks_k05_whole_rounding.main.body.getD i (.Pass ⟨0, 0, 0, 0⟩)
abbrev sSource : Stmt := top 8
abbrev sPick : Stmt := top 9
abbrev sOf : Stmt := top 10
/-! ### the source of numbers -/
theorem n_cl : ¬ (("cells" : Str) = "left") := by decide +kernel
theorem n_cm : ¬ (("cells" : Str) = "mixed") := by decide +kernel
theorem n_ct : ¬ (("cells" : Str) = "turn") := by decide +kernel
theorem n_lm : ¬ (("left" : Str) = "mixed") := by decide +kernel
theorem n_lt : ¬ (("left" : Str) = "turn") := by decide +kernel
theorem n_mt : ¬ (("mixed" : Str) = "turn") := by decide +kernel
def srcK (c : Addr) (l m t : Int) : List (Key × V) := [(Sum.inr "cells", .ref c), (Sum.inr "left", .int l), (Sum.inr "mixed", .int m), (Sum.inr "turn", .int t)]
theorem ne_inr {a b : Str} (h : ¬ a = b) : ¬ ((Sum.inr a : Key) = Sum.inr b) := fun e => h (Sum.inr.inj e)
theorem val_cells (c : Addr) (l m t : Int) : valV (srcK c l m t) (Sum.inr "cells") = some (.ref c) := valV_pos rfl
theorem val_left (c : Addr) (l m t : Int) : valV (srcK c l m t) (Sum.inr "left") = some (.int l) := by
  unfold srcK
  rw [valV_neg (ne_inr n_cl), valV_pos rfl]
theorem val_mixed (c : Addr) (l m t : Int) : valV (srcK c l m t) (Sum.inr "mixed") = some (.int m) := by
  unfold srcK
  rw [valV_neg (ne_inr n_cm), valV_neg (ne_inr n_lm), valV_pos rfl]
theorem val_turn (c : Addr) (l m t : Int) : valV (srcK c l m t) (Sum.inr "turn") = some (.int t) := by
  unfold srcK
  rw [valV_neg (ne_inr n_ct), valV_neg (ne_inr n_lt), valV_neg (ne_inr n_mt), valV_pos rfl]
theorem put_left (c : Addr) (l m t z : Int) : putK (srcK c l m t) (Sum.inr "left") (.int z) = srcK c z m t := by
  have h1 := ne_inr n_cl
  have h2 := ne_inr (fun e => n_lm e.symm)
  have h3 := ne_inr (fun e => n_lt e.symm)
  unfold putK srcK
  simp [h1, h2, h3]
theorem put_mixed (c : Addr) (l m t z : Int) : putK (srcK c l m t) (Sum.inr "mixed") (.int z) = srcK c l z t := by
  have h1 := ne_inr n_cm
  have h2 := ne_inr n_lm
  have h3 := ne_inr (fun e => n_mt e.symm)
  unfold putK srcK
  simp [h1, h2, h3]
theorem put_turn (c : Addr) (l m t z : Int) : putK (srcK c l m t) (Sum.inr "turn") (.int z) = srcK c l m z := by
  have h1 := ne_inr n_ct
  have h2 := ne_inr n_lt
  have h3 := ne_inr n_mt
  unfold putK srcK
  simp [h1, h2, h3]
section
variable {H : Hp} {d c : Addr} {l m t : Int}
theorem get_cells (h : H d = some (.dK (srcK c l m t))) : DGet H d (.str "cells") (some (.ref c)) := by
  have z := DGet.k (k := (Sum.inr "cells" : Key)) h
  rw [val_cells] at z
  exact z
theorem get_left (h : H d = some (.dK (srcK c l m t))) : DGet H d (.str "left") (some (.int l)) := by
  have z := DGet.k (k := (Sum.inr "left" : Key)) h
  rw [val_left] at z
  exact z
theorem get_mixed (h : H d = some (.dK (srcK c l m t))) : DGet H d (.str "mixed") (some (.int m)) := by
  have z := DGet.k (k := (Sum.inr "mixed" : Key)) h
  rw [val_mixed] at z
  exact z
theorem get_turn (h : H d = some (.dK (srcK c l m t))) : DGet H d (.str "turn") (some (.int t)) := by
  have z := DGet.k (k := (Sum.inr "turn" : Key)) h
  rw [val_turn] at z
  exact z
theorem few4 : (srcK c l m t).length < sizeLine := by show 4 < sizeLine; decide
theorem st_left (h : H d = some (.dK (srcK c l m t))) (z : Int) : DPut H d (.str "left") (.int z) (upd H d (.dK (srcK c z m t))) := by
  have q := DPut.k (k := (Sum.inr "left" : Key)) (v := .int z) h few4
  rw [put_left] at q
  exact q
theorem st_mixed (h : H d = some (.dK (srcK c l m t))) (z : Int) : DPut H d (.str "mixed") (.int z) (upd H d (.dK (srcK c l z t))) := by
  have q := DPut.k (k := (Sum.inr "mixed" : Key)) (v := .int z) h few4
  rw [put_mixed] at q
  exact q
theorem st_turn (h : H d = some (.dK (srcK c l m t))) (z : Int) : DPut H d (.str "turn") (.int z) (upd H d (.dK (srcK c l m z))) := by
  have q := DPut.k (k := (Sum.inr "turn" : Key)) (v := .int z) h few4
  rw [put_turn] at q
  exact q
end
/-- a source stands at d, its cells at c -/
structure Src (H : Hp) (d c : Addr) : Prop where
  ex : ∃ (ks : List Int) (l m t : Int), H d = some (.dK (srcK c l m t)) ∧ H c = some (.lst (ks.map V.int))
/-- all but the source stands as it was -/
def Keep (d c : Addr) (H H' : Hp) : Prop := ∀ b o, H b = some o → b ≠ d → b ≠ c → H' b = some o
theorem Keep.refl {d c : Addr} {H : Hp} : Keep d c H H := fun _ _ e _ _ => e
theorem Keep.trans {d c : Addr} {H H1 H2 : Hp} (a : Keep d c H H1) (b : Keep d c H1 H2) : Keep d c H H2 := fun x o e n1 n2 => b x o (a x o e n1 n2) n1 n2
theorem Keep.new {d c p : Addr} {o : HO} {H H1 : Hp} (a : Keep d c H H1) (n : H1 p = none) : Keep d c H (upd H1 p o) := fun x u e n1 n2 => by
  have z := a x u e n1 n2
  rw [upd_ne (ne_of_none z n)]
  exact z
theorem Keep.d {d c : Addr} {o : HO} {H H1 : Hp} (a : Keep d c H H1) : Keep d c H (upd H1 d o) := fun x u e n1 n2 => by
  rw [upd_ne n1]
  exact a x u e n1 n2
theorem Keep.c {d c : Addr} {o : HO} {H H1 : Hp} (a : Keep d c H H1) : Keep d c H (upd H1 c o) := fun x u e n1 n2 => by
  rw [upd_ne n2]
  exact a x u e n1 n2
theorem Src.new {d c p : Addr} {o : HO} {H : Hp} (S : Src H d c) (n : H p = none) : Src (upd H p o) d c := by
  obtain ⟨ks, l, m, t, h1, h2⟩ := S.ex
  exact ⟨ks, l, m, t, by rw [upd_ne (ne_of_none h1 n)]; exact h1, by rw [upd_ne (ne_of_none h2 n)]; exact h2⟩
theorem Src.nd {d c : Addr} {H : Hp} {b : Addr} {xs : List V} (S : Src H d c) (h : H b = some (.tup xs)) : b ≠ d ∧ b ≠ c := by
  obtain ⟨ks, l, m, t, h1, h2⟩ := S.ex
  exact ⟨ne_of h h1 (by intro z; cases z), ne_of h h2 (by intro z; cases z)⟩
theorem Keep.tup {d c : Addr} {H H1 : Hp} {b : Addr} {xs : List V} (a : Keep d c H H1) (S : Src H d c) (h : H b = some (.tup xs)) : H1 b = some (.tup xs) := a b _ h (S.nd h).1 (S.nd h).2
/-! ### the promises -/
def spSource (K : PySem.W.Frag) : Sp := fun vs H Q _ => ∃ (a : Addr) (ns : List Int), vs = [.ref a] ∧ SqL K H a (ns.map V.int) ∧ ns.length ≤ 63 ∧
  ∀ (d c : Addr) (H' : Hp), H d = none → H c = none → Src H' d c → Same H H' → Q (.ref d) H'
def spPick : Sp := fun vs H Q _ => ∃ (d c : Addr) (n : Int), vs = [.ref d, .int n] ∧ Src H d c ∧ n < 1000000000 ∧
  ∀ (r : Int) (H' : Hp), 0 ≤ r → r < n ∨ r = 0 → Src H' d c → Keep d c H H' → Q (.int r) H'
def spOf : Sp := fun vs H Q _ => ∃ (d c p : Addr) (xs : List V), vs = [.ref d, .ref p] ∧ Src H d c ∧ H p = some (.lst xs) ∧ p ≠ c ∧ 0 < xs.length ∧ xs.length < 1000000000 ∧
  ∀ (i : Nat) (v : V) (H' : Hp), xs[i]? = some v → Src H' d c → Keep d c H H' → Q v H'
section
variable {P : Program} {w : World} {K : PySem.W.Frag} {mg : Str → Option Value} {base : Heap}
theorem scPick : FnScope ["source", "many", "left", "mixed"] ["source", "many"] (defScope sPick) := ⟨rfl, rfl, rfl, by decide +kernel, rfl, by decide +kernel, by decide +kernel⟩
theorem ok_pick {f : Addr} {fd : FuncData} (F : Fun K "_law_pick" "_law_pick" sPick f fd) (mL : mg "len" = none) (mM : mg "max" = none) (mI : mg "int" = none) : FnG P w K mg base 1 f fd ["source", "many"] spPick := by
  refine okG F scPick (fun vs H Q E h => ?_) (fun cdv A outer s H vs Q E hg hr h => ?_)
  · obtain ⟨d, c, n, rfl, _⟩ := h
    rfl
  · obtain ⟨d, c, n, rfl, S, hn, k⟩ := h
    have hu := hu_of hr
    refine ⟨_, pss_cons (ps_while PassesOwn.never
        (PW.pt (pw_and (pt_cmpR op_gt (pv 1) pe_int (nomark _)) (pw_and (pt_cmpR op_lt (pe_dget hu (pv 0) pe_str (fun _ _ => rfl)) pe_int (nomark _))
          (pw_and1 (pt_cmpR op_gt (pe_callB call_len_seq (by rfl) mL PySem.boot_len (pa_cons (pe_dget hu (pv 0) pe_str (fun _ _ => rfl)) pa_nil)) pe_int (nomark _))))))
        (pss_one (ps_dput hu (pv 0) pe_str (pe_bm0 PySem.F.plainAttrs_list PySem.F.slot_list_pop PySem.F.type_list_pop mt_pop (pe_dget hu (pv 0) pe_str (fun _ _ => rfl))) rfl)))
      (pss_cons (ps_set (i := 2) scPick.nd rfl (.inl rfl) (pe_dget hu (pv 0) pe_str (fun _ _ => rfl)))
      (pss_cons (ps_if (PW.pt (pw_or (pt_cmpR op_lt (pv 1) pe_int (nomark _)) (pw_or1 (pt_cmpR op_gt (pv 2) pe_int (nomark _)))))
        (pss_cons (ps_dput hu (pv 0) pe_str (pe_op op_fdivW (pv 2) (pe_callB (call_max2 rfl) (by rfl) mM (by decide +kernel) (pa_cons pe_int (pa_cons (pv 1) pa_nil)))) rfl)
          (pss_one (ps_ret (pe_op op_mod (pe_callTy call_int1 (by rfl) mI (by decide +kernel) (pa_cons (pv 2) pa_nil)) (pe_callB (call_max2 rfl) (by rfl) mM (by decide +kernel) (pa_cons pe_int (pa_cons (pv 1) pa_nil)))))))
        pss_nil)
      (pss_cons (ps_dput hu (pv 0) pe_str (pe_op op_add (pe_dget hu (pv 0) pe_str (fun _ _ => rfl)) pe_int) rfl)
      (pss_cons (ps_set (i := 3) scPick.nd rfl (.inl rfl) (pe_op op_mod (pe_callTy call_int1 (by rfl) mI (by decide +kernel) (pa_cons (pe_op op_add (pe_dget hu (pv 0) pe_str (fun _ _ => rfl)) (pe_op op_mul (pe_dget hu (pv 0) pe_str (fun _ _ => rfl)) pe_int)) pa_nil)) pe_int))
      (pss_cons (ps_set (i := 3) scPick.nd rfl (.inl rfl) (pe_op op_mod (pe_callTy call_int1 (by rfl) mI (by decide +kernel) (pa_cons (pe_op op_add (pe_op op_mul (pv 3) (pv 3)) (pe_op op_mul (pe_dget hu (pv 0) pe_str (fun _ _ => rfl)) pe_int)) pa_nil)) pe_int))
      (pss_cons (ps_dput hu (pv 0) pe_str (pv 3) rfl)
      (pss_one (ps_ret (pe_op op_mod (pe_callTy call_int1 (by rfl) mI (by decide +kernel) (pa_cons (pe_op op_fdiv (pv 3) pe_int) pa_nil)) (pv 1)))))))))), ?_⟩
    obtain ⟨ks0, l0, m0, t0, e1, e2⟩ := S.ex
    have dc : d ≠ c := ne_of e1 e2 (by intro z; cases z)
    -- while many > 1 and source['left'] < 2 and len(source['cells']) > 0
    refine ⟨fun m σ H1 => ∃ (ks : List Int) (l mx t : Int), m = ks.length ∧ σ = [some (.ref d), some (.int n), none, none] ∧ Keep d c H H1 ∧ H1 d = some (.dK (srcK c l mx t)) ∧ H1 c = some (.lst (ks.map V.int)),
      ⟨_, ks0, l0, m0, t0, rfl, rfl, Keep.refl, e1, e2⟩, ?_⟩
    rintro m σ H1 ⟨ks, l, mx, t, rfl, rfl, kp, hd, hc⟩
    refine ⟨_, rfl, _, _, rfl, rfl, _, rfl, ?_⟩
    by_cases g : 1 < n ∧ l < 2 ∧ 0 < ks.length
    · obtain ⟨g1, g2, g3⟩ := g
      rw [decide_eq_true g1]
      refine iteT ?_
      refine ⟨_, rfl, d, _, rfl, get_left hd, _, _, rfl, rfl, _, rfl, ?_⟩
      rw [decide_eq_true g2]
      refine iteT ?_
      refine ⟨_, rfl, d, _, rfl, get_cells hd, c, _, rfl, .inl (.inl (.inl hc)), _, _, rfl, rfl, _, rfl, ?_⟩
      rw [decide_eq_true (show (0 : Int) < ((ks.map V.int).length : Int) by rw [List.length_map]; omega)]
      refine iteT ?_
      obtain ⟨z, hz⟩ : ∃ z, ks[ks.length - 1]? = some z := ⟨ks[ks.length - 1], List.getElem?_eq_getElem (by omega)⟩
      refine ⟨fun σ2 H2 => σ2 = [some (.ref d), some (.int n), none, none] ∧ Keep d c H H2 ∧ H2 d = some (.dK (srcK c z mx t)) ∧ H2 c = some (.lst (ks.dropLast.map V.int)), ?_, ?_⟩
      · rintro σ2 H2 ⟨rfl, k2, d2, c2⟩
        refine ⟨ks.dropLast.length, ?_, ks.dropLast, z, mx, t, rfl, rfl, k2, d2, c2⟩
        rw [List.length_dropLast]
        omega
      · -- source['left'] = source['cells'].pop()
        have cd : d ≠ c := dc
        have hd2 : (upd H1 c (.lst (ks.map V.int).dropLast)) d = some (.dK (srcK c l mx t)) := by rw [upd_ne cd]; exact hd
        refine ⟨_, rfl, d, _, rfl, get_cells hd, .inl ⟨rfl, _, .inl (.inl hc)⟩, c, _, .int z, rfl, rfl, hc, ?_, _, rfl, d, _, rfl, st_left hd2 z, ?_⟩
        · rw [List.length_map, List.getElem?_map, hz]
          rfl
        · refine ⟨rfl, (kp.c).d, upd_same, ?_⟩
          rw [upd_ne cd.symm, upd_same, List.map_dropLast]
    · have nolen : 1 < n → l < 2 → ¬ (0 : Int) < ((ks.map V.int).length : Int) := fun g1 g2 g3 => g ⟨g1, g2, by rw [List.length_map] at g3; omega⟩
      refine (fun (fin : (?T : Prop)) => ?main) ?after
      case main =>
        by_cases g1 : 1 < n
        · rw [decide_eq_true g1]
          refine iteT ?_
          refine ⟨_, rfl, d, _, rfl, get_left hd, _, _, rfl, rfl, _, rfl, ?_⟩
          by_cases g2 : l < 2
          · rw [decide_eq_true g2]
            refine iteT ?_
            refine ⟨_, rfl, d, _, rfl, get_cells hd, c, _, rfl, .inl (.inl (.inl hc)), _, _, rfl, rfl, _, rfl, ?_⟩
            rw [decide_eq_false (nolen g1 g2)]
            refine iteF ?_
            exact fin
          · rw [decide_eq_false g2]
            exact iteF (iteF fin)
        · rw [decide_eq_false g1]
          exact iteF (iteF fin)
      case after =>
        -- left = source['left']
        refine ⟨_, rfl, d, _, rfl, get_left hd, ?_⟩
        have mx1 : ∀ n : Int, 0 < (if n > 1 then n else (1 : Int)) := fun n => by split <;> omega
        have mx2 : n < 1000000000 → (if n > 1 then n else (1 : Int)).natAbs < 2 ^ 60 := fun z => by split <;> omega
        -- if many < 2 or left > 1
        refine ⟨_, rfl, _, _, rfl, rfl, _, rfl, ?_⟩
        by_cases g : n < 2 ∨ 1 < l
        · by_cases g1 : n < 2
          all_goals first
            | (rw [decide_eq_true (show n < 2 by assumption)]
               refine iteT (iteT ?_))
            | (rw [decide_eq_false (show ¬ n < 2 by assumption)]
               refine iteF ?_
               refine ⟨_, rfl, _, _, rfl, rfl, _, rfl, ?_⟩
               rw [decide_eq_true (g.resolve_left g1)]
               refine iteT ?_)
          all_goals
            -- source['left'] = left // max(1, many); return int(left) % max(1, many)
            refine ⟨_, rfl, _, rfl, _, _, rfl, _, _, rfl, rfl, wide_div (mx1 n) (mx2 hn) (by decide) (by decide), _, rfl, d, _, rfl, st_left hd _, ?_⟩
            refine ⟨_, rfl, .inl ⟨_, rfl, _, rfl, _, _, rfl, _, _, rfl, rfl, mx1 n, ?_⟩⟩
            refine k _ _ (Int.emod_nonneg _ (Int.ne_of_gt (mx1 n))) ?_ ⟨ks, _, mx, t, upd_same, ?_⟩ kp.d
            · have z := Int.emod_lt_of_pos l (mx1 n)
              have z0 := Int.emod_nonneg l (Int.ne_of_gt (mx1 n))
              by_cases y : n > 1
              · rw [if_pos y] at z z0 ⊢
                exact .inl z
              · rw [if_neg y] at z z0 ⊢
                right
                omega
            · rw [upd_ne dc.symm]
              exact hc
        · rw [decide_eq_false (fun z => g (.inl z))]
          refine iteF ?_
          refine ⟨_, rfl, _, _, rfl, rfl, _, rfl, ?_⟩
          rw [decide_eq_false (fun z => g (.inr z))]
          refine iteF ?_
          have g1 : ¬ n < 2 := fun z => g (.inl z)
          -- source['turn'] = source['turn'] + 1
          refine ⟨_, rfl, d, _, rfl, get_turn hd, _, _, rfl, rfl, _, rfl, d, _, rfl, st_turn hd (t + 1), ?_⟩
          have hd2 : (upd H1 d (.dK (srcK c l mx (t + 1)))) d = some (.dK (srcK c l mx (t + 1))) := upd_same
          -- mixed = int(source['mixed'] + source['turn'] * 104729) % 998244353
          refine ⟨_, rfl, d, _, rfl, get_mixed hd2, _, rfl, d, _, rfl, get_turn hd2, _, _, rfl, rfl, .inr ⟨by decide, by decide⟩, _, _, rfl, rfl, .inl ⟨_, rfl, _, _, rfl, rfl, (by show (0 : Int) < 998244353; decide), ?_⟩⟩
          have b1 : 0 ≤ (mx + (t + 1) * 104729) % 998244353 := Int.emod_nonneg _ (by decide)
          have b2 : (mx + (t + 1) * 104729) % 998244353 < 998244353 := Int.emod_lt_of_pos _ (by decide)
          generalize (mx + (t + 1) * 104729) % 998244353 = y at b1 b2 ⊢
          -- mixed = int(mixed * mixed + source['turn'] * 17) % 2147483647
          refine ⟨_, rfl, _, rfl, _, _, rfl, rfl, .inl ⟨by omega, by omega⟩, _, rfl, d, _, rfl, get_turn hd2, _, _, rfl, rfl, .inr ⟨by decide, by decide⟩, _, _, rfl, rfl, .inl ⟨_, rfl, _, _, rfl, rfl, (by show (0 : Int) < 2147483647; decide), ?_⟩⟩
          -- source['mixed'] = mixed; return int(mixed // 16) % many
          refine ⟨_, rfl, _, rfl, d, _, rfl, st_mixed hd2 _, ?_⟩
          refine ⟨_, rfl, _, _, rfl, rfl, ⟨by decide, by decide⟩, .inl ⟨_, rfl, _, rfl, _, _, rfl, rfl, (by show (0 : Int) < n; omega), ?_⟩⟩
          refine k _ _ (Int.emod_nonneg _ (by omega)) (.inl (Int.emod_lt_of_pos _ (by omega))) ⟨ks, l, _, t + 1, upd_same, ?_⟩ (kp.d).d
          rw [upd_ne dc.symm, upd_ne dc.symm]
          exact hc
theorem scOf : FnScope ["source", "some"] ["source", "some"] (defScope sOf) := ⟨rfl, rfl, rfl, by decide +kernel, rfl, by decide +kernel, by decide +kernel⟩
theorem ok_of {f : Addr} {fd : FuncData} (F : Fun K "_law_of" "_law_of" sOf f fd) (mL : mg "len" = none) (CP : Cb P w K mg base 1 "_law_pick" spPick) : FnG P w K mg base 2 f fd ["source", "some"] spOf := by
  refine okG F scOf (fun vs H Q E h => ?_) (fun cdv A outer s H vs Q E hg hr h => ?_)
  · obtain ⟨d, c, p, xs, rfl, _⟩ := h
    rfl
  · obtain ⟨d, c, p, xs, rfl, S, hp, pc, h0, hl, k⟩ := h
    refine ⟨_, pss_one (ps_ret (pe_ix ix_list (pv 1) (pe_k CP hg hr (by decide) (by rfl) (pa_cons (pv 0) (pa_cons (pe_callB call_len_seq (by rfl) mL PySem.boot_len (pa_cons (pv 1) pa_nil)) pa_nil))) (fun _ _ => rfl))), ?_⟩
    refine ⟨_, rfl, _, rfl, _, rfl, p, _, rfl, .inl (.inl (.inl hp)), d, c, _, rfl, S, (by omega), ?_⟩
    intro r H1 r0 r1 S1 kp
    have rn : r < xs.length := by omega
    obtain ⟨j, ej⟩ : ∃ j : Nat, r = (j : Int) := ⟨r.toNat, by omega⟩
    have hj : j < xs.length := by omega
    have pd : p ≠ d := by
      obtain ⟨ks, l, m, t, q1, q2⟩ := S.ex
      exact ne_of hp q1 (by intro z; cases z)
    refine ⟨p, xs, r, xs[j], rfl, rfl, .inl (.inl (kp p _ hp pd pc)), at_of (j := j) ej (List.getElem?_eq_getElem hj), ?_⟩
    exact k j xs[j] H1 (List.getElem?_eq_getElem hj) S1 kp
end
end K05
namespace K05
open PySem PySem.Spec L2 Rt
open PyProof.Rows hiding St
theorem merge_src (c : Addr) (l m t : Int) : mergeK [] (srcK c l m t) = srcK c l m t := by
  have h1 := ne_inr n_cl
  have h2 := ne_inr n_cm
  have h3 := ne_inr n_ct
  have h4 := ne_inr n_lm
  have h5 := ne_inr n_lt
  have h6 := ne_inr n_mt
  unfold mergeK srcK putK
  simp [h1, h2, h3, h4, h5, h6]
/-- an item of a list of ints -/
theorem int_at {ns : List Int} {i : Nat} {y : V} (h : (ns.map V.int)[i]? = some y) : ∃ z, ns[i]? = some z ∧ y = V.int z := by
  rw [List.getElem?_map] at h
  cases e : ns[i]? with
  | none => rw [e] at h; cases h
  | some z => rw [e] at h; exact ⟨z, rfl, (Option.some.inj h).symm⟩
theorem same_new {H : Hp} {p : Addr} {o : HO} (n : H p = none) : Same H (upd H p o) := fun b u e => by
  rw [upd_ne (ne_of_none e n)]
  exact e
section
variable {P : Program} {w : World} {K : PySem.W.Frag} {mg : Str → Option Value} {base : Heap}
theorem scSource : FnScope ["script", "mixed", "cell"] ["script"] (defScope sSource) := ⟨rfl, rfl, rfl, by decide +kernel, rfl, by decide +kernel, by decide +kernel⟩
theorem ok_source {f : Addr} {fd : FuncData} (F : Fun K "_law_source" "_law_source" sSource f fd) (mA : mg "abs" = none) (mI : mg "int" = none) : FnG P w K mg base 1 f fd ["script"] (spSource K) := by
  refine okG F scSource (fun vs H Q E h => ?_) (fun cdv A outer s H vs Q E hg hr h => ?_)
  · obtain ⟨a, ns, rfl, _⟩ := h
    rfl
  · obtain ⟨a, ns, rfl, hS, hl, k⟩ := h
    refine ⟨_, pss_cons (ps_set (i := 1) scSource.nd rfl (.inl rfl) pe_int)
      (pss_cons (ps_for PassesOwn.never rfl (pi_list (pv 0)) (pg_name (i := 2) scSource.nd rfl (.inl rfl))
        (pss_one (ps_set (i := 1) scSource.nd rfl (.inl rfl) (pe_op op_mod (pe_callTy call_int1 (by rfl) mI (by decide +kernel)
          (pa_cons (pe_op op_add (pe_op op_add (pe_op op_mul (pv 1) pe_int) (pe_op op_mul (pv 2) pe_int)) pe_int) pa_nil)) pe_int))))
      (pss_one (ps_ret (pe_disp (pps_cons pe_str (pe_revL (pe_lc (own := [("cell", 2)]) (g := gName 2) (tt := tYes) rfl scSource.nd (pi_list (pv 0))
          (blkOk_by (N := ["script", "mixed", "cell"]) (sc := defScope sSource) (by decide +kernel)) (fun _ _ _ _ _ => pg_name (i := 2) scSource.nd rfl (Or.inl rfl)) (fun _ _ _ _ _ => pts_nil)
          (fun _ _ _ _ _ => pe_callB call_abs (by rfl) mA (by decide +kernel) (pa_cons (pv 2) pa_nil))))
        (pps_cons pe_str pe_int (pps_cons pe_str (pv 1) (pps_cons pe_str pe_int pps_nil)))) (by rfl) (by rfl) (fun z => by cases z) (by decide))))), ?_⟩
    refine ⟨_, rfl, a, rfl, ⟨_, hS⟩, for_list (K := K) (a := a) (xs := ns.map V.int) (fun i σ H2 => ∃ (m : Int) (v : Option V), σ = [some (.ref a), some (.int m), v] ∧ H2 = H)
      ⟨11, none, rfl, rfl⟩ (fun i σ H2 _ ⟨_, _, _, e⟩ => by rw [e]; exact hS) ?_ ?_⟩
    · rintro i y σ H2 hi ⟨m, v, rfl, rfl⟩
      obtain ⟨z, hz, rfl⟩ := int_at hi
      refine ⟨_, rfl, _, _, rfl, rfl, .inr ⟨by decide, by decide⟩, _, rfl, _, _, rfl, rfl, .inr ⟨by decide, by decide⟩, _, _, rfl, rfl, _, _, rfl, rfl, .inl ⟨_, rfl, _, _, rfl, rfl, (by show (0 : Int) < 2147483629; decide), ?_⟩⟩
      exact ⟨_, _, rfl, rfl⟩
    · rintro σ H2 ⟨m, v, rfl, rfl⟩
      intro p np
      have s1 := same_new (o := .dK []) np
      refine ⟨_, rfl, a, rfl, ⟨_, s1.seq hS⟩, fun D nD => ?_⟩
      have s2 := s1.trans (same_new (o := .lst []) nD)
      have npD : p ≠ D := ne_of_none upd_same nD
      refine lc_list (K := K) (a := a) (xs := ns.map V.int) (fun i H3 => Same H2 H3 ∧ H3 p = some (.dK []) ∧ ∃ ks : List Int, ks.length = i ∧ H3 D = some (.lst (ks.map V.int)))
        ⟨s2, by rw [upd_ne npD]; exact upd_same, [], rfl, upd_same⟩ (fun i H3 _ ⟨s3, _⟩ => s3.seq hS) ?_ ?_
      · rintro i y H3 hi ⟨s3, hp, ks, rfl, hD⟩
        obtain ⟨z, hz, rfl⟩ := int_at hi
        have il : ks.length < ns.length := (List.getElem?_eq_some_iff.mp hz).1
        refine ⟨rfl, _, rfl, _, rfl, _, hD, ?_, ?_⟩
        · rw [List.length_map]
          exact small1000 (by omega)
        · have nD2 : H2 D = none := s1.free nD
          refine ⟨fun b o e => by rw [upd_ne (ne_of_none e nD2)]; exact s3 b o e, by rw [upd_ne npD]; exact hp, ks ++ [if z < 0 then -z else z], by simp, ?_⟩
          rw [upd_same, List.map_append]
          rfl
      · rintro H3 ⟨s3, hp, ks, ek, hD⟩
        refine ⟨D, _, rfl, .inl (.inl hD), fun c nc => ?_⟩
        refine ⟨_, rfl, ?_, srcK c 1 m 0, rfl, (by show 4 ≤ 15; decide), ?_⟩
        · rw [upd_ne (ne_of_none hp nc)]
          exact hp
        · rw [merge_src]
          have pc : p ≠ c := ne_of_none hp nc
          refine k p c _ np (s3.free nc) ⟨ks.reverse, 1, m, 0, upd_same, ?_⟩ fun b o e => ?_
          · rw [upd_ne pc.symm, upd_same, List.map_reverse]
          · have z := s3 b o e
            rw [upd_ne (ne_of_none e np), upd_ne (ne_of_none z nc)]
            exact z
end
end K05
namespace K05
open PySem PySem.Spec L2 Rt
open PyProof.Rows hiding St
abbrev sIsInt : Stmt := top 1
abbrev sUp : Stmt := top 3
abbrev sDown : Stmt := top 4
abbrev sOn : Stmt := top 5
abbrev sAlike : Stmt := top 6
abbrev sOdd : Stmt := top 11
abbrev sClock : Stmt := top 12
abbrev sLInt : Stmt := top 13
abbrev sLOn : Stmt := top 14
abbrev sLAlike : Stmt := top 15
/-! ### values of all kinds -/
def kindOf : HO → Option String
  | .lst _ => some "list"
  | .tup _ => some "tuple"
  | .dK _ => some "dict"
  | _ => none
def Od (H : Hp) : V → Prop
  | .ref t => ∃ o T, H t = some o ∧ kindOf o = some T
  | .ty _ => False
  | .byt _ => False
  | .flt _ => False
  | _ => True
def isI : V → Bool
  | .int _ => true
  | _ => false
theorem od_type {K : PySem.W.Frag} {H : Hp} {v : V} (h : Od H v) : ∃ T b1 b2, TyX K H v (.type T) ∧ kitB T "int" = some b1 ∧ kitB T "bool" = some b2 ∧ (b1 && !b2) = isI v := by
  cases v with
  | non => exact ⟨_, false, false, .base .non, by decide +kernel, by decide +kernel, rfl⟩
  | bl b => exact ⟨_, true, true, .base (.bl b), by decide +kernel, by decide +kernel, rfl⟩
  | int i => exact ⟨_, true, false, .base (.int i), by decide +kernel, by decide +kernel, rfl⟩
  | str x => exact ⟨_, false, false, .base (.str x), by decide +kernel, by decide +kernel, rfl⟩
  | byt b => exact h.elim
  | flt b => exact h.elim
  | ty n => exact h.elim
  | ref t =>
    obtain ⟨o, T, e, k⟩ := h
    cases o with
    | lst xs => exact ⟨_, false, false, .base (.lst e), by decide +kernel, by decide +kernel, rfl⟩
    | tup xs => exact ⟨_, false, false, .base (.tup e), by decide +kernel, by decide +kernel, rfl⟩
    | dK kvs => exact ⟨_, false, false, .base (.dK e), by decide +kernel, by decide +kernel, rfl⟩
    | _ => cases k
def onB (f s : Int) : V → Bool
  | .int i => decide ((i - f) % s = 0)
  | _ => false
theorem dec_V (i j : Int) : decide (V.int i = V.int j) = decide (i = j) := by
  by_cases h : i = j
  · subst h
    simp
  · rw [decide_eq_false h]
    exact decide_eq_false fun z => h (V.int.inj z)
/-! ### promises -/
def spIsInt : Sp := fun vs H Q _ => ∃ v, vs = [v] ∧ Od H v ∧ Q (.bl (isI v)) H
def spUp : Sp := fun vs H Q _ => ∃ (t : Addr) (f s x : Int), vs = [.ref t, .int x] ∧ H t = some (.tup [.int f, .int s]) ∧ 0 < s ∧ Q (.int (x + (f - x) % s)) H
def spDown : Sp := fun vs H Q _ => ∃ (t : Addr) (f s x : Int), vs = [.ref t, .int x] ∧ H t = some (.tup [.int f, .int s]) ∧ 0 < s ∧ Q (.int (x - (x - f) % s)) H
def spOn : Sp := fun vs H Q _ => ∃ (t : Addr) (f s : Int) (v : V), vs = [.ref t, v] ∧ H t = some (.tup [.int f, .int s]) ∧ 0 < s ∧ Od H v ∧ Q (.bl (onB f s v)) H
def spAlike : Sp := fun vs H Q _ => ∃ (a b : Addr) (f s g r : Int), vs = [.ref a, .ref b] ∧ H a = some (.tup [.int f, .int s]) ∧ H b = some (.tup [.int g, .int r]) ∧ (s = r → 0 < s) ∧
  Q (.bl (decide (s = r) && decide ((g - f) % s = 0))) H
def spOdd : Sp := fun vs H Q _ => ∃ (d c : Addr), vs = [.ref d] ∧ Src H d c ∧
  ∀ (v : V) (H' : Hp), Od H' v → (∀ t, v = .ref t → t ≠ d ∧ t ≠ c) → Src H' d c → Keep d c H H' → Q v H'
def spClock : Sp := fun vs H Q _ => ∃ (d c p : Addr) (ss : List Int), vs = [.ref d, .ref p] ∧ Src H d c ∧ H p = some (.lst (ss.map V.int)) ∧ p ≠ c ∧ 0 < ss.length ∧ ss.length < 100 ∧
  ∀ (t : Addr) (f s : Int) (H' : Hp), H' t = some (.tup [.int f, .int s]) → s ∈ ss → f.natAbs < 10 ^ 31 → Src H' d c → Keep d c H H' → Q (.ref t) H'
def spLAlike : Sp := fun vs H Q _ => ∃ (d c t : Addr) (f s : Int), vs = [.ref d, .ref t] ∧ Src H d c ∧ H t = some (.tup [.int f, .int s]) ∧ -(2 ^ 64) < s ∧ s < 2 ^ 64 ∧
  ∀ (u : Addr) (g : Int) (H' : Hp), H' u = some (.tup [.int g, .int s]) → Src H' d c → Keep d c H H' → Q (.ref u) H'
theorem at0 {x y : V} : atI [x, y] 0 = some x := rfl
theorem at1 {x y : V} : atI [x, y] 1 = some y := rfl
section
variable {P : Program} {w : World} {K : PySem.W.Frag} {mg : Str → Option Value} {base : Heap}
theorem scIsInt : FnScope ["value"] ["value"] (defScope sIsInt) := ⟨rfl, rfl, rfl, by decide +kernel, rfl, by decide +kernel, by decide +kernel⟩
theorem ok_isInt {f : Addr} {fd : FuncData} (F : Fun K "is_integer" "is_integer" sIsInt f fd) (mS : mg "isinstance" = none) (mI : mg "int" = none) (mB : mg "bool" = none) : FnG P w K mg base 1 f fd ["value"] spIsInt := by
  refine okG F scIsInt (fun vs H Q E h => ?_) (fun cdv A outer s H vs Q E hg hr h => ?_)
  · obtain ⟨v, rfl, _⟩ := h
    rfl
  · obtain ⟨v, rfl, ho, k⟩ := h
    obtain ⟨T, b1, b2, ty, k1, k2, e⟩ := od_type (K := K) ho
    refine ⟨_, pss_one (ps_ret (pe_and (pe_callB call_isi (by rfl) mS (by decide +kernel) (pa_cons (pv 0) (pa_cons (pe_bltn (v := .ty "int") (by rfl) mI (by decide +kernel) rfl) pa_nil)))
      (pe_one (pe_not (pe_callB call_isi (by rfl) mS (by decide +kernel) (pa_cons (pv 0) (pa_cons (pe_bltn (v := .ty "bool") (by rfl) mB (by decide +kernel) rfl) pa_nil))))))), ?_⟩
    refine ⟨_, rfl, v, .ty "int", _, .type "int", b1, rfl, .ty _, ty, kit_ty k1, b1, rfl, ?_⟩
    cases b1 with
    | true =>
      refine iteT ?_
      refine ⟨_, rfl, v, .ty "bool", _, .type "bool", b2, rfl, .ty _, ty, kit_ty k2, b2, rfl, ?_⟩
      rw [show (!b2) = isI v from by simpa using e]
      exact k
    | false =>
      refine iteF ?_
      rw [show false = isI v from by simpa using e]
      exact k
theorem scLInt : FnScope ["value"] ["value"] (defScope sLInt) := ⟨rfl, rfl, rfl, by decide +kernel, rfl, by decide +kernel, by decide +kernel⟩
theorem ok_lInt {f : Addr} {fd : FuncData} (F : Fun K "_law_is_integer" "_law_is_integer" sLInt f fd) (mS : mg "isinstance" = none) (mI : mg "int" = none) (mB : mg "bool" = none) : FnG P w K mg base 1 f fd ["value"] spIsInt := by
  refine okG F scLInt (fun vs H Q E h => ?_) (fun cdv A outer s H vs Q E hg hr h => ?_)
  · obtain ⟨v, rfl, _⟩ := h
    rfl
  · obtain ⟨v, rfl, ho, k⟩ := h
    obtain ⟨T, b1, b2, ty, k1, k2, e⟩ := od_type (K := K) ho
    refine ⟨_, pss_one (ps_ret (pe_and (pe_callB call_isi (by rfl) mS (by decide +kernel) (pa_cons (pv 0) (pa_cons (pe_bltn (v := .ty "int") (by rfl) mI (by decide +kernel) rfl) pa_nil)))
      (pe_one (pe_not (pe_callB call_isi (by rfl) mS (by decide +kernel) (pa_cons (pv 0) (pa_cons (pe_bltn (v := .ty "bool") (by rfl) mB (by decide +kernel) rfl) pa_nil))))))), ?_⟩
    refine ⟨_, rfl, v, .ty "int", _, .type "int", b1, rfl, .ty _, ty, kit_ty k1, b1, rfl, ?_⟩
    cases b1 with
    | true =>
      refine iteT ?_
      refine ⟨_, rfl, v, .ty "bool", _, .type "bool", b2, rfl, .ty _, ty, kit_ty k2, b2, rfl, ?_⟩
      rw [show (!b2) = isI v from by simpa using e]
      exact k
    | false =>
      refine iteF ?_
      rw [show false = isI v from by simpa using e]
      exact k
theorem scUp : FnScope ["clock", "x", "first", "step"] ["clock", "x"] (defScope sUp) := ⟨rfl, rfl, rfl, by decide +kernel, rfl, by decide +kernel, by decide +kernel⟩
theorem ok_up {f : Addr} {fd : FuncData} (F : Fun K "up" "up" sUp f fd) : FnG P w K mg base 1 f fd ["clock", "x"] spUp := by
  refine okG F scUp (fun vs H Q E h => ?_) (fun cdv A outer s H vs Q E hg hr h => ?_)
  · obtain ⟨t, f, s, x, rfl, _⟩ := h
    rfl
  · obtain ⟨t, f, s, x, rfl, ht, hs, k⟩ := h
    refine ⟨_, pss_cons (ps_asg (pv 0) (pg_tup (by rfl) (pgs_cons (pg_name (i := 2) scUp.nd rfl (.inl rfl)) (pgs_cons (pg_name (i := 3) scUp.nd rfl (.inl rfl)) pgs_nil))))
      (pss_one (ps_ret (pe_op op_add (pv 1) (pe_op op_mod (pe_op op_sub (pv 2) (pv 1)) (pv 3))))), ?_⟩
    refine ⟨_, rfl, t, _, rfl, SqT.of ht, rfl, _, _, rfl, _, _, rfl, rfl, ?_⟩
    exact ⟨_, rfl, _, rfl, _, rfl, _, _, rfl, rfl, _, rfl, _, _, rfl, rfl, hs, _, _, rfl, rfl, k⟩
theorem scDown : FnScope ["clock", "x", "first", "step"] ["clock", "x"] (defScope sDown) := ⟨rfl, rfl, rfl, by decide +kernel, rfl, by decide +kernel, by decide +kernel⟩
theorem ok_down {f : Addr} {fd : FuncData} (F : Fun K "down" "down" sDown f fd) : FnG P w K mg base 1 f fd ["clock", "x"] spDown := by
  refine okG F scDown (fun vs H Q E h => ?_) (fun cdv A outer s H vs Q E hg hr h => ?_)
  · obtain ⟨t, f, s, x, rfl, _⟩ := h
    rfl
  · obtain ⟨t, f, s, x, rfl, ht, hs, k⟩ := h
    refine ⟨_, pss_cons (ps_asg (pv 0) (pg_tup (by rfl) (pgs_cons (pg_name (i := 2) scDown.nd rfl (.inl rfl)) (pgs_cons (pg_name (i := 3) scDown.nd rfl (.inl rfl)) pgs_nil))))
      (pss_one (ps_ret (pe_op op_sub (pv 1) (pe_op op_mod (pe_op op_sub (pv 1) (pv 2)) (pv 3))))), ?_⟩
    refine ⟨_, rfl, t, _, rfl, SqT.of ht, rfl, _, _, rfl, _, _, rfl, rfl, ?_⟩
    exact ⟨_, rfl, _, rfl, _, rfl, _, _, rfl, rfl, _, rfl, _, _, rfl, rfl, hs, _, _, rfl, rfl, k⟩
theorem scOn : FnScope ["clock", "value", "first", "step"] ["clock", "value"] (defScope sOn) := ⟨rfl, rfl, rfl, by decide +kernel, rfl, by decide +kernel, by decide +kernel⟩
theorem ok_on {f : Addr} {fd : FuncData} (F : Fun K "is_on" "is_on" sOn f fd) (CI : Cb P w K mg base 1 "is_integer" spIsInt) : FnG P w K mg base 2 f fd ["clock", "value"] spOn := by
  refine okG F scOn (fun vs H Q E h => ?_) (fun cdv A outer s H vs Q E hg hr h => ?_)
  · obtain ⟨t, f, s, v, rfl, _⟩ := h
    rfl
  · obtain ⟨t, f, s, v, rfl, ht, hs, ho, k⟩ := h
    refine ⟨_, pss_cons (ps_asg (pv 0) (pg_tup (by rfl) (pgs_cons (pg_name (i := 2) scOn.nd rfl (.inl rfl)) (pgs_cons (pg_name (i := 3) scOn.nd rfl (.inl rfl)) pgs_nil))))
      (pss_one (ps_ret (pe_and (pe_k CI hg hr (by decide) (by rfl) (pa_cons (pv 1) pa_nil))
        (pe_one (pe_cmpR op_eq (pe_op op_mod (pe_op op_sub (pv 1) (pv 2)) (pv 3)) pe_int (nomark _)))))), ?_⟩
    refine ⟨_, rfl, t, _, rfl, SqT.of ht, rfl, _, _, rfl, _, _, rfl, rfl, ?_⟩
    refine ⟨_, rfl, v, rfl, ho, _, rfl, ?_⟩
    cases v with
    | int i =>
      refine iteT ?_
      refine ⟨_, rfl, _, rfl, _, _, rfl, rfl, _, rfl, _, _, rfl, rfl, hs, rfl, ?_⟩
      rw [dec_V]
      exact k
    | _ => exact iteF k
theorem scLOn : FnScope ["clock", "value"] ["clock", "value"] (defScope sLOn) := ⟨rfl, rfl, rfl, by decide +kernel, rfl, by decide +kernel, by decide +kernel⟩
theorem ok_lOn {f : Addr} {fd : FuncData} (F : Fun K "_law_is_on" "_law_is_on" sLOn f fd) (mI : mg "int" = none) (CI : Cb P w K mg base 1 "_law_is_integer" spIsInt) : FnG P w K mg base 2 f fd ["clock", "value"] spOn := by
  refine okG F scLOn (fun vs H Q E h => ?_) (fun cdv A outer s H vs Q E hg hr h => ?_)
  · obtain ⟨t, f, s, v, rfl, _⟩ := h
    rfl
  · obtain ⟨t, f, s, v, rfl, ht, hs, ho, k⟩ := h
    refine ⟨_, pss_one (ps_ret (pe_and (pe_k CI hg hr (by decide) (by rfl) (pa_cons (pv 1) pa_nil))
        (pe_one (pe_cmpR op_eq (pe_op op_mod (pe_callTy call_int1 (by rfl) mI (by decide +kernel) (pa_cons (pe_op op_sub (pv 1) (pe_ix ix_tup (pv 0) pe_int (fun _ _ => rfl))) pa_nil)) (pe_ix ix_tup (pv 0) pe_int (fun _ _ => rfl))) pe_int (nomark _))))), ?_⟩
    refine ⟨_, rfl, v, rfl, ho, _, rfl, ?_⟩
    cases v with
    | int i =>
      refine iteT ?_
      refine ⟨_, rfl, _, rfl, t, _, _, _, rfl, rfl, SqT.of ht, at0, _, _, rfl, rfl, .inl ⟨_, rfl, _, rfl, t, _, _, _, rfl, rfl, SqT.of ht, at1, _, _, rfl, rfl, hs, rfl, ?_⟩⟩
      rw [dec_V]
      exact k
    | _ => exact iteF k
theorem scAlike : FnScope ["one", "other"] ["one", "other"] (defScope sAlike) := ⟨rfl, rfl, rfl, by decide +kernel, rfl, by decide +kernel, by decide +kernel⟩
theorem ok_alike {f : Addr} {fd : FuncData} (F : Fun K "are_alike_clocks" "are_alike_clocks" sAlike f fd) (CO : Cb P w K mg base 2 "is_on" spOn) : FnG P w K mg base 3 f fd ["one", "other"] spAlike := by
  refine okG F scAlike (fun vs H Q E h => ?_) (fun cdv A outer s H vs Q E hg hr h => ?_)
  · obtain ⟨a, b, f, s, g, r, rfl, _⟩ := h
    rfl
  · obtain ⟨a, b, f, s, g, r, rfl, ha, hb, hs, k⟩ := h
    refine ⟨_, pss_one (ps_ret (pe_and (pe_cmpR op_eq (pe_ix ix_tup (pv 0) pe_int (fun _ _ => rfl)) (pe_ix ix_tup (pv 1) pe_int (fun _ _ => rfl)) (nomark _))
      (pe_one (pe_k CO hg hr (by decide) (by rfl) (pa_cons (pv 0) (pa_cons (pe_ix ix_tup (pv 1) pe_int (fun _ _ => rfl)) pa_nil)))))), ?_⟩
    refine ⟨_, rfl, a, _, _, _, rfl, rfl, SqT.of ha, at1, _, rfl, b, _, _, _, rfl, rfl, SqT.of hb, at1, rfl, _, rfl, ?_⟩
    rw [dec_V]
    by_cases e : s = r
    · rw [decide_eq_true e] at k ⊢
      refine iteT ?_
      exact ⟨_, rfl, _, rfl, b, _, _, _, rfl, rfl, SqT.of hb, at0, a, f, s, _, rfl, ha, hs e, True.intro, k⟩
    · rw [decide_eq_false e] at k ⊢
      exact iteF k
end
end K05
namespace K05
open PySem PySem.Spec L2 Rt
open PyProof.Rows hiding St
theorem Src.away {d c t : Addr} {H : Hp} (S : Src H d c) (n : H t = none) : t ≠ d ∧ t ≠ c := by
  obtain ⟨ks, l, m, u, h1, h2⟩ := S.ex
  exact ⟨(ne_of_none h1 n).symm, (ne_of_none h2 n).symm⟩
theorem Keep.od {d c : Addr} {H H1 : Hp} {v : V} (a : Keep d c H H1) (w : ∀ t, v = .ref t → t ≠ d ∧ t ≠ c) (h : Od H v) : Od H1 v := by
  cases v with
  | ref t =>
    obtain ⟨o, T, e, k⟩ := h
    obtain ⟨n1, n2⟩ := w t rfl
    exact ⟨o, T, a t o e n1 n2, k⟩
  | non => exact True.intro
  | bl b => exact True.intro
  | int i => exact True.intro
  | str x => exact True.intro
  | byt b => exact h.elim
  | flt b => exact h.elim
  | ty n => exact h.elim
/-- an item that may be told as an odd value -/
structure Fine (H : Hp) (d c : Addr) (v : V) : Prop where
  od : Od H v
  away : ∀ t, v = .ref t → t ≠ d ∧ t ≠ c
theorem Fine.keep {H H1 : Hp} {d c : Addr} {v : V} (f : Fine H d c v) (a : Keep d c H H1) : Fine H1 d c v := ⟨a.od f.away f.od, f.away⟩
theorem fine_flat {H : Hp} {d c : Addr} {v : V} (h : Od H v) (n : ∀ t, v ≠ .ref t) : Fine H d c v := ⟨h, fun t e => absurd e (n t)⟩
theorem fine_new {H : Hp} {d c p : Addr} {o : HO} {T : String} (S : Src H d c) (n : H p = none) (k : kindOf o = some T) : Fine (upd H p o) d c (.ref p) :=
  ⟨⟨o, T, upd_same, k⟩, fun t e => by cases e; exact S.away n⟩
def FineAll (H : Hp) (d c : Addr) (xs : List V) : Prop := ∀ v, v ∈ xs → Fine H d c v
theorem fineN {H : Hp} {d c : Addr} : FineAll H d c [] := fun _ h => nomatch h
theorem fineA {H : Hp} {d c : Addr} {v : V} {xs : List V} (f : Fine H d c v) (r : FineAll H d c xs) : FineAll H d c (v :: xs) := fun u h => by
  rcases List.mem_cons.mp h with e | h
  · subst e
    exact f
  · exact r u h
section
variable {P : Program} {w : World} {K : PySem.W.Frag} {mg : Str → Option Value} {base : Heap}
theorem scOdd : FnScope ["source", "some"] ["source"] (defScope sOdd) := ⟨rfl, rfl, rfl, by decide +kernel, rfl, by decide +kernel, by decide +kernel⟩
theorem ok_odd {f : Addr} {fd : FuncData} (F : Fun K "_law_odd" "_law_odd" sOdd f fd) (CO : Cb P w K mg base 2 "_law_of" spOf) : FnG P w K mg base 3 f fd ["source"] spOdd := by
  refine okG F scOdd (fun vs H Q E h => ?_) (fun cdv A outer s H vs Q E hg hr h => ?_)
  · obtain ⟨d, c, rfl, _⟩ := h
    rfl
  · obtain ⟨d, c, rfl, S, k⟩ := h
    refine ⟨_, pss_cons (ps_set (i := 1) scOdd.nd rfl (.inl rfl) (pe_lst (pa_cons pe_non (pa_cons pe_bl (pa_cons pe_bl (pa_cons (pe_un un_neg pe_int) (pa_cons pe_int (pa_cons (pe_op op_pow pe_int pe_int)
        (pa_cons pe_str (pa_cons pe_str (pa_cons pe_str (pa_cons (pe_tup pa_nil) (pa_cons (pe_lst pa_nil) (pa_cons pe_dnewK (pa_cons (pe_tup (pa_cons pe_int pa_nil)) (pa_cons (pe_lst (pa_cons pe_int pa_nil))
        (pa_cons (pe_tup (pa_cons pe_int (pa_cons pe_int pa_nil))) (pa_cons (pe_disp (pps_cons pe_int pe_int pps_nil) (by rfl) (by rfl) (fun z => by cases z) (by decide))
        (pa_cons (pe_tup (pa_cons (pe_tup (pa_cons pe_int (pa_cons pe_int pa_nil))) (pa_cons pe_int pa_nil))) pa_nil)))))))))))))))))))
      (pss_one (ps_ret (pe_k CO hg hr (by decide) (by rfl) (pa_cons (pv 0) (pa_cons (pv 1) pa_nil))))), ?_⟩
    refine ⟨_, rfl, _, _, rfl, rfl, ⟨by decide, by decide, by decide⟩, ?_⟩
    have le : ∀ n : Nat, n ≤ 100 → n ≤ sizeLine := fun n h => Nat.le_of_lt (small1000 (by omega))
    -- ()
    refine ⟨le 0 (by decide), fun p1 n1 => ?_⟩
    have S1 := S.new (o := .tup []) n1
    have K1 : Keep d c H _ := Keep.refl.new (o := .tup []) n1
    have f1 := fine_new (d := d) (c := c) (o := .tup []) S n1 rfl
    -- []
    refine ⟨le 0 (by decide), fun p2 n2 => ?_⟩
    have S2 := S1.new (o := .lst []) n2
    have K2 := K1.new (o := .lst []) n2
    have f2 := fine_new (d := d) (c := c) (o := .lst []) S1 n2 rfl
    have f1 := f1.keep (Keep.refl.new (o := .lst []) n2)
    -- {}
    intro p3 n3
    have S3 := S2.new (o := .dK []) n3
    have K3 := K2.new (o := .dK []) n3
    have f3 := fine_new (d := d) (c := c) (o := .dK []) S2 n3 rfl
    have g := Keep.refl.new (d := d) (c := c) (o := .dK []) n3
    have f1 := f1.keep g
    have f2 := f2.keep g
    -- (0,)
    refine ⟨le 1 (by decide), fun p4 n4 => ?_⟩
    have S4 := S3.new (o := .tup [.int 0]) n4
    have K4 := K3.new (o := .tup [.int 0]) n4
    have f4 := fine_new (d := d) (c := c) (o := .tup [.int 0]) S3 n4 rfl
    have g := Keep.refl.new (d := d) (c := c) (o := .tup [.int 0]) n4
    have f1 := f1.keep g
    have f2 := f2.keep g
    have f3 := f3.keep g
    -- [0]
    refine ⟨le 1 (by decide), fun p5 n5 => ?_⟩
    have S5 := S4.new (o := .lst [.int 0]) n5
    have K5 := K4.new (o := .lst [.int 0]) n5
    have f5 := fine_new (d := d) (c := c) (o := .lst [.int 0]) S4 n5 rfl
    have g := Keep.refl.new (d := d) (c := c) (o := .lst [.int 0]) n5
    have f1 := f1.keep g
    have f2 := f2.keep g
    have f3 := f3.keep g
    have f4 := f4.keep g
    -- (0, 1)
    refine ⟨le 2 (by decide), fun p6 n6 => ?_⟩
    have S6 := S5.new (o := .tup [.int 0, .int 1]) n6
    have K6 := K5.new (o := .tup [.int 0, .int 1]) n6
    have f6 := fine_new (d := d) (c := c) (o := .tup [.int 0, .int 1]) S5 n6 rfl
    have g := Keep.refl.new (d := d) (c := c) (o := .tup [.int 0, .int 1]) n6
    have f1 := f1.keep g
    have f2 := f2.keep g
    have f3 := f3.keep g
    have f4 := f4.keep g
    have f5 := f5.keep g
    -- {0: 1}
    intro p7 n7
    have a7 := S6.away n7
    refine ⟨upd_same, [(Sum.inl 0, .int 1)], rfl, (by decide), ?_⟩
    rw [upd_upd]
    have S7 := S6.new (o := .dK (mergeK [] [((Sum.inl 0 : Key), V.int 1)])) n7
    have K7 := K6.new (o := .dK (mergeK [] [((Sum.inl 0 : Key), V.int 1)])) n7
    have f7 := fine_new (d := d) (c := c) (o := .dK (mergeK [] [((Sum.inl 0 : Key), V.int 1)])) S6 n7 rfl
    have g := Keep.refl.new (d := d) (c := c) (o := .dK (mergeK [] [((Sum.inl 0 : Key), V.int 1)])) n7
    have f1 := f1.keep g
    have f2 := f2.keep g
    have f3 := f3.keep g
    have f4 := f4.keep g
    have f5 := f5.keep g
    have f6 := f6.keep g
    -- ((0, 1), 2)
    refine ⟨le 2 (by decide), fun p8 n8 => ?_⟩
    have S8 := S7.new (o := .tup [.int 0, .int 1]) n8
    have K8 := K7.new (o := .tup [.int 0, .int 1]) n8
    have g := Keep.refl.new (d := d) (c := c) (o := .tup [.int 0, .int 1]) n8
    have f1 := f1.keep g
    have f2 := f2.keep g
    have f3 := f3.keep g
    have f4 := f4.keep g
    have f5 := f5.keep g
    have f6 := f6.keep g
    have f7 := f7.keep g
    refine ⟨le 2 (by decide), fun p9 n9 => ?_⟩
    have S9 := S8.new (o := .tup [.ref p8, .int 2]) n9
    have K9 := K8.new (o := .tup [.ref p8, .int 2]) n9
    have f9 := fine_new (d := d) (c := c) (o := .tup [.ref p8, .int 2]) S8 n9 rfl
    have g := Keep.refl.new (d := d) (c := c) (o := .tup [.ref p8, .int 2]) n9
    have f1 := f1.keep g
    have f2 := f2.keep g
    have f3 := f3.keep g
    have f4 := f4.keep g
    have f5 := f5.keep g
    have f6 := f6.keep g
    have f7 := f7.keep g
    -- the list of all
    refine ⟨le 17 (by decide), fun p n => ?_⟩
    have S10 := S9.new (o := .lst [.non, .bl true, .bl false, .int (-1), .int 0, .int (10 ^ 39), .str "", .str "a", .str "0", .ref p1, .ref p2, .ref p3, .ref p4, .ref p5, .ref p6, .ref p7, .ref p9]) n
    have K10 := K9.new (o := .lst [.non, .bl true, .bl false, .int (-1), .int 0, .int (10 ^ 39), .str "", .str "a", .str "0", .ref p1, .ref p2, .ref p3, .ref p4, .ref p5, .ref p6, .ref p7, .ref p9]) n
    have g := Keep.refl.new (d := d) (c := c) (o := .lst [.non, .bl true, .bl false, .int (-1), .int 0, .int (10 ^ 39), .str "", .str "a", .str "0", .ref p1, .ref p2, .ref p3, .ref p4, .ref p5, .ref p6, .ref p7, .ref p9]) n
    have all : FineAll _ d c [.non, .bl true, .bl false, .int (-1), .int 0, .int (10 ^ 39), .str "", .str "a", .str "0", .ref p1, .ref p2, .ref p3, .ref p4, .ref p5, .ref p6, .ref p7, .ref p9] :=
      fineA (fine_flat True.intro nofun) (fineA (fine_flat True.intro nofun) (fineA (fine_flat True.intro nofun) (fineA (fine_flat True.intro nofun) (fineA (fine_flat True.intro nofun) (fineA (fine_flat True.intro nofun)
        (fineA (fine_flat True.intro nofun) (fineA (fine_flat True.intro nofun) (fineA (fine_flat True.intro nofun) (fineA (f1.keep g) (fineA (f2.keep g) (fineA (f3.keep g) (fineA (f4.keep g) (fineA (f5.keep g) (fineA (f6.keep g)
        (fineA (f7.keep g) (fineA (f9.keep g) fineN))))))))))))))))
    refine ⟨_, rfl, _, rfl, d, c, p, _, rfl, S10, upd_same, (S9.away n).2, (by show 0 < 17; decide), (by show 17 < 1000000000; decide), ?_⟩
    intro i v H2 hi S2' kp
    have fv := (all v (List.mem_of_getElem? hi)).keep kp
    exact k v H2 fv.od fv.away S2' (K10.trans kp)
theorem scClock : FnScope ["source", "steps", "first"] ["source", "steps"] (defScope sClock) := ⟨rfl, rfl, rfl, by decide +kernel, rfl, by decide +kernel, by decide +kernel⟩
theorem far_small {z : Int} (h : z ∈ ([0, 0, 0, 10 ^ 30 - 1000, 1000 - 10 ^ 30] : List Int)) : z.natAbs ≤ 10 ^ 30 := by
  simp only [List.mem_cons, List.not_mem_nil, or_false] at h
  rcases h with e | e | e | e | e <;> subst e <;> decide +kernel
theorem ok_clock {f : Addr} {fd : FuncData} (F : Fun K "_law_clock" "_law_clock" sClock f fd) (CP : Cb P w K mg base 1 "_law_pick" spPick) (CO : Cb P w K mg base 2 "_law_of" spOf) : FnG P w K mg base 3 f fd ["source", "steps"] spClock := by
  refine okG F scClock (fun vs H Q E h => ?_) (fun cdv A outer s H vs Q E hg hr h => ?_)
  · obtain ⟨d, c, p, ss, rfl, _⟩ := h
    rfl
  · obtain ⟨d, c, p, ss, rfl, S, hp, pc, s0, s1, k⟩ := h
    refine ⟨_, pss_cons (ps_set (i := 2) scClock.nd rfl (.inl rfl) (pe_op op_sub (pe_k CP hg hr (by decide) (by rfl) (pa_cons (pv 0) (pa_cons pe_int pa_nil))) pe_int))
      (pss_one (ps_ret (pe_tup (pa_cons (pe_op op_add (pv 2) (pe_k CO hg hr (by decide) (by rfl) (pa_cons (pv 0) (pa_cons (pe_lst (pa_cons pe_int (pa_cons pe_int (pa_cons pe_int
          (pa_cons (pe_op op_sub (pe_op op_pow pe_int pe_int) pe_int) (pa_cons (pe_op op_sub pe_int (pe_op op_pow pe_int pe_int)) pa_nil)))))) pa_nil))))
        (pa_cons (pe_k CO hg hr (by decide) (by rfl) (pa_cons (pv 0) (pa_cons (pv 1) pa_nil))) pa_nil))))), ?_⟩
    have pd : p ≠ d := by
      obtain ⟨ks, l, m, t, q1, q2⟩ := S.ex
      exact ne_of hp q1 (by intro z; cases z)
    refine ⟨_, rfl, d, c, 41, rfl, S, (by decide), fun r H1 r0 r1 S1 k1 => ?_⟩
    refine ⟨r, 20, rfl, rfl, ?_⟩
    refine ⟨_, rfl, _, rfl, _, _, rfl, rfl, ⟨by decide, by decide, by decide⟩, _, _, rfl, rfl, _, _, rfl, rfl, ⟨by decide, by decide, by decide⟩, _, _, rfl, rfl, (by show 5 ≤ sizeLine; decide), fun q nq => ?_⟩
    have k2 := k1.new (o := .lst (([0, 0, 0, 10 ^ 30 - 1000, 1000 - 10 ^ 30] : List Int).map V.int)) nq
    refine ⟨d, c, q, ([0, 0, 0, 10 ^ 30 - 1000, 1000 - 10 ^ 30] : List Int).map V.int, rfl, S1.new nq, upd_same, (S1.away nq).2, (by show 0 < 5; decide), (by show 5 < 1000000000; decide), ?_⟩
    intro i v H2 hi S2 k3
    obtain ⟨z, hz, rfl⟩ := int_at hi
    have bz := far_small (List.mem_of_getElem? hz)
    have k4 := k2.trans k3
    refine ⟨_, _, rfl, rfl, _, rfl, _, rfl, d, c, p, ss.map V.int, rfl, S2, k4 p _ hp pd pc, pc, by rw [List.length_map]; exact s0, by rw [List.length_map]; omega, ?_⟩
    intro j u H3 hj S3 k5
    obtain ⟨y, hy, rfl⟩ := int_at hj
    refine ⟨(by show 2 ≤ sizeLine; decide), fun t nt => ?_⟩
    refine k t _ y _ upd_same (List.mem_of_getElem? hy) ?_ (S3.new nt) ((k4.trans k5).new nt)
    omega
theorem scLAlike : FnScope ["source", "clock"] ["source", "clock"] (defScope sLAlike) := ⟨rfl, rfl, rfl, by decide +kernel, rfl, by decide +kernel, by decide +kernel⟩
theorem ok_lAlike {f : Addr} {fd : FuncData} (F : Fun K "_law_alike" "_law_alike" sLAlike f fd) (CO : Cb P w K mg base 2 "_law_of" spOf) : FnG P w K mg base 3 f fd ["source", "clock"] spLAlike := by
  refine okG F scLAlike (fun vs H Q E h => ?_) (fun cdv A outer s H vs Q E hg hr h => ?_)
  · obtain ⟨d, c, t, f, s, rfl, _⟩ := h
    rfl
  · obtain ⟨d, c, t, f, s, rfl, S, ht, s0, s1, k⟩ := h
    refine ⟨_, pss_one (ps_ret (pe_tup (pa_cons (pe_op op_add (pe_ix ix_tup (pv 1) pe_int (fun _ _ => rfl)) (pe_op op_mul (pe_ix ix_tup (pv 1) pe_int (fun _ _ => rfl))
        (pe_k CO hg hr (by decide) (by rfl) (pa_cons (pv 0) (pa_cons (pe_lst (pa_cons pe_int (pa_cons pe_int (pa_cons pe_int (pa_cons (pe_un un_neg pe_int) (pa_cons pe_int pa_nil)))))) pa_nil)))))
      (pa_cons (pe_ix ix_tup (pv 1) pe_int (fun _ _ => rfl)) pa_nil)))), ?_⟩
    refine ⟨_, rfl, t, _, _, _, rfl, rfl, SqT.of ht, at0, _, rfl, t, _, _, _, rfl, rfl, SqT.of ht, at1, _, rfl, _, rfl, (by show 5 ≤ sizeLine; decide), fun q nq => ?_⟩
    refine ⟨d, c, q, ([0, 0, 1, -3, 7] : List Int).map V.int, rfl, S.new nq, upd_same, (S.away nq).2, (by show 0 < 5; decide), (by show 5 < 1000000000; decide), ?_⟩
    intro i v H2 hi S2 k3
    obtain ⟨z, hz, rfl⟩ := int_at hi
    have k4 := (Keep.refl.new (d := d) (c := c) (o := .lst (([0, 0, 1, -3, 7] : List Int).map V.int)) nq).trans k3
    have ht2 := k4.tup S ht
    refine ⟨s, z, rfl, rfl, .inl ⟨s0, s1⟩, _, _, rfl, rfl, _, rfl, t, _, _, _, rfl, rfl, SqT.of ht2, at1, (by show 2 ≤ sizeLine; decide), fun u nu => ?_⟩
    exact k u _ _ upd_same (S2.new nu) (k4.new nu)
end
end K05
namespace K05
open PySem PySem.Spec L2 Rt
open PyProof.Rows hiding St
/-! ### the mathematics of clocks -/
theorem mod_uniq {a s q r : Int} (e : a = r + s * q) (h0 : 0 ≤ r) (h1 : r < s) : a % s = r := by
  rw [e, Int.add_mul_emod_self_left, Int.emod_eq_of_lt h0 h1]
theorem mod_zero {a s q : Int} (e : a = s * q) : a % s = 0 := by
  rw [e, Int.mul_emod_right]
theorem hi_on (f s x : Int) : (x + (f - x) % s - f) % s = 0 := by
  have h := Int.emod_def (f - x) s
  refine mod_zero (q := -((f - x) / s)) ?_
  rw [h, Int.mul_neg]
  omega
theorem lo_on (f s x : Int) : (x - (x - f) % s - f) % s = 0 := by
  have h := Int.emod_def (x - f) s
  refine mod_zero (q := (x - f) / s) ?_
  rw [h]
  omega
/-- the two rests of a and -a -/
theorem two_rests {a s : Int} (hs : 0 < s) : (a % s = 0 ∧ (-a) % s = 0) ∨ (a % s ≠ 0 ∧ (-a) % s = s - a % s) := by
  have h := Int.emod_def a s
  have h0 := Int.emod_nonneg a (Int.ne_of_gt hs)
  have h1 := Int.emod_lt_of_pos a hs
  by_cases z : a % s = 0
  · left
    refine ⟨z, mod_zero (q := -(a / s)) ?_⟩
    rw [Int.mul_neg]
    omega
  · right
    refine ⟨z, mod_uniq (q := -(a / s) - 1) ?_ (by omega) (by omega)⟩
    rw [Int.mul_sub, Int.mul_neg, Int.mul_one]
    omega
theorem up_more (f s x : Int) : (x + 5 * s) + (f - (x + 5 * s)) % s = x + (f - x) % s + 5 * s := by
  have e : (f - (x + 5 * s)) % s = (f - x) % s := by
    rw [show f - (x + 5 * s) = (f - x) + s * (-5) by rw [Int.mul_comm s]; omega, Int.add_mul_emod_self_left]
  rw [e]
  omega
theorem down_less (f s x : Int) : (x - s) - ((x - s) - f) % s = x - (x - f) % s - s := by
  have e : ((x - s) - f) % s = (x - f) % s := by
    rw [show (x - s) - f = (x - f) + s * (-1) by rw [Int.mul_comm s]; omega, Int.add_mul_emod_self_left]
  rw [e]
  omega
theorem on_shift (f s g k : Int) : (g + k * s - f) % s = (g - f) % s := by
  rw [show g + k * s - f = (g - f) + s * k by rw [Int.mul_comm s]; omega, Int.add_mul_emod_self_left]
theorem rest_flip (f g s : Int) (hs : 0 < s) : (decide ((f - g) % s = 0)) = decide ((g - f) % s = 0) := by
  have h := two_rests (a := f - g) hs
  rw [show -(f - g) = g - f by omega] at h
  rcases h with ⟨h1, h2⟩ | ⟨h1, h2⟩
  · rw [decide_eq_true h1, decide_eq_true h2]
  · have h3 := Int.emod_lt_of_pos (f - g) hs
    rw [decide_eq_false h1, decide_eq_false (by omega)]
/-- what the law asks of up and down at x -/
structure Near (f s x hi lo : Int) : Prop where
  ehi : hi = x + (f - x) % s
  elo : lo = x - (x - f) % s
  le1 : lo ≤ x
  le2 : x ≤ hi
  gap : hi - lo = s * (if hi = x then 0 else 1)
  same : (hi = x) ↔ (lo = x)
  on : (x - f) % s = 0 ↔ hi = x
theorem near (f s x : Int) (hs : 0 < s) : Near f s x (x + (f - x) % s) (x - (x - f) % s) := by
  have h := two_rests (a := f - x) hs
  rw [show -(f - x) = x - f by omega] at h
  have p1 := Int.emod_nonneg (f - x) (Int.ne_of_gt hs)
  have p2 := Int.emod_nonneg (x - f) (Int.ne_of_gt hs)
  have p3 := Int.emod_lt_of_pos (f - x) hs
  rcases h with ⟨h1, h2⟩ | ⟨h1, h2⟩
  · refine ⟨rfl, rfl, by omega, by omega, ?_, by omega, by omega⟩
    rw [if_pos (by omega)]
    omega
  · refine ⟨rfl, rfl, by omega, by omega, ?_, by omega, by omega⟩
    rw [if_neg (by omega)]
    omega
end K05
namespace K05
open PySem PySem.Spec L2 Rt
open PyProof.Rows hiding St
/-! ### small facts about data -/
theorem rep1 (b : Bool) : (PyData.shown (.bool b)).length ≤ sizeLine := by cases b <;> decide +kernel
theorem rep2 (b c : Bool) : (PyData.shown (.list [.bool b, .bool c])).length ≤ sizeLine := by cases b <;> cases c <;> decide +kernel
theorem dp2 {K : PySem.W.Frag} {H : Hp} {p : Addr} {b c : Bool} (h : H p = some (.lst [.bl b, .bl c])) : Dp K H (.ref p) (.list [.bool b, .bool c]) := .lst (SqL.of h) (.cons (.bl _) (.cons (.bl _) .nil))
theorem dpI2 {K : PySem.W.Frag} {H : Hp} {p : Addr} {i j : Int} (h : H p = some (.lst [.int i, .int j])) : Dp K H (.ref p) (.list [.int i, .int j]) := .lst (SqL.of h) (.cons (.int _) (.cons (.int _) .nil))
theorem dpAll_ints {K : PySem.W.Frag} {H : Hp} : ∀ ks : List Int, DpAll K H (ks.map V.int) (ks.map PyData.int)
  | [] => .nil
  | k :: ks => .cons (.int k) (dpAll_ints ks)
theorem lay_ints : ∀ ks : List Int, PyData.canLayAll0 (ks.map PyData.int) = true
  | [] => by simp [PyData.canLayAll0]
  | k :: ks => by
    have h := lay_ints ks
    simp [PyData.canLayAll0, PyData.canLay0, h]
theorem depth_ints : ∀ ks : List Int, PyData.depthAll (ks.map PyData.int) = 0
  | [] => by simp [PyData.depthAll]
  | k :: ks => by
    have h := depth_ints ks
    simp [PyData.depthAll, PyData.depth, h]
theorem shaped_ints (ks : List Int) : SeqAt.shaped (.list (ks.map PyData.int)) = true := by
  unfold SeqAt.shaped
  simp [PyData.canLay0, lay_ints, PyData.depth, depth_ints]
theorem eqv_none (ks : List Int) : PyData.eqv (.list (ks.map PyData.int)) (.list []) = decide (ks = []) := by
  cases ks with
  | nil => simp [PyData.eqv, PyData.eqvAll]
  | cons k ks => simp [PyData.eqv, PyData.eqvAll]
theorem log_small {f : Int} (h : f.natAbs < 10 ^ 31) : f.natAbs.log2 < 1920 := by
  rcases Nat.eq_zero_or_pos f.natAbs with z | z
  · rw [z]
    decide
  · rw [Nat.log2_lt (Nat.ne_of_gt z)]
    exact Nat.lt_trans h (by decide +kernel)
/-- a pair of ints stands there -/
def Ck (H : Hp) (v : V) : Prop := ∃ (u : Addr) (g r : Int), v = .ref u ∧ H u = some (.tup [.int g, .int r])
theorem Ck.keep {H H1 : Hp} {d c : Addr} {v : V} (h : Ck H v) (S : Src H d c) (k : Keep d c H H1) : Ck H1 v := by
  obtain ⟨u, g, r, e, q⟩ := h
  exact ⟨u, g, r, e, k.tup S q⟩
theorem Ck.new {H : Hp} {p : Addr} {o : HO} {v : V} (h : Ck H v) (n : H p = none) : Ck (upd H p o) v := by
  obtain ⟨u, g, r, e, q⟩ := h
  exact ⟨u, g, r, e, by rw [upd_ne (ne_of_none q n)]; exact q⟩
theorem tup_new {H : Hp} {t p : Addr} {o : HO} {xs : List V} (h : H t = some (.tup xs)) (n : H p = none) : (upd H p o) t = some (.tup xs) := by
  rw [upd_ne (ne_of_none h n)]
  exact h
theorem lst_new {H : Hp} {t p : Addr} {o : HO} {xs : List V} (h : H t = some (.lst xs)) (n : H p = none) : (upd H p o) t = some (.lst xs) := by
  rw [upd_ne (ne_of_none h n)]
  exact h
theorem Fine.list {H : Hp} {d c p : Addr} {v : V} {xs : List V} (f : Fine H d c v) : Fine (upd H p (.lst xs)) d c v := by
  refine ⟨?_, f.away⟩
  have o := f.od
  cases v with
  | ref t =>
    obtain ⟨u, T, e, k⟩ := o
    by_cases z : t = p
    · subst z
      exact ⟨_, "list", upd_same, rfl⟩
    · exact ⟨u, T, by rw [upd_ne z]; exact e, k⟩
  | non => exact o
  | bl b => exact o
  | int i => exact o
  | str x => exact o
  | byt b => exact o
  | flt b => exact o
  | ty n => exact o
theorem fineS {H : Hp} {d c : Addr} {v : V} : ∀ {xs : List V}, FineAll H d c xs → Fine H d c v → FineAll H d c (xs ++ [v]) := fun {xs} h f u m => by
  rcases List.mem_append.mp m with m | m
  · exact h u m
  · cases List.mem_singleton.mp m
    exact f
theorem fineAp {H : Hp} {d c : Addr} {xs ys : List V} (h : FineAll H d c xs) (g : FineAll H d c ys) : FineAll H d c (xs ++ ys) := fun u m =>
  (List.mem_append.mp m).elim (h u) (g u)
theorem FineAll.keep {H H1 : Hp} {d c : Addr} {xs : List V} (f : FineAll H d c xs) (a : Keep d c H H1) : FineAll H1 d c xs := fun u m => (f u m).keep a
theorem FineAll.list {H : Hp} {d c p : Addr} {xs ys : List V} (f : FineAll H d c xs) : FineAll (upd H p (.lst ys)) d c xs := fun u m => (f u m).list
end K05
namespace K05
open PySem PySem.Spec L2 Rt
open PyProof.Rows hiding St
abbrev sLaw : Stmt := top 16
def spLaw (K : PySem.W.Frag) : Sp := fun vs H Q _ => ∃ (a : Addr) (ns : List Int), vs = [.ref a] ∧ SqL K H a (ns.map V.int) ∧ ns.length ≤ 63 ∧ ∀ H', Q (.bl true) H'
abbrev NL : List Str := ["script", "source", "lap", "clock", "base", "x", "high", "low", "odd", "other", "due", "told", "turn", "k"]
/-- the built-ins' names are free -/
structure Free (mg : Str → Option Value) : Prop where
  range : mg "range" = none
  int : mg "int" = none
  repr : mg "repr" = none
  str : mg "str" = none
  min : mg "min" = none
section
variable {P : Program} {w : World} {K : PySem.W.Frag} {mg : Str → Option Value} {base : Heap}
structure Calls5 (P : Program) (w : World) (K : PySem.W.Frag) (mg : Str → Option Value) (base : Heap) : Prop where
  source : Cb P w K mg base 1 "_law_source" (spSource K)
  pick : Cb P w K mg base 1 "_law_pick" spPick
  of : Cb P w K mg base 2 "_law_of" spOf
  odd : Cb P w K mg base 3 "_law_odd" spOdd
  clock : Cb P w K mg base 3 "_law_clock" spClock
  lOn : Cb P w K mg base 2 "_law_is_on" spOn
  lAlike : Cb P w K mg base 3 "_law_alike" spLAlike
  up : Cb P w K mg base 1 "up" spUp
  down : Cb P w K mg base 1 "down" spDown
  on : Cb P w K mg base 2 "is_on" spOn
  alike : Cb P w K mg base 3 "are_alike_clocks" spAlike
theorem scL : FnScope NL ["script"] (defScope sLaw) := ⟨rfl, rfl, rfl, by decide +kernel, rfl, by decide +kernel, by decide +kernel⟩
theorem ok_law {f : Addr} {fd : FuncData} (F : Fun K "law" "law" sLaw f fd) (T : Free mg) (C : Calls5 P w K mg base) : FnG P w K mg base 4 f fd ["script"] (spLaw K) := by
  refine okG F scL (fun vs H Q E h => ?_) (fun cdv A outer s H vs Q E hg hr h => ?_)
  · obtain ⟨a, ns, rfl, _⟩ := h
    rfl
  · obtain ⟨a, ns, rfl, hS, hl, k⟩ := h
    have hu := hr.units
    refine ⟨_, (pss_cons (ps_set (i := 1) scL.nd rfl (.inr rfl) (pe_k C.source hg hr (by decide) (by rfl) (pa_cons (pv 0) pa_nil)))
      (pss_cons (ps_for PassesOwn.never rfl (pi_range1 (by rfl) T.range (pa_cons pe_int pa_nil)) (pg_name (i := 2) scL.nd rfl (.inl rfl))
        (pss_cons (ps_set (i := 3) scL.nd rfl (.inr rfl) (pe_k C.clock hg hr (by decide) (by rfl) (pa_cons (pv 1) (pa_cons (pe_lst (pa_cons pe_int (pa_cons pe_int (pa_cons pe_int (pa_cons pe_int (pa_cons pe_int (pa_cons pe_int (pa_cons pe_int (pa_cons pe_int (pa_cons pe_int (pa_cons (pe_op op_add pe_int (pe_k C.pick hg hr (by decide) (by rfl) (pa_cons (pv 1) (pa_cons pe_int pa_nil)))) pa_nil))))))))))) pa_nil))))
        (pss_cons (ps_set (i := 4) scL.nd rfl (.inl rfl) (pe_k C.of hg hr (by decide) (by rfl) (pa_cons (pv 1) (pa_cons (pe_lst (pa_cons pe_int (pa_cons (pe_ix ix_tup (pv 3) pe_int (fun _ _ => rfl)) (pa_cons (pe_op op_add (pe_ix ix_tup (pv 3) pe_int (fun _ _ => rfl)) pe_int) (pa_cons (pe_un un_neg (pe_op op_pow pe_int pe_int)) (pa_cons (pe_op op_sub (pe_op op_pow pe_int pe_int) pe_int) pa_nil)))))) pa_nil))))
        (pss_cons (ps_for PassesOwn.never rfl (pi_far (by rfl) T.range (pa_cons (pe_op op_sub (pv 4) pe_int) (pa_cons (pe_op op_add (pv 4) pe_int) pa_nil))) (pg_name (i := 5) scL.nd rfl (.inl rfl))
          (pss_cons (ps_par (i := 6) (j := 7) rfl scL.nd rfl rfl (by decide) rfl rfl (pa_cons (pe_k C.up hg hr (by decide) (by rfl) (pa_cons (pv 3) (pa_cons (pv 5) pa_nil))) (pa_cons (pe_k C.down hg hr (by decide) (by rfl) (pa_cons (pv 3) (pa_cons (pv 5) pa_nil))) pa_nil)) (by rfl))
          (pss_cons (ps_if (PW.pt (pw_or (pt_not (pt_val (pe_k C.lOn hg hr (by decide) (by rfl) (pa_cons (pv 3) (pa_cons (pv 6) pa_nil))))) (pw_or (pt_not (pt_val (pe_k C.lOn hg hr (by decide) (by rfl) (pa_cons (pv 3) (pa_cons (pv 7) pa_nil))))) (pw_or1 (pt_not (pt_chain op_le op_le (pv 7) (pv 5) (pv 6))))))) (pss_one (ps_ret pe_bl)) pss_nil)
          (pss_cons (ps_if (PW.pt (pw_or (pt_cmpR op_ne (pe_op op_sub (pv 6) (pv 7)) (pe_op op_mul (pe_ix ix_tup (pv 3) pe_int (fun _ _ => rfl)) (pe_callTy call_int1 (by rfl) T.int (by decide +kernel) (pa_cons (pe_cmpR op_ne (pv 6) (pv 5) (nomark _)) pa_nil))) (nomark _)) (pw_or1 (pt_cmpR op_ne (pe_cmpR op_eq (pv 6) (pv 5) (nomark _)) (pe_cmpR op_eq (pv 7) (pv 5) (nomark _)) (nomark _))))) (pss_one (ps_ret pe_bl)) pss_nil)
          (pss_cons (ps_if (pt_cmpR op_ne (pe_callB (call_repr hg hu) (by rfl) T.repr (by decide +kernel) (pa_cons (pe_lst (pa_cons (pe_k C.on hg hr (by decide) (by rfl) (pa_cons (pv 3) (pa_cons (pv 5) pa_nil))) (pa_cons (pe_k C.on hg hr (by decide) (by rfl) (pa_cons (pv 3) (pa_cons (pv 6) pa_nil))) pa_nil))) pa_nil)) (pe_callB (call_repr hg hu) (by rfl) T.repr (by decide +kernel) (pa_cons (pe_lst (pa_cons (pe_cmpR op_eq (pv 6) (pv 5) (nomark _)) (pa_cons pe_bl pa_nil))) pa_nil)) (nomark _)) (pss_one (ps_ret pe_bl)) pss_nil)
          (pss_one (ps_if (pt_cmpR (op_neD hu) (pe_lst (pa_cons (pe_k C.up hg hr (by decide) (by rfl) (pa_cons (pv 3) (pa_cons (pe_op op_add (pv 5) (pe_op op_mul pe_int (pe_ix ix_tup (pv 3) pe_int (fun _ _ => rfl)))) pa_nil))) (pa_cons (pe_k C.down hg hr (by decide) (by rfl) (pa_cons (pv 3) (pa_cons (pe_op op_sub (pv 5) (pe_ix ix_tup (pv 3) pe_int (fun _ _ => rfl))) pa_nil))) pa_nil))) (pe_lst (pa_cons (pe_op op_add (pv 6) (pe_op op_mul pe_int (pe_ix ix_tup (pv 3) pe_int (fun _ _ => rfl)))) (pa_cons (pe_op op_sub (pv 7) (pe_ix ix_tup (pv 3) pe_int (fun _ _ => rfl))) pa_nil))) (nomark _)) (pss_one (ps_ret pe_bl)) pss_nil)))))))
        (pss_cons (ps_for PassesOwn.never rfl (pi_list (pe_op op_cat (pe_lc (own := [("turn", 12)]) (by rfl) scL.nd (pi_range1 (by rfl) T.range (pa_cons pe_int pa_nil)) (blkOk_by (N := NL) (sc := defScope sLaw) (by decide +kernel)) (fun _ _ _ _ _ => (pg_name (i := 12) scL.nd rfl (.inl rfl))) (fun _ _ _ _ _ => pts_nil) (fun _ _ _ _ _ => (pe_k C.odd hg hr (by decide) (by rfl) (pa_cons (pv 1) pa_nil)))) (pe_lst (pa_cons pe_non (pa_cons pe_bl (pa_cons pe_bl (pa_cons (pe_callTy call_str_int (by rfl) T.str (by decide +kernel) (pa_cons (pe_ix ix_tup (pv 3) pe_int (fun _ _ => rfl)) pa_nil)) (pa_cons (pe_lst (pa_cons (pe_ix ix_tup (pv 3) pe_int (fun _ _ => rfl)) pa_nil)) (pa_cons (pv 3) pa_nil))))))))) (pg_name (i := 8) scL.nd rfl (.inl rfl))
          (pss_one (ps_if (pt_cmpR op_ne (pe_callB (call_repr hg hu) (by rfl) T.repr (by decide +kernel) (pa_cons (pe_k C.on hg hr (by decide) (by rfl) (pa_cons (pv 3) (pa_cons (pv 8) pa_nil))) pa_nil)) (pe_callB (call_repr hg hu) (by rfl) T.repr (by decide +kernel) (pa_cons (pe_k C.lOn hg hr (by decide) (by rfl) (pa_cons (pv 3) (pa_cons (pv 8) pa_nil))) pa_nil)) (nomark _)) (pss_one (ps_ret pe_bl)) pss_nil)))
        (pss_cons (ps_set (i := 9) scL.nd rfl (.inr rfl) (pe_k C.of hg hr (by decide) (by rfl) (pa_cons (pv 1) (pa_cons (pe_lst (pa_cons (pe_k C.lAlike hg hr (by decide) (by rfl) (pa_cons (pv 1) (pa_cons (pv 3) pa_nil))) (pa_cons (pe_tup (pa_cons (pe_op op_add (pe_ix ix_tup (pv 3) pe_int (fun _ _ => rfl)) pe_int) (pa_cons (pe_ix ix_tup (pv 3) pe_int (fun _ _ => rfl)) pa_nil))) (pa_cons (pe_tup (pa_cons (pe_ix ix_tup (pv 3) pe_int (fun _ _ => rfl)) (pa_cons (pe_op op_sub pe_int (pe_ix ix_tup (pv 3) pe_int (fun _ _ => rfl))) pa_nil))) pa_nil)))) pa_nil))))
        (pss_cons (ps_set (i := 9) scL.nd rfl (.inr rfl) (pe_k C.of hg hr (by decide) (by rfl) (pa_cons (pv 1) (pa_cons (pe_lst (pa_cons (pv 9) (pa_cons (pe_tup (pa_cons (pe_ix ix_tup (pv 3) pe_int (fun _ _ => rfl)) (pa_cons (pe_callB (call_min2 rfl) (by rfl) T.min (by decide +kernel) (pa_cons pe_int (pa_cons (pe_op op_mul pe_int (pe_ix ix_tup (pv 3) pe_int (fun _ _ => rfl))) pa_nil))) pa_nil))) (pa_cons (pe_tup (pa_cons (pe_op op_sub (pe_ix ix_tup (pv 3) pe_int (fun _ _ => rfl)) (pe_ix ix_tup (pv 3) pe_int (fun _ _ => rfl))) (pa_cons (pe_ix ix_tup (pv 3) pe_int (fun _ _ => rfl)) pa_nil))) pa_nil)))) pa_nil))))
        (pss_cons (ps_set (i := 10) scL.nd rfl (.inl rfl) (pe_and (pe_cmpR op_eq (pe_ix ix_tup (pv 9) pe_int (fun _ _ => rfl)) (pe_ix ix_tup (pv 3) pe_int (fun _ _ => rfl)) (nomark _)) (pe_one (pe_cmpR (op_eqD hu) (pe_lc (own := [("k", 13)]) (by rfl) scL.nd (pi_range1 (by rfl) T.range (pa_cons pe_int pa_nil)) (blkOk_by (N := NL) (sc := defScope sLaw) (by decide +kernel)) (fun _ _ _ _ _ => (pg_name (i := 13) scL.nd rfl (.inl rfl))) (fun _ _ _ _ _ => (pts_one (pt_not (pt_val (pe_k C.lOn hg hr (by decide) (by rfl) (pa_cons (pv 3) (pa_cons (pe_op op_add (pe_ix (ix_tup : IxR _ (rIxT K)) (pv 9) pe_int (fun _ _ => rfl)) (pe_op op_mul (pv 13) (pe_ix (ix_tup : IxR _ (rIxT K)) (pv 9) pe_int (fun _ _ => rfl)))) pa_nil))))))) (fun _ _ _ _ _ => (pv 13))) (pe_lst pa_nil) (nomark _)))))
        (pss_one (ps_if (pt_cmpR op_ne (pe_callB (call_repr hg hu) (by rfl) T.repr (by decide +kernel) (pa_cons (pe_lst (pa_cons (pe_k C.alike hg hr (by decide) (by rfl) (pa_cons (pv 3) (pa_cons (pv 9) pa_nil))) (pa_cons (pe_k C.alike hg hr (by decide) (by rfl) (pa_cons (pv 9) (pa_cons (pv 3) pa_nil))) pa_nil))) pa_nil)) (pe_callB (call_repr hg hu) (by rfl) T.repr (by decide +kernel) (pa_cons (pe_lst (pa_cons (pv 10) (pa_cons (pv 10) pa_nil))) pa_nil)) (nomark _)) (pss_one (ps_ret pe_bl)) pss_nil))))))))))
      (pss_cons (ps_set (i := 11) scL.nd rfl (.inl rfl) (pe_lst (pa_cons (pe_k C.up hg hr (by decide) (by rfl) (pa_cons (pe_tup (pa_cons pe_int (pa_cons pe_int pa_nil))) (pa_cons pe_int pa_nil))) (pa_cons (pe_k C.down hg hr (by decide) (by rfl) (pa_cons (pe_tup (pa_cons pe_int (pa_cons pe_int pa_nil))) (pa_cons pe_int pa_nil))) (pa_cons (pe_k C.up hg hr (by decide) (by rfl) (pa_cons (pe_tup (pa_cons pe_int (pa_cons pe_int pa_nil))) (pa_cons (pe_un un_neg pe_int) pa_nil))) (pa_cons (pe_k C.down hg hr (by decide) (by rfl) (pa_cons (pe_tup (pa_cons pe_int (pa_cons pe_int pa_nil))) (pa_cons (pe_un un_neg pe_int) pa_nil))) (pa_cons (pe_k C.up hg hr (by decide) (by rfl) (pa_cons (pe_tup (pa_cons pe_int (pa_cons pe_int pa_nil))) (pa_cons pe_int pa_nil))) (pa_cons (pe_k C.on hg hr (by decide) (by rfl) (pa_cons (pe_tup (pa_cons pe_int (pa_cons pe_int pa_nil))) (pa_cons pe_bl pa_nil))) pa_nil))))))))
      (pss_one (ps_ret (pe_cmpR (op_eqD hu) (pe_op op_cat (pv 11) (pe_lst (pa_cons (pe_k C.alike hg hr (by decide) (by rfl) (pa_cons (pe_tup (pa_cons pe_int (pa_cons pe_int pa_nil))) (pa_cons (pe_tup (pa_cons (pe_un un_neg pe_int) (pa_cons pe_int pa_nil))) pa_nil))) pa_nil))) (pe_lst (pa_cons pe_int (pa_cons pe_int (pa_cons (pe_un un_neg pe_int) (pa_cons (pe_un un_neg pe_int) (pa_cons pe_int (pa_cons pe_bl (pa_cons pe_bl pa_nil)))))))) (nomark _))))))), ?_⟩
    -- source
    refine ⟨_, rfl, a, ns, rfl, hS, hl, fun d c H1 nd nc S1 same1 => ?_⟩
    refine ⟨6, rfl, by decide, by decide, for_range (lo := 0) (n := 6) (fun i σ H2 => ∃ (v2 v3 v4 v5 v6 v7 v8 v9 v10 v11 v12 v13 : Option V), σ = [some (.ref a), some (.ref d), v2, v3, v4, v5, v6, v7, v8, v9, v10, v11, v12, v13] ∧ Src H2 d c)
      ⟨none, none, none, none, none, none, none, none, none, none, none, none, rfl, S1⟩ ?_ ?_⟩
    · rintro i σ H2 hi ⟨v2, v3, v4, v5, v6, v7, v8, v9, v10, v11, v12, v13, rfl, S2⟩
      -- clock
      refine ⟨_, rfl, _, rfl, d, c, 60, rfl, S2, (by decide), fun r H3 r0 r1 S3 k3 => ?_⟩
      refine ⟨_, _, rfl, rfl, (by show 10 ≤ sizeLine; decide), fun p np => ?_⟩
      refine ⟨d, c, p, [1, 2, 3, 4, 5, 6, 12, 30, 60, 1 + r], rfl, S3.new np, upd_same, (S3.away np).2, (by show 0 < 10; decide), (by show 10 < 100; decide), fun t f s H4 ht hs bf S4 k4 => ?_⟩
      have sp : 0 < s ∧ s ≤ 60 := by
        simp only [List.mem_cons, List.not_mem_nil, or_false] at hs
        omega
      obtain ⟨sp0, sp1⟩ := sp
      -- base
      refine ⟨_, rfl, _, rfl, t, _, _, _, rfl, rfl, SqT.of ht, at0, _, rfl, t, _, _, _, rfl, rfl, SqT.of ht, at0, _, _, rfl, rfl, _, _, rfl, rfl, ⟨by decide, by decide, by decide⟩, _, rfl,
        _, _, rfl, rfl, ⟨by decide, by decide, by decide⟩, _, _, rfl, rfl, (by show 5 ≤ sizeLine; decide), fun q nq => ?_⟩
      refine ⟨d, c, q, ([0, f, f + 7, -(10 ^ 39), 10 ^ 39 - 3] : List Int).map V.int, rfl, S4.new nq, upd_same, (S4.away nq).2, (by show 0 < 5; decide), (by show 5 < 1000000000; decide), fun j v H5 hj S5 k5 => ?_⟩
      obtain ⟨b, hb, rfl⟩ := int_at hj
      have ht5 := k5.tup (S4.new nq) (tup_new ht nq)
      -- for x
      refine ⟨_, rfl, _, _, rfl, rfl, _, rfl, _, _, rfl, rfl, _, _, rfl, for_range (lo := b - 3) (n := (b + 4 - (b - 3)).toNat) (fun _ σ H6 => ∃ (v5 v6 v7 : Option V),
          σ = [some (.ref a), some (.ref d), some (.int (0 + (i : Int))), some (.ref t), some (.int b), v5, v6, v7, v8, v9, v10, v11, v12, v13] ∧ Src H6 d c ∧ H6 t = some (.tup [.int f, .int s]))
        ⟨v5, v6, v7, rfl, S5, ht5⟩ ?_ ?_⟩
      · rintro i6 σ H6 hi6 ⟨v5, v6, v7, rfl, S6, ht6⟩
        generalize b - 3 + (i6 : Int) = x
        have N := near f s x sp0
        have M1 := up_more f s x
        have M2 := down_less f s x
        have hi1 := hi_on f s x
        have lo1 := lo_on f s x
        refine ⟨_, rfl, _, rfl, t, f, s, _, rfl, ht6, sp0, _, rfl, _, rfl, t, f, s, _, rfl, ht6, sp0, _, _, rfl, ?_⟩
        generalize x + (f - x) % s = hi at N M1 hi1 ⊢
        generalize x - (x - f) % s = lo at N M2 lo1 ⊢
        -- if not on(high) or not on(low) or not low <= x <= high
        refine ⟨_, rfl, _, rfl, t, f, s, _, rfl, ht6, sp0, True.intro, _, rfl, ?_⟩
        rw [show onB f s (.int hi) = true from decide_eq_true hi1]
        refine iteF ?_
        refine ⟨_, rfl, _, rfl, t, f, s, _, rfl, ht6, sp0, True.intro, _, rfl, ?_⟩
        rw [show onB f s (.int lo) = true from decide_eq_true lo1]
        refine iteF ?_
        refine ⟨_, rfl, _, rfl, _, _, rfl, rfl, _, rfl, ?_⟩
        rw [decide_eq_true N.le1]
        refine iteT ?_
        refine ⟨_, rfl, _, _, rfl, rfl, _, rfl, ?_⟩
        rw [decide_eq_true N.le2]
        refine iteF ?_
        -- if high - low != clock[1] * int(high != x) or (high == x) != (low == x)
        have gap : decide (V.int (hi - lo) = V.int (s * (if (!decide (V.int hi = V.int x)) = true then 1 else 0))) = true := by
          rw [dec_V, dec_V]
          have z := N.gap
          by_cases y : hi = x
          · rw [if_pos y] at z
            rw [decide_eq_true y]
            exact decide_eq_true z
          · rw [if_neg y] at z
            rw [decide_eq_false y]
            exact decide_eq_true z
        have twin : decide (V.bl (decide (V.int hi = V.int x)) = V.bl (decide (V.int lo = V.int x))) = true := by
          rw [dec_V, dec_V]
          refine decide_eq_true (congrArg V.bl ?_)
          by_cases y : hi = x
          · rw [decide_eq_true y, decide_eq_true (N.same.mp y)]
          · rw [decide_eq_false y, decide_eq_false (fun z => y (N.same.mpr z))]
        refine ⟨_, rfl, _, rfl, _, _, rfl, rfl, _, rfl, t, _, _, _, rfl, rfl, SqT.of ht6, at1, _, rfl, _, rfl, rfl, .inr ⟨_, rfl, _, _, rfl, rfl, .inl ⟨by omega, by omega⟩, rfl, _, rfl, ?_⟩⟩
        rw [gap]
        refine iteF ?_
        refine ⟨_, rfl, _, rfl, rfl, _, rfl, _, rfl, rfl, rfl, _, rfl, ?_⟩
        rw [twin]
        refine iteF ?_
        -- if repr([is_on(clock, x), is_on(clock, high)]) != repr([high == x, True])
        have e1 : onB f s (.int x) = decide (V.int hi = V.int x) := by
          rw [dec_V]
          show decide ((x - f) % s = 0) = decide (hi = x)
          by_cases y : hi = x
          · rw [decide_eq_true y, decide_eq_true (N.on.mpr y)]
          · rw [decide_eq_false y, decide_eq_false (fun z => y (N.on.mp z))]
        refine ⟨_, rfl, _, rfl, t, f, s, _, rfl, ht6, sp0, True.intro, _, rfl, _, rfl, t, f, s, _, rfl, ht6, sp0, True.intro, (by show 2 ≤ sizeLine; decide), fun p6 n6 => ?_⟩
        refine ⟨_, .list [.bool _, .bool _], rfl, dp2 upd_same, rfl, (by show 1 ≤ 60; decide), rep2 _ _, ?_⟩
        refine ⟨_, rfl, _, rfl, rfl, (by show 2 ≤ sizeLine; decide), fun q6 m6 => ?_⟩
        refine ⟨_, .list [.bool _, .bool _], rfl, dp2 upd_same, rfl, (by show 1 ≤ 60; decide), rep2 _ _, ?_⟩
        refine ⟨rfl, _, rfl, ?_⟩
        rw [e1, show onB f s (.int hi) = true from decide_eq_true hi1] at m6 ⊢
        refine iteNS rfl ?_
        have S7 := (S6.new (o := .lst [.bl (decide (V.int hi = V.int x)), .bl true]) n6).new (o := .lst [.bl (decide (V.int hi = V.int x)), .bl true]) m6
        have ht7 := tup_new (o := .lst [.bl (decide (V.int hi = V.int x)), .bl true]) (tup_new (o := .lst [.bl (decide (V.int hi = V.int x)), .bl true]) ht6 n6) m6
        revert S7 ht7
        generalize upd (upd H6 p6 (.lst [.bl (decide (V.int hi = V.int x)), .bl true])) q6 (.lst [.bl (decide (V.int hi = V.int x)), .bl true]) = H7
        intro S7 ht7
        -- if [up(clock, x + 5 * clock[1]), down(clock, x - clock[1])] != [high + 5 * clock[1], low - clock[1]]
        refine ⟨_, rfl, _, rfl, _, rfl, t, _, _, _, rfl, rfl, SqT.of ht7, at1, _, _, rfl, rfl, .inl ⟨by decide, by decide⟩, _, _, rfl, rfl, t, f, s, _, rfl, ht7, sp0, ?_⟩
        refine ⟨_, rfl, _, rfl, _, rfl, t, _, _, _, rfl, rfl, SqT.of ht7, at1, _, _, rfl, rfl, t, f, s, _, rfl, ht7, sp0, (by show 2 ≤ sizeLine; decide), fun p7 n7 => ?_⟩
        have S8 := S7.new (o := .lst [.int (x + 5 * s + (f - (x + 5 * s)) % s), .int (x - s - (x - s - f) % s)]) n7
        have ht8 := tup_new (o := .lst [.int (x + 5 * s + (f - (x + 5 * s)) % s), .int (x - s - (x - s - f) % s)]) ht7 n7
        refine ⟨_, rfl, _, rfl, t, _, _, _, rfl, rfl, SqT.of ht8, at1, _, _, rfl, rfl, .inl ⟨by decide, by decide⟩, _, _, rfl, rfl, _, rfl, _, rfl, t, _, _, _, rfl, rfl, SqT.of ht8, at1, _, _, rfl, rfl, (by show 2 ≤ sizeLine; decide), fun q7 m7 => ?_⟩
        have S9 := S8.new (o := .lst [.int (hi + 5 * s), .int (lo - s)]) m7
        have ht9 := tup_new (o := .lst [.int (hi + 5 * s), .int (lo - s)]) ht8 m7
        refine ⟨_, _, dpI2 (lst_new upd_same m7), dpI2 upd_same, rfl, rfl, _, rfl, ?_⟩
        rw [M1, M2, SeqAt.eqv_refl _ (by rfl)]
        refine iteF ?_
        rw [M1, M2] at S9 ht9
        exact ⟨_, _, _, rfl, S9, ht9⟩
      · rintro σ H7 ⟨v5, v6, v7, rfl, S7, ht7⟩
        -- [_law_odd(source) for turn in range(4)]
        refine ⟨4, rfl, by decide, by decide, fun D nD => ?_⟩
        have aD := S7.away nD
        have Dt : t ≠ D := ne_of_none ht7 nD
        refine lc_range (lo := 0) (n := 4) (fun i H => ∃ vs : List V, vs.length = i ∧ H D = some (.lst vs) ∧ FineAll H d c vs ∧ Src H d c ∧ H t = some (.tup [.int f, .int s]))
          ⟨[], rfl, upd_same, fineN, S7.new nD, tup_new ht7 nD⟩ ?_ ?_
        · rintro i8 H8 hi8 ⟨vs, rfl, hD, fa, S8, ht8⟩
          refine ⟨rfl, _, rfl, d, c, rfl, S8, fun v H9 ov av S9 k9 => ?_⟩
          have hD9 := k9 D _ hD aD.1 aD.2
          refine ⟨vs, hD9, small1000 (by omega), vs ++ [v], by simp, upd_same, ?_, ?_, ?_⟩
          · exact fineS (fa.keep k9).list (Fine.list ⟨ov, av⟩)
          · obtain ⟨ks, l, m, u, q1, q2⟩ := S9.ex
            exact ⟨ks, l, m, u, by rw [upd_ne aD.1.symm]; exact q1, by rw [upd_ne aD.2.symm]; exact q2⟩
          · rw [upd_ne Dt]
            exact k9.tup S8 ht8
        · rintro H8 ⟨vs, lv, hD, fa, S8, ht8⟩
          -- [None, True, False, str(clock[0]), [clock[0]], clock]
          refine ⟨_, rfl, t, _, _, _, rfl, rfl, SqT.of ht8, at0, _, rfl, log_small bf, _, rfl, t, _, _, _, rfl, rfl, SqT.of ht8, at0, (by show 1 ≤ sizeLine; decide), fun p8 n8 => ?_⟩
          have S9 := S8.new (o := .lst [.int f]) n8
          have g9 := Keep.refl.new (d := d) (c := c) (o := .lst [.int f]) n8
          have fp := fine_new (d := d) (c := c) (o := .lst [.int f]) S8 n8 rfl
          refine ⟨_, rfl, (by show 6 ≤ sizeLine; decide), fun q8 m8 => ?_⟩
          have S10 := S9.new (o := .lst [.non, .bl true, .bl false, .str (toString f), .ref p8, .ref t]) m8
          have g10 := Keep.refl.new (d := d) (c := c) (o := .lst [.non, .bl true, .bl false, .str (toString f), .ref p8, .ref t]) m8
          refine ⟨D, q8, vs, _, rfl, rfl, lst_new (lst_new hD n8) m8, upd_same, (by rw [lv]; show 4 + 6 ≤ sizeLine; decide), fun L nL => ?_⟩
          have S11 := S10.new (o := .lst (vs ++ [.non, .bl true, .bl false, .str (toString f), .ref p8, .ref t])) nL
          have g11 := Keep.refl.new (d := d) (c := c) (o := .lst (vs ++ [.non, .bl true, .bl false, .str (toString f), .ref p8, .ref t])) nL
          have ht11 := tup_new (o := .lst (vs ++ [.non, .bl true, .bl false, .str (toString f), .ref p8, .ref t])) (tup_new (o := .lst [.non, .bl true, .bl false, .str (toString f), .ref p8, .ref t]) (tup_new (o := .lst [.int f]) ht8 n8) m8) nL
          have ft : Fine H8 d c (.ref t) := ⟨⟨_, "tuple", ht8, rfl⟩, fun u e => by cases e; exact S8.nd ht8⟩
          have all : FineAll _ d c (vs ++ [.non, .bl true, .bl false, .str (toString f), .ref p8, .ref t]) := fineAp (((fa.keep g9).keep g10).keep g11)
            (fineA (fine_flat True.intro nofun) (fineA (fine_flat True.intro nofun) (fineA (fine_flat True.intro nofun) (fineA (fine_flat True.intro nofun) (fineA ((fp.keep g10).keep g11) (fineA (((ft.keep g9).keep g10).keep g11) fineN))))))
          have hL := upd_same (H := upd (upd H8 p8 (.lst [.int f])) q8 (.lst [.non, .bl true, .bl false, .str (toString f), .ref p8, .ref t])) (a := L) (o := .lst (vs ++ [.non, .bl true, .bl false, .str (toString f), .ref p8, .ref t]))
          revert S11 ht11 all hL
          generalize vs ++ [.non, .bl true, .bl false, .str (toString f), .ref p8, .ref t] = xs
          generalize upd (upd (upd H8 p8 (.lst [.int f])) q8 (.lst [.non, .bl true, .bl false, .str (toString f), .ref p8, .ref t])) L (.lst xs) = HL
          intro S11 ht11 all hL
          refine ⟨L, rfl, ⟨_, SqL.of hL⟩, for_list (K := K) (a := L) (xs := xs) (fun _ σ H => ∃ v8 : Option V, σ = [some (.ref a), some (.ref d), some (.int (0 + (i : Int))), some (.ref t), some (.int b), v5, v6, v7, v8, v9, v10, v11, v12, v13] ∧ H = HL)
            ⟨v8, rfl, rfl⟩ (fun _ σ H _ ⟨_, _, e⟩ => by rw [e]; exact SqL.of hL) ?_ ?_⟩
          · rintro i9 y σ H hi9 ⟨v8, rfl, rfl⟩
            have oy := (all y (List.mem_of_getElem? hi9)).od
            refine ⟨_, rfl, _, rfl, t, f, s, y, rfl, ht11, sp0, oy, _, .bool _, rfl, .bl _, rfl, (by show 0 ≤ 60; decide), rep1 _, ?_⟩
            refine ⟨_, rfl, _, rfl, t, f, s, y, rfl, ht11, sp0, oy, _, .bool _, rfl, .bl _, rfl, (by show 0 ≤ 60; decide), rep1 _, rfl, _, rfl, ?_⟩
            refine iteNS rfl ?_
            exact ⟨_, rfl, rfl⟩
          · rintro σ H ⟨v8, rfl, rfl⟩
            -- other
            refine ⟨_, rfl, _, rfl, _, rfl, d, c, t, f, s, rfl, S11, ht11, (by omega), (by omega), fun u1 g1 H12 hu1 S12 k12 => ?_⟩
            have ht12 := k12.tup S11 ht11
            refine ⟨_, rfl, t, _, _, _, rfl, rfl, SqT.of ht12, at0, _, _, rfl, rfl, _, rfl, t, _, _, _, rfl, rfl, SqT.of ht12, at1, (by show 2 ≤ sizeLine; decide), fun u2 n2 => ?_⟩
            have ht13 := tup_new (o := .tup [.int (f + 1), .int s]) ht12 n2
            have S13 := S12.new (o := .tup [.int (f + 1), .int s]) n2
            have c1 : Ck _ (.ref u1) := Ck.new ⟨u1, _, _, rfl, hu1⟩ (o := .tup [.int (f + 1), .int s]) n2
            have c2 : Ck _ (.ref u2) := ⟨u2, _, _, rfl, upd_same (H := H12) (a := u2) (o := .tup [.int (f + 1), .int s])⟩
            refine ⟨_, rfl, t, _, _, _, rfl, rfl, SqT.of ht13, at0, _, rfl, t, _, _, _, rfl, rfl, SqT.of ht13, at1, _, _, rfl, rfl, (by show 2 ≤ sizeLine; decide), fun u3 n3 => ?_⟩
            have ht14 := tup_new (o := .tup [.int f, .int (61 - s)]) ht13 n3
            have S14 := S13.new (o := .tup [.int f, .int (61 - s)]) n3
            have c1 := c1.new (o := .tup [.int f, .int (61 - s)]) n3
            have c2 := c2.new (o := .tup [.int f, .int (61 - s)]) n3
            have c3 : Ck _ (.ref u3) := ⟨u3, _, _, rfl, upd_same (H := upd H12 u2 (.tup [.int (f + 1), .int s])) (a := u3) (o := .tup [.int f, .int (61 - s)])⟩
            refine ⟨(by show 3 ≤ sizeLine; decide), fun q14 m14 => ?_⟩
            have ht15 := tup_new (o := .lst [.ref u1, .ref u2, .ref u3]) ht14 m14
            have S15 := S14.new (o := .lst [.ref u1, .ref u2, .ref u3]) m14
            refine ⟨d, c, q14, [.ref u1, .ref u2, .ref u3], rfl, S15, upd_same, (S14.away m14).2, (by show 0 < 3; decide), (by show 3 < 1000000000; decide), fun j15 v H16 hj15 S16 k16 => ?_⟩
            have ht16 := k16.tup S15 ht15
            have cv : Ck H16 v := by
              refine Ck.keep ?_ S15 k16
              have m := List.mem_of_getElem? hj15
              simp only [List.mem_cons, List.not_mem_nil, or_false] at m
              rcases m with e | e | e <;> subst e
              · exact c1.new m14
              · exact c2.new m14
              · exact c3.new m14
            obtain ⟨w1, g2, r2, rfl, hw1⟩ := cv
            -- other, once more
            refine ⟨_, rfl, _, rfl, _, rfl, t, _, _, _, rfl, rfl, SqT.of ht16, at0, _, rfl, t, _, _, _, rfl, rfl, SqT.of ht16, at1, _, _, rfl, rfl, .inl ⟨by decide, by decide⟩, _, _, rfl, (by show 2 ≤ sizeLine; decide), fun u4 n4 => ?_⟩
            have ht17 := tup_new (o := .tup [.int f, .int (if 2 * s < 60 then 2 * s else 60)]) ht16 n4
            have S17 := S16.new (o := .tup [.int f, .int (if 2 * s < 60 then 2 * s else 60)]) n4
            have c1 : Ck _ (.ref w1) := Ck.new ⟨w1, _, _, rfl, hw1⟩ (o := .tup [.int f, .int (if 2 * s < 60 then 2 * s else 60)]) n4
            have c2 : Ck _ (.ref u4) := ⟨u4, _, _, rfl, upd_same (H := H16) (a := u4) (o := .tup [.int f, .int (if 2 * s < 60 then 2 * s else 60)])⟩
            refine ⟨_, rfl, t, _, _, _, rfl, rfl, SqT.of ht17, at0, _, rfl, t, _, _, _, rfl, rfl, SqT.of ht17, at1, _, _, rfl, rfl, _, rfl, t, _, _, _, rfl, rfl, SqT.of ht17, at1, (by show 2 ≤ sizeLine; decide), fun u5 n5 => ?_⟩
            have ht18 := tup_new (o := .tup [.int (f - s), .int s]) ht17 n5
            have S18 := S17.new (o := .tup [.int (f - s), .int s]) n5
            have c1 := c1.new (o := .tup [.int (f - s), .int s]) n5
            have c2 := c2.new (o := .tup [.int (f - s), .int s]) n5
            have c3 : Ck _ (.ref u5) := ⟨u5, _, _, rfl, upd_same (H := upd H16 u4 (.tup [.int f, .int (if 2 * s < 60 then 2 * s else 60)])) (a := u5) (o := .tup [.int (f - s), .int s])⟩
            refine ⟨(by show 3 ≤ sizeLine; decide), fun q18 m18 => ?_⟩
            have ht19 := tup_new (o := .lst [.ref w1, .ref u4, .ref u5]) ht18 m18
            have S19 := S18.new (o := .lst [.ref w1, .ref u4, .ref u5]) m18
            refine ⟨d, c, q18, [.ref w1, .ref u4, .ref u5], rfl, S19, upd_same, (S18.away m18).2, (by show 0 < 3; decide), (by show 3 < 1000000000; decide), fun j19 v H20 hj19 S20 k20 => ?_⟩
            have ht20 := k20.tup S19 ht19
            have cv : Ck H20 v := by
              refine Ck.keep ?_ S19 k20
              have m := List.mem_of_getElem? hj19
              simp only [List.mem_cons, List.not_mem_nil, or_false] at m
              rcases m with e | e | e <;> subst e
              · exact c1.new m18
              · exact c2.new m18
              · exact c3.new m18
            obtain ⟨u, g, r3, rfl, hu20⟩ := cv
            -- due
            refine ⟨_, rfl, u, _, _, _, rfl, rfl, SqT.of hu20, at1, _, rfl, t, _, _, _, rfl, rfl, SqT.of ht20, at1, rfl, _, rfl, ?_⟩
            rw [dec_V]
            by_cases e : r3 = s
            · rw [decide_eq_true e]
              refine iteT ?_
              refine ⟨60, rfl, by decide, by decide, fun D2 nD2 => ?_⟩
              have aD2 := S20.away nD2
              have D2t : t ≠ D2 := ne_of_none ht20 nD2
              have D2u : u ≠ D2 := ne_of_none hu20 nD2
              refine lc_range (lo := 0) (n := 60) (fun i H => ∃ ks : List Int, H D2 = some (.lst (ks.map V.int)) ∧ ((g - f) % s = 0 → ks = []) ∧ (¬ (g - f) % s = 0 → ks.length = i) ∧ ks.length ≤ i ∧
                  Src H d c ∧ H t = some (.tup [.int f, .int s]) ∧ H u = some (.tup [.int g, .int r3]))
                ⟨[], upd_same, fun _ => rfl, fun _ => rfl, Nat.le_refl _, S20.new nD2, tup_new ht20 nD2, tup_new hu20 nD2⟩ ?turn ?_
              case turn =>
                rintro i21 H21 hi21 ⟨ks, hD21, z1, z2, z3, S21, ht21, hu21⟩
                refine ⟨rfl, _, rfl, _, rfl, u, _, _, _, rfl, rfl, SqT.of hu21, at0, _, rfl, _, rfl, u, _, _, _, rfl, rfl, SqT.of hu21, at1, _, _, rfl, rfl, .inl ⟨by omega, by omega⟩, _, _, rfl, rfl, t, f, s, _, rfl, ht21, sp0, True.intro, _, rfl, ?_⟩
                have eo : onB f s (.int (g + (0 + (i21 : Int)) * r3)) = decide ((g - f) % s = 0) := by
                  rw [e]
                  show decide ((g + (0 + (i21 : Int)) * s - f) % s = 0) = _
                  rw [on_shift]
                rw [eo]
                by_cases ob : (g - f) % s = 0
                · rw [decide_eq_true ob]
                  refine iteF ?_
                  exact ⟨ks, hD21, z1, fun z => absurd ob z, by omega, S21, ht21, hu21⟩
                · rw [decide_eq_false ob]
                  refine iteT ?_
                  refine ⟨_, rfl, _, hD21, small1000 (by rw [List.length_map]; omega), ks ++ [0 + (i21 : Int)], ?_, fun z => absurd z ob, fun z => ?_, ?_, ?_, ?_, ?_⟩
                  · rw [upd_same, List.map_append]
                    rfl
                  · rw [List.length_append, z2 z]
                    rfl
                  · rw [List.length_append]
                    show ks.length + 1 ≤ i21 + 1
                    omega
                  · obtain ⟨ks2, l2, m2, t2, q1, q2⟩ := S21.ex
                    exact ⟨ks2, l2, m2, t2, by rw [upd_ne aD2.1.symm]; exact q1, by rw [upd_ne aD2.2.symm]; exact q2⟩
                  · rw [upd_ne D2t]
                    exact ht21
                  · rw [upd_ne D2u]
                    exact hu21
              rintro H21 ⟨ks, hD21, z1, z2, z3, S21, ht21, hu21⟩
              refine ⟨(by show 0 ≤ sizeLine; decide), fun p22 n22 => ?_⟩
              refine ⟨_, .list [], .lst (SqL.of (lst_new hD21 n22)) (dpAll_ints ks), .lst (SqL.of upd_same) .nil, shaped_ints ks, rfl, ?_⟩
              have S23 := S21.new (o := .lst []) n22
              have ht23 := tup_new (o := .lst []) ht21 n22
              have hu23 := tup_new (o := .lst []) hu21 n22
              have E1 : (decide (s = r3) && decide ((g - f) % s = 0)) = PyData.eqv (.list (ks.map PyData.int)) (.list []) := by
                rw [eqv_none, decide_eq_true e.symm, Bool.true_and]
                by_cases ob : (g - f) % s = 0
                · rw [decide_eq_true ob, decide_eq_true (z1 ob)]
                · have y := z2 ob
                  rw [decide_eq_false ob, decide_eq_false (fun z => by rw [z] at y; simp at y)]
              have E2 : (decide (r3 = s) && decide ((f - g) % r3 = 0)) = PyData.eqv (.list (ks.map PyData.int)) (.list []) := by
                rw [← E1, e, rest_flip f g s sp0]
              refine ⟨_, rfl, _, rfl, t, u, f, s, g, r3, rfl, ht23, hu23, (fun _ => sp0), _, rfl, _, rfl, u, t, g, r3, f, s, rfl, hu23, ht23, (fun z => z ▸ sp0), (by show 2 ≤ sizeLine; decide), fun p24 n24 => ?_⟩
              refine ⟨_, .list [.bool _, .bool _], rfl, dp2 upd_same, rfl, (by show 1 ≤ 60; decide), rep2 _ _, ?_⟩
              refine ⟨_, rfl, _, rfl, (by show 2 ≤ sizeLine; decide), fun q24 m24 => ?_⟩
              refine ⟨_, .list [.bool _, .bool _], rfl, dp2 upd_same, rfl, (by show 1 ≤ 60; decide), rep2 _ _, rfl, _, rfl, ?_⟩
              refine iteNS (by rw [E1, E2]) ?_
              exact ⟨_, _, _, _, _, _, _, _, _, _, _, _, rfl, (S23.new n24).new m24⟩
            · rw [decide_eq_false e]
              refine iteF ?_
              have S23 := S20
              have ht23 := ht20
              have hu23 := hu20
              have E1 : (decide (s = r3) && decide ((g - f) % s = 0)) = false := by
                rw [decide_eq_false (fun z => e z.symm), Bool.false_and]
              have E2 : (decide (r3 = s) && decide ((f - g) % r3 = 0)) = false := by
                rw [decide_eq_false e, Bool.false_and]
              refine ⟨_, rfl, _, rfl, t, u, f, s, g, r3, rfl, ht23, hu23, (fun _ => sp0), _, rfl, _, rfl, u, t, g, r3, f, s, rfl, hu23, ht23, (fun z => z ▸ sp0), (by show 2 ≤ sizeLine; decide), fun p24 n24 => ?_⟩
              refine ⟨_, .list [.bool _, .bool _], rfl, dp2 upd_same, rfl, (by show 1 ≤ 60; decide), rep2 _ _, ?_⟩
              refine ⟨_, rfl, _, rfl, (by show 2 ≤ sizeLine; decide), fun q24 m24 => ?_⟩
              refine ⟨_, .list [.bool _, .bool _], rfl, dp2 upd_same, rfl, (by show 1 ≤ 60; decide), rep2 _ _, rfl, _, rfl, ?_⟩
              refine iteNS (by rw [E1, E2]) ?_
              exact ⟨_, _, _, _, _, _, _, _, _, _, _, _, rfl, (S23.new n24).new m24⟩
    · rintro σ H2 ⟨v2, v3, v4, v5, v6, v7, v8, v9, v10, v11, v12, v13, rfl, S2⟩
      -- told
      have two : 2 ≤ sizeLine := by decide
      refine ⟨two, fun t1 n1 => ?_⟩
      refine ⟨t1, 5, 7, 13, rfl, upd_same, (by decide), ?_⟩
      refine ⟨two, fun t2 n2 => ?_⟩
      refine ⟨t2, 5, 7, 13, rfl, upd_same, (by decide), ?_⟩
      refine ⟨two, fun t3 n3 => ?_⟩
      refine ⟨_, rfl, t3, 0, 3, -4, rfl, upd_same, (by decide), ?_⟩
      refine ⟨two, fun t4 n4 => ?_⟩
      refine ⟨_, rfl, t4, 0, 3, -4, rfl, upd_same, (by decide), ?_⟩
      refine ⟨two, fun t5 n5 => ?_⟩
      refine ⟨t5, 1, 2, 1, rfl, upd_same, (by decide), ?_⟩
      refine ⟨two, fun t6 n6 => ?_⟩
      refine ⟨t6, 0, 1, .bl true, rfl, upd_same, (by decide), True.intro, ?_⟩
      refine ⟨(by show 6 ≤ sizeLine; decide), fun p7 n7 => ?_⟩
      -- return told + [..] == [..]
      refine ⟨_, rfl, two, fun t8 n8 => ?_⟩
      refine ⟨_, rfl, two, fun t9 n9 => ?_⟩
      refine ⟨t8, t9, 5, 7, -2, 7, rfl, tup_new upd_same n9, upd_same, (fun _ => by decide), (by show 1 ≤ sizeLine; decide), fun p10 n10 => ?_⟩
      refine ⟨p7, p10, _, _, rfl, rfl, lst_new (lst_new (lst_new upd_same n8) n9) n10, upd_same, (by show 6 + 1 ≤ sizeLine; decide), fun p11 n11 => ?_⟩
      refine ⟨_, rfl, _, rfl, (by show 7 ≤ sizeLine; decide), fun p12 n12 => ?_⟩
      refine ⟨.list [.int 19, .int 12, .int (-3), .int (-6), .int 1, .bool false, .bool true], .list [.int 19, .int 12, .int (-3), .int (-6), .int 1, .bool false, .bool true],
        .lst (SqL.of (lst_new upd_same n12)) (.cons (.int _) (.cons (.int _) (.cons (.int _) (.cons (.int _) (.cons (.int _) (.cons (.bl _) (.cons (.bl _) .nil))))))),
        .lst (SqL.of upd_same) (.cons (.int _) (.cons (.int _) (.cons (.int _) (.cons (.int _) (.cons (.int _) (.cons (.bl _) (.cons (.bl _) .nil))))))), rfl, rfl, ?_⟩
      rw [SeqAt.eqv_refl _ (by rfl)]
      exact k _
end
end K05
namespace K05
open PySem PySem.Spec L2 Rt
open PyProof.Rows hiding St
section
variable {P : Program} {w : World} {K : PySem.W.Frag} {mg : Str → Option Value} {base : Heap}
structure All5 (K : PySem.W.Frag) (mg : Str → Option Value) : Prop where
  isInt : At K mg "is_integer" sIsInt
  up : At K mg "up" sUp
  down : At K mg "down" sDown
  on : At K mg "is_on" sOn
  alike : At K mg "are_alike_clocks" sAlike
  source : At K mg "_law_source" sSource
  pick : At K mg "_law_pick" sPick
  of : At K mg "_law_of" sOf
  odd : At K mg "_law_odd" sOdd
  clock : At K mg "_law_clock" sClock
  lInt : At K mg "_law_is_integer" sLInt
  lOn : At K mg "_law_is_on" sLOn
  lAlike : At K mg "_law_alike" sLAlike
  law : At K mg "law" sLaw
structure Nil5 (mg : Str → Option Value) : Prop where
  len : mg "len" = none
  max : mg "max" = none
  min : mg "min" = none
  int : mg "int" = none
  bool : mg "bool" = none
  abs : mg "abs" = none
  isinstance : mg "isinstance" = none
  range : mg "range" = none
  repr : mg "repr" = none
  str : mg "str" = none
theorem calls (A : All5 K mg) (N : Nil5 mg) : Calls5 P w K mg base := by
  have one : ∀ {x qual : Str} {st : Stmt} {f : Addr} {fd : FuncData} {p : Str}, Fun K x qual st f fd → True := fun _ => True.intro
  have cP : Cb P w K mg base 1 "_law_pick" spPick := A.pick.cb (fun f fd F => ok_pick F N.len N.max N.int) fun f fd F => F.binds fun _ _ _ _ _ _ us hl => match us, hl with | [_, _], _ => rfl
  have cO : Cb P w K mg base 2 "_law_of" spOf := A.of.cb (fun f fd F => ok_of F N.len cP) fun f fd F => F.binds fun _ _ _ _ _ _ us hl => match us, hl with | [_, _], _ => rfl
  have cI : Cb P w K mg base 1 "is_integer" spIsInt := A.isInt.cb (fun f fd F => ok_isInt F N.isinstance N.int N.bool) fun f fd F => F.binds fun _ _ _ _ _ _ us hl => match us, hl with | [_], _ => rfl
  have cL : Cb P w K mg base 1 "_law_is_integer" spIsInt := A.lInt.cb (fun f fd F => ok_lInt F N.isinstance N.int N.bool) fun f fd F => F.binds fun _ _ _ _ _ _ us hl => match us, hl with | [_], _ => rfl
  have cN : Cb P w K mg base 2 "is_on" spOn := A.on.cb (fun f fd F => ok_on F cI) fun f fd F => F.binds fun _ _ _ _ _ _ us hl => match us, hl with | [_, _], _ => rfl
  exact ⟨A.source.cb (fun f fd F => ok_source F N.abs N.int) fun f fd F => F.binds fun _ _ _ _ _ _ us hl => match us, hl with | [_], _ => rfl,
    cP, cO, A.odd.cb (fun f fd F => ok_odd F cO) fun f fd F => F.binds fun _ _ _ _ _ _ us hl => match us, hl with | [_], _ => rfl,
    A.clock.cb (fun f fd F => ok_clock F cP cO) fun f fd F => F.binds fun _ _ _ _ _ _ us hl => match us, hl with | [_, _], _ => rfl,
    A.lOn.cb (fun f fd F => ok_lOn F N.int cL) fun f fd F => F.binds fun _ _ _ _ _ _ us hl => match us, hl with | [_, _], _ => rfl,
    A.lAlike.cb (fun f fd F => ok_lAlike F cO) fun f fd F => F.binds fun _ _ _ _ _ _ us hl => match us, hl with | [_, _], _ => rfl,
    A.up.cb (fun f fd F => ok_up F) fun f fd F => F.binds fun _ _ _ _ _ _ us hl => match us, hl with | [_, _], _ => rfl,
    A.down.cb (fun f fd F => ok_down F) fun f fd F => F.binds fun _ _ _ _ _ _ us hl => match us, hl with | [_, _], _ => rfl,
    cN, A.alike.cb (fun f fd F => ok_alike F cN) fun f fd F => F.binds fun _ _ _ _ _ _ us hl => match us, hl with | [_, _], _ => rfl⟩
theorem the_law (A : All5 K mg) (N : Nil5 mg) {fa : Addr} (ha : mg "law" = some (.ref fa)) :
    ∃ fd : FuncData, (∀ (s : Shared) (u : Value), BindsTo s fd ⟨[u], []⟩ [("script", u)]) ∧ ∀ base : Heap, FnG P w K mg base 4 fa fd ["script"] (spLaw K) := by
  obtain ⟨f, fd, F, m⟩ := A.law.ex
  cases ha.symm.trans m
  refine ⟨fd, ?_, fun base => ok_law F ⟨N.range, N.int, N.repr, N.str, N.min⟩ (calls A N)⟩
  obtain ⟨oc, od, kV, doc, pm, an, cdv, ct, osl, rfl, lk, hcd⟩ := F.ex
  exact fun s u => .of_eq rfl
theorem finish {h : Heap} {fa : Addr} (X : K.In h) (G : h.Ns mainGlobals mg) (A : All5 K mg) (N : Nil5 mg) (ha : mg "law" = some (.ref fa)) :
    ∃ fd : FuncData, (∀ (s : Shared) (u : Value), BindsTo s fd ⟨[u], []⟩ [("script", u)]) ∧ ∀ base : Heap, K.In base → base.Ns mainGlobals mg → FnG P w K mg base 4 fa fd ["script"] (spLaw K) := by
  obtain ⟨fd, b, F⟩ := the_law (P := P) (w := w) A N ha
  exact ⟨fd, b, fun base _ _ => F base⟩
end
end K05
open PySem PySem.W PyProof.Rows
set_option maxRecDepth 100000 in
set_option maxHeartbeats 0 in
theorem PySem.Challenge.cw_roundticks_k05_whole_rounding_holds : PySem.Challenge.rw_roundticks_k05_whole_rounding.Holds := by
  w_on; o_law; k_head; (case hw => w_witness2)
  k_fill
  refine Rt.walk_g (l := PySem.Challenge.rw_roundticks_k05_whole_rounding) (k := 4) (sp := K05.spLaw) (x := "script") rfl (by decide) rfl ⟨rfl, by decide, by decide⟩ (fun w h Y => PySem.W.kIn_of Y) ?F (fun K H a ns hl hS => ⟨a, ns, rfl, hS, hl, fun _ => rfl⟩)
  case F =>
    intro w mg fa h KX G hmg
    refine' K05.finish KX G ?defs ?nils hmg
    case defs =>
      constructor
      all_goals
        refine' Rt.at_mk KX G ?a ?l ?c ?k
        (case a => k_is)
        (case l => k_is)
        (case c => k_is)
        (case k => k_is)
    case nils =>
      constructor
      all_goals
        refine' PySem.W.mg_none_of KX G ?z
        (case z => k_is)
