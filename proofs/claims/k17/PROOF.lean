import PyProof.Rows.All
import Wide.All
import OpenK.AllK
import Wide.FinOn
import HandS.Base
import HandS.Call
import HandS.List
import HandS.Comp
import HandS.Ends
import HandS.Dict
import HandS.Iter
import HandS.Text
import HandS.Words
import HandS.Conv
import HandS.Codes
import HandS.Defaults
import HandS.Walk
import HandS.WordsList
import HandS.IsInst
import HandS.Gcd
import HandS.Flow
import HandS.Style
import KE.KDictZip
import KE.KStateDown
import Lean
import HandS.More
import HandS.WordsExc
import HandS.Head0
import HandS.Head1
import HandS.Head2
import HandS.Head3
import HandS.Head4
import HandS.HeadEnd
import HandS.HeadHook1
import HandS.HeadHook2
import HandS.HeadHook3
import HandS.HeadHook4
import HandS.SetFor
import HandS.Deep
import HandS.Sort
import HandS.SortOrd
import HandS.SortRule
import HandS.Wide
import KE.KMathGC
import HandS.HotCalls
import HandS.Hot
import HandS.ExcCtx
import HandS.ExcInit
import HandS.ExcIs
import HandS.ExcField
import HandS.ExcOwn
import HandS.ExcInitHot
import HandS.FStr
import HandS.TryOnly
import HandS.AnyAll
import HandS.SetKeys
import HandS.DictComp
import HandS.HeadWalk
import HandS.EndTab
import HandS.Lambda
import HandS.Nested
import PyProof.Rows.StrInSeq3
import HandS.JoinGen
import HandS.GenOver
import KE.KIntText
import KE.KxLen
import PySem.Challenge.RW_keyedtime_k17_texts_refused
set_option Elab.async false
set_option linter.all false
set_option maxRecDepth 100000
set_option maxHeartbeats 0
/-! Own words over the layer, for every law of Keyedtime. -/
namespace KT
open PySem PySem.Spec PyProof.Rows L2

/-! ### defs, classes, methods as callers know them -/
/-- the def x keeps sp -/
structure KDef (P : Program) (w : World) (K : PySem.W.Frag) (mg : Str → Option Value) (base : Heap) (C : CXT) (k : Nat) (x : Str) (ps : List Str) (sp : Sp) : Prop where
  ex : ∃ (f : Addr) (fd : FuncData), mg x = some (.ref f) ∧ PySem.W.keepIn K (.ref f) = true ∧ Binds K fd ps [] ∧ FnOk P w K mg base C k f fd ps sp
/-- making an instance of the class x, at C, keeps sp -/
structure KMake (P : Program) (w : World) (K : PySem.W.Frag) (mg : Str → Option Value) (base : Heap) (X : CXT) (C : Addr) (k : Nat) (x : Str) (ps : List Str) (sp : Sp) : Prop where
  ex : ∃ (f : Addr) (fd : FuncData), mg x = some (.ref C) ∧ Mk K C f ∧ Binds K fd ps [] ∧ FnOk P w K mg base X k f fd ps sp
/-- the method m of the class at C keeps sp -/
structure KMeth (P : Program) (w : World) (K : PySem.W.Frag) (mg : Str → Option Value) (base : Heap) (X : CXT) (C : Addr) (k : Nat) (m : Str) (ps : List Str) (sp : Sp) : Prop where
  cls : Cls K C
  ex : ∃ (f : Addr) (fd : FuncData), Meth K C m f ∧ Binds K fd ps [] ∧ FnOk P w K mg base X k f fd ps sp
section
variable {X : Cx} {k : Nat} {C : Addr} {x m : Str} {ps : List Str} {sp : Sp} {e o : Expr} {es : List Expr} {t : TA} {ta : TE} {p pos apos : Pos}
theorem pe_callD (D : KDef X.prog X.w X.K X.mg X.base CX0 k x ps sp) (hr : Room k X.A) (hg : Gl X x) (ha : PA X (e :: es) t) (hdb : (x == ("__debug__" : Str)) = false := by decide)
    (he : starEach (e :: es) X.env = (false, eval e X.env) :: starEach es X.env := by rfl) (hpl : (backTo pos (starEach es X.env)).any (·.1) = false := by rfl) :
    PE X (.Call (.Name x p) (e :: es) [] pos) (tCall sp [] E0 t) := by
  obtain ⟨f, fd, hm, hk, hb, F⟩ := D.ex
  exact pe_call F hr hg hm hk hb .nil pass0 ha hdb he hpl
theorem pe_makeD (D : KMake X.prog X.w X.K X.mg X.base CX0 C k x ps sp) (hr : Room (k + 1) X.A) (hg : Gl X x) (ha : PA X (e :: es) t) (hdb : (x == ("__debug__" : Str)) = false := by decide)
    (he : starEach (e :: es) X.env = (false, eval e X.env) :: starEach es X.env := by rfl) (hpl : (backTo pos (starEach es X.env)).any (·.1) = false := by rfl) :
    PE X (.Call (.Name x p) (e :: es) [] pos) (tMake C sp [] E0 t) := by
  obtain ⟨f, fd, hm, M, hb, F⟩ := D.ex
  exact pe_make M F hr hg hm hb .nil pass0 ha hdb he hpl
theorem pe_meth0D {pl : Sem Bool} (he : PE X o ta) (D : KMeth X.prog X.w X.K X.mg X.base CX0 C k m ps sp) (hr : Room k X.A)
    (ht : eval (.Call (.Attribute o m apos) [] [] pos) X.env = (do
      let ov ← eval o X.env
      standAt apos.atName
      let (f, first) ← holding [ov] (getMethod ov m pl)
      callWith pos f first (backTo pos (starEach [] X.env)) (backToKw pos (keywordEach [] X.env))) := by rfl) :
    PE X (.Call (.Attribute o m apos) [] [] pos) (tMeth C m sp [] E0 ta tNil) := by
  obtain ⟨f, fd, hm, hb, F⟩ := D.ex
  exact pe_meth0 he D.cls hm F hr hb .nil pass0 ht
end
/-- the def stands behind the top -/
structure Src (K : PySem.W.Frag) (mg : Str → Option Value) (x : Str) (st : Stmt) : Prop where
  ex : ∃ (f : Addr) (fd : FuncData), mg x = some (.ref f) ∧ FunD K x x (defArgs st) (defBody st) (defScope st) [] [] f fd
section
variable {P : Program} {w : World} {K : PySem.W.Frag} {mg : Str → Option Value} {base : Heap} {x : Str} {st : Stmt} {N ps : List Str} {k : Nat} {sp : Sp}
/-- a def that lets nothing out -/
theorem Src.ok (S : Src K mg x st) (sc : FnScope N ps (defScope st))
    (hb : ∀ (kV doc pm : Value) (an : Option Addr) (cdv ct : Value) (us : List Value), us.length = ps.length → bindArgs (PySem.W.fnOf x x (defArgs st) (defBody st) (defScope st) .none kV doc pm an cdv ct) ⟨us, []⟩ = pure (ps.zip us))
    (len : ∀ vs H Q E, sp vs H Q E → vs.length = ps.length)
    (hbody : ∀ (f : Addr) (cdv : Value) (A : Around) (outer : List Env) (s : Shared) (H : Hp) (vs : List V) (Q : VK) (E : XK), Room k (A.deeper (envOfC x (defScope st) s.heap.objs.size f cdv)) → sp vs H Q E →
      ∃ t, PSs (cxOf CX0 P w K mg base N x (defScope st) f cdv A outer s H E).nox (defBody st) t ∧ t { nx := fun _ H' => Q .non H', rt := Q } (start N vs) H) : KDef P w K mg base CX0 (k + 1) x ps sp := by
  obtain ⟨f, fd, hm, F⟩ := S.ex
  refine ⟨f, fd, hm, F.kp, F.bindsN hb, F.ok sc len fun cdv A outer s H vs Q E hr h => ?_⟩
  obtain ⟨t, ht, q⟩ := hbody f cdv A outer s H vs Q E hr h
  exact ⟨t, ht.nox, q⟩
end

/-! ### heaps -/
/-- what stood stands, but at d -/
def Kp (d : Addr) (H H' : Hp) : Prop := ∀ b o, b ≠ d → H b = some o → H' b = some o
theorem Kp.refl (d : Addr) (H : Hp) : Kp d H H := fun _ _ _ h => h
theorem Kp.of {d : Addr} {H H' : Hp} (s : Same H H') : Kp d H H' := fun b o _ h => s b o h
theorem Kp.trans {d : Addr} {H H1 H2 : Hp} (a : Kp d H H1) (b : Kp d H1 H2) : Kp d H H2 := fun c o n h => b c o n (a c o n h)
theorem Kp.then {d : Addr} {H H1 H2 : Hp} (a : Kp d H H1) (b : Same H1 H2) : Kp d H H2 := a.trans (.of b)
theorem Kp.at {d : Addr} {H H1 : Hp} {o : HO} : Kp d H (upd H d o) := fun b u n h => by rw [upd_ne n]; exact h
theorem Kp.free {d : Addr} {H H1 : Hp} {o : HO} (a : Kp d H H1) (hd : H d = some o) {p : Addr} (h : H1 p = none) (hd1 : H1 d ≠ none) : H p = none := by
  cases e : H p with
  | none => rfl
  | some u =>
    by_cases n : p = d
    · subst n
      exact absurd h hd1
    · rw [a p u n e] at h
      cases h
theorem Kp.seq {K : PySem.W.Frag} {d a : Addr} {H H' : Hp} {xs : List V} (e : Kp d H H') (n : a ≠ d) (h : SqL K H a xs) : SqL K H' a xs := by
  rcases h with (h | ⟨o, h⟩) | h
  · exact .inl (.inl (e _ _ n h))
  · exact .inl (.inr ⟨o, e _ _ n h⟩)
  · exact .inr h
theorem Kp.tup {K : PySem.W.Frag} {d a : Addr} {H H' : Hp} {xs : List V} (e : Kp d H H') (n : a ≠ d) (h : SqT K H a xs) : SqT K H' a xs := by
  rcases h with (h | ⟨o, h⟩) | h
  · exact .inl (.inl (e _ _ n h))
  · exact .inl (.inr ⟨o, e _ _ n h⟩)
  · exact .inr h
theorem sm {H : Hp} {p : Addr} {o : HO} (h : H p = none) : Same H (upd H p o) := fun b x e => by
  rw [upd_ne (ne_of_none e h)]
  exact e
theorem same_tup {K : PySem.W.Frag} {H H' : Hp} {a : Addr} {xs : List V} (e : Same H H') (h : SqT K H a xs) : SqT K H' a xs := by
  rcases h with (h | ⟨o, h⟩) | h
  · exact .inl (.inl (e _ _ h))
  · exact .inl (.inr ⟨o, e _ _ h⟩)
  · exact .inr h
/-- data stay as they are -/
theorem DpAll.mono {K : PySem.W.Frag} {H H' : Hp} (g : ∀ v d, Dp K H v d → Dp K H' v d) : ∀ {vs : List V} {ds : List PyData}, DpAll K H vs ds → DpAll K H' vs ds
  | _, _, .nil => .nil
  | _, _, .cons h t => .cons (g _ _ h) (DpAll.mono g t)
mutual
theorem Dp.same {K : PySem.W.Frag} {H H' : Hp} (s : Same H H') : ∀ (d : PyData) (v : V), Dp K H v d → Dp K H' v d
  | .none, _, h => by cases h; exact .non
  | .bool b, _, h => by cases h; exact .bl b
  | .int i, _, h => by cases h; exact .int i
  | .str x, _, h => by cases h; exact .str x
  | .list ds, _, h => by
    cases h with
    | lst hs ha => exact .lst (s.seq hs) (Dp.sameAll s ds _ ha)
  | .tuple ds, _, h => by
    cases h with
    | tup hs ha => exact .tup (same_tup s hs) (Dp.sameAll s ds _ ha)
  | .dict kvs, _, h => by cases h
theorem Dp.sameAll {K : PySem.W.Frag} {H H' : Hp} (s : Same H H') : ∀ (ds : List PyData) (vs : List V), DpAll K H vs ds → DpAll K H' vs ds
  | [], _, h => by cases h; exact .nil
  | d :: ds, _, h => by
    cases h with
    | cons h1 h2 => exact .cons (Dp.same s d _ h1) (Dp.sameAll s ds _ h2)
end

/-! ### readings by what stands -/
theorem ixn {n j : Nat} (hj : j < n) : ixN n (j : Int) = some j := by
  unfold ixN
  rw [if_pos (Int.natCast_nonneg j), if_pos (by omega), Int.toNat_natCast]
section
variable {K : PySem.W.Frag} {H : Hp} {a b : Addr} {xs ys : List V} {i : Int} {j : Nat} {v : V} {Q : VK}
theorem aI {α : Type} {xs : List α} {v : α} (h0 : 0 ≤ i) (e : xs[i.toNat]? = some v) : atI xs i = some v := by
  have e2 := atI_nat e
  rw [Int.toNat_of_nonneg h0] at e2
  exact e2
theorem sI {n : Nat} (h0 : 0 ≤ i) (hj : i < n) : ixN n i = some i.toNat := by
  unfold ixN
  rw [if_pos h0, if_pos hj]
theorem pI {n : Nat} (h0 : 0 ≤ i) (hj : i < n) : seqIndex? i n = some i.toNat := PySem.seqIndex_of h0 hj
theorem lz {n : Nat} (h : n ≤ 1000000) : n ≤ sizeLine := by
  rw [sizeLine_eq]
  omega
theorem lz' {n : Nat} (h : n ≤ 1000000) : n < sizeLine := by
  rw [sizeLine_eq]
  omega
theorem ty_list (h : H a = some (.lst xs)) : tyV K "list" (.ref a) H := .inl ⟨rfl, xs, SqL.of h⟩
end

/-! ### the layer's rules with the written part by name (within a comprehension's block it must be) -/
section
variable {X : Cx} {K : PySem.W.Frag}
theorem ix_listK (h : X.K = K) : IxR X (rIxL K) := by subst h; exact ix_list
theorem ix_tupK (h : X.K = K) : IxR X (rIxT K) := by subst h; exact ix_tup
theorem ix_seqK (h : X.K = K) : IxR X (rIx K) := by subst h; exact ix_seq
theorem sl_listK (h : X.K = K) : SlR X (rSlL K) := by subst h; exact sl_list
theorem op_in_seqK (h : X.K = K) : OpR X (compareOp .In) (rIn K false) := by subst h; exact op_in_seq
theorem op_notIn_seqK (h : X.K = K) : OpR X (compareOp .NotIn) (rIn K true) := by subst h; exact op_notIn_seq
theorem op_eqDK (hu : X.A.units + 64 < cLine) (h : X.K = K) : OpR X (compareOp .Eq) (rEqD K) := by subst h; exact op_eqD hu
theorem op_neDK (hu : X.A.units + 64 < cLine) (h : X.K = K) : OpR X (compareOp .NotEq) (rNeD K) := by subst h; exact op_neD hu
def rLenQ (K : PySem.W.Frag) : List V → Hp → VK → Prop := fun xs H Q => ∃ p ys, xs = [.ref p] ∧ (SqL K H p ys ∨ SqT K H p ys) ∧ Q (.int ys.length) H
theorem call_len_seqK (h : X.K = K) : CallR X (.builtin "len") (rLenQ K) := by subst h; exact call_len_seq
def rListQ (K : PySem.W.Frag) : List V → Hp → VK → Prop := fun xs H Q => ∃ p ys, xs = [.ref p] ∧ (SqL K H p ys ∨ SqT K H p ys) ∧ ∀ l, H l = none → Q (.ref l) (upd H l (.lst ys))
theorem call_list_ofK (h : X.K = K) : CallR X (.type "list") (rListQ K) := by subst h; exact call_list_of
theorem cr_sortedK (h : X.K = K) : CallR X (.builtin "sorted") (rSorted K) := by subst h; exact cr_sorted
theorem cr_allK (hc : X.calm = true) (h : X.K = K) : CallR X (.builtin "all") (rAll K) := by subst h; exact cr_all hc
theorem pe_fldK {e : Expr} {ta : TE} {f : Str} {pos : Pos} (h : X.K = K) (he : PE X e ta) (hb : attributeBase e f X.env (eval e X.env) = eval e X.env) : PE X (.Attribute e f pos) (tFld K ta f) := by subst h; exact pe_fld he hb
theorem ps_fldK {o value : Expr} {ta tv : TE} {f : Str} {pos pos' : Pos} (h : X.K = K) (ha : PE X o ta) (hv : PE X value tv) (hs : swapsWith value (some (.Attribute o f pos')) pos.line X.env = pure false) :
    PS X (.Assign [.Attribute o f pos'] value pos) (sFld K ta tv f) := by subst h; exact ps_fld ha hv hs
theorem pi_listK {tg l : Expr} {tl : TE} (h : X.K = K) (hl : PE X l tl) : PI X tg l (iList K tl) := by subst h; exact pi_list hl
theorem pi_tupK {tg l : Expr} {tl : TE} (h : X.K = K) (hl : PE X l tl) : PI X tg l (iTup K tl) := by subst h; exact pi_tup hl
theorem pi_enumK {e : Expr} {ta : TA} {p pos tpos : Pos} {elts : List Expr} {kk : Nat} (h : X.K = K) (hg : Gl X "enumerate") (hm : X.mg "enumerate" = none) (ha : PA X [e] ta) (hs : starEach [e] X.env = [(false, eval e X.env)] := by rfl) :
    PI X (.Tuple elts kk tpos) (.Call (.Name "enumerate" p) [e] [] pos) (iEnum K ta) := by subst h; exact pi_enum hg hm ha hs
end
theorem pe_gI {X : Cx} {x : Str} {i : Int} {pos : Pos} (hg : Gl X x) (h : ∃ t, X.mg x = some (.int i t)) (hd : (x == ("__debug__" : Str)) = false := by decide) : PE X (.Name x pos) (tC (.int i)) := by
  obtain ⟨t, e⟩ := h
  exact pe_glob (v := .int i) hg e ⟨t, rfl⟩ hd
theorem pe_gR {X : Cx} {x : Str} {a : Addr} {pos : Pos} (hg : Gl X x) (h : X.mg x = some (.ref a)) (hd : (x == ("__debug__" : Str)) = false := by decide) : PE X (.Name x pos) (tC (.ref a)) := pe_glob (v := .ref a) hg h rfl hd
/-! ### cuts: an expression, a test, with a word behind it -/
def tCutE (t : TE) : TE := fun σ H Q => ∃ Mid : V → Hp → Prop, t σ H Mid ∧ ∀ v H', Mid v H' → Q v H'
def tCutT (t : TT) : TT := fun σ H Q => ∃ Mid : Bool → Hp → Prop, t σ H Mid ∧ ∀ b H', Mid b H' → Q b H'
theorem pe_cut {X : Cx} {e : Expr} {t : TE} (h : PE X e t) : PE X e (tCutE t) :=
  ⟨fun pins s σ H Q I ⟨Mid, h1, h2⟩ => thn (h.run pins s σ H Mid I h1) fun _ _ ⟨v, H', I', r, q⟩ => ⟨v, H', I', r, h2 v H' q⟩⟩
theorem pt_cut {X : Cx} {e : Expr} {t : TT} (h : PT X e t) : PT X e (tCutT t) :=
  ⟨fun pins s σ H Q I ⟨Mid, h1, h2⟩ => thn (h.run pins s σ H Mid I h1) fun _ _ ⟨H', I', q⟩ => ⟨H', I', h2 _ H' q⟩⟩
end KT

/-! What each def promises; the mathematics. -/
namespace KT
open PySem PySem.Spec PyProof.Rows L2
/-! ### the dice -/
def Dice (H : Hp) (d : Addr) : Prop := ∃ (x y : Int) (zs : List Int), H d = some (.lst (V.int x :: V.int y :: zs.map V.int)) ∧ 0 ≤ x ∧ x < 2147483647 ∧ 0 ≤ y ∧ (∀ z ∈ zs, 0 ≤ z) ∧ zs.length ≤ 63
theorem Dice.some {H : Hp} {d : Addr} (h : Dice H d) : ∃ o, H d = Option.some o := by
  obtain ⟨x, y, zs, e, _⟩ := h
  exact ⟨_, e⟩
theorem Dice.ne {H : Hp} {d p : Addr} (h : Dice H d) (n : H p = none) : p ≠ d := by
  obtain ⟨o, e⟩ := h.some
  exact (ne_of_none e n).symm
theorem Dice.same {H H' : Hp} {d : Addr} (h : Dice H d) (s : Same H H') : Dice H' d := by
  obtain ⟨x, y, zs, e, r⟩ := h
  exact ⟨x, y, zs, s _ _ e, r⟩
/-- behind what kept all but the dice: what is free now was free -/
theorem Kp.new {d : Addr} {H H1 : Hp} (a : Kp d H H1) (hd : Dice H1 d) {p : Addr} (h : H1 p = none) : H p = none := by
  have n := hd.ne h
  cases e : H p with
  | none => rfl
  | some u =>
    rw [a p u n e] at h
    cases h
def spDice (K : PySem.W.Frag) : Sp := fun vs H Q _ => ∃ (a : Addr) (ns : List Int), vs = [.ref a, .int 0] ∧ SqL K H a (ns.map V.int) ∧ ns.length ≤ 63 ∧ ∀ (p : Addr) (H' : Hp), H p = none → Same H H' → Dice H' p → Q (.ref p) H'
def spOff : Sp := fun vs H Q _ => ∃ (d : Addr) (m : Int), vs = [.ref d, .int m] ∧ Dice H d ∧ 0 < m ∧ m < 1073741824 ∧ ∀ (r : Int) (H' : Hp), 0 ≤ r → r < m → Dice H' d → Kp d H H' → Q (.int r) H'
theorem int_of {ns : List Int} {i : Nat} {y : V} (h : (ns.map V.int)[i]? = some y) : ∃ z, y = V.int z := by
  rw [List.getElem?_map] at h
  cases e : ns[i]? with
  | none =>
    rw [e] at h
    cases h
  | some z =>
    rw [e] at h
    exact ⟨z, (Option.some.inj h).symm⟩
theorem int_at {ns : List Int} {i : Nat} {y : V} (h : (ns.map V.int)[i]? = some y) : ∃ z, y = V.int z ∧ ns[i]? = some z := by
  rw [List.getElem?_map] at h
  cases e : ns[i]? with
  | none =>
    rw [e] at h
    cases h
  | some z =>
    rw [e] at h
    exact ⟨z, (Option.some.inj h).symm, rfl⟩
theorem at_int {ns : List Int} {i : Nat} {z : Int} (h : ns[i]? = some z) : (ns.map V.int)[i]? = some (V.int z) := by
  rw [List.getElem?_map, h]
  rfl
/-! ### readings -/
theorem par (n : Int) : n % 2 = 0 ∨ n % 2 = 1 := by omega
def kinds (n : Int) : List Int := if n % 2 = 0 then [1, 3] else [1, 3, 7]
theorem kinds_even {n : Int} (h : n % 2 = 0) : kinds n = [1, 3] := if_pos h
theorem kinds_odd {n : Int} (h : n % 2 = 1) : kinds n = [1, 3, 7] := if_neg (by omega)
def spKinds : Sp := fun vs H Q _ => ∃ n : Int, vs = [.int n] ∧ ∀ (p : Addr) (H' : Hp), H p = none → Same H H' → H' p = some (.lst ((kinds n).map V.int)) → Q (.ref p) H'
/-! ### comprehensions without tests: what is kept, what each item is -/
theorem same_put {H H1 : Hp} {D : Addr} {o : HO} (s : Same H H1) (n : H D = none) : Same H (upd H1 D o) := fun b u e => by
  rw [upd_ne (ne_of_none e n)]
  exact s b u e
theorem Kp.put {d : Addr} {H H1 : Hp} {D : Addr} {o : HO} (s : Kp d H H1) (n : H D = none) : Kp d H (upd H1 D o) := fun b u nb e => by
  rw [upd_ne (ne_of_none e n)]
  exact s b u nb e
theorem Dice.put {H : Hp} {d D : Addr} {o : HO} (h : Dice H d) (n : D ≠ d) : Dice (upd H D o) d := by
  obtain ⟨x, y, zs, e, r⟩ := h
  exact ⟨x, y, zs, by rw [upd_ne n.symm]; exact e, r⟩
section
variable {J : It} {n : Nat} {G : Hp → Prop} {Y : Nat → Hp → V → Hp → Prop} {g : TG} {te : TE} {vs : List Nat} {σ : L2.St} {H1 : Hp} {D : Addr} {Qd : Hp → Prop}
/-- all kept -/
theorem lc_s (w : Walk J n G Y) (Pe : Nat → V → Prop) (nD : H1 D = none) (hn : n ≤ 1000000) (hG : ∀ H, Same H1 H → G H)
    (hs : ∀ i x H H' (acc : List V) (k : V → Hp → Prop), i < n → Same H1 H → H D = some (.lst acc) → acc.length = i → Y i H x H' → (∀ y H4, Same H1 H4 → H4 D = some (.lst acc) → Pe i y → k y H4) →
      g x (wipe σ vs) H' fun σ2 H2 => wipe σ2 vs = wipe σ vs ∧ te σ2 H2 k)
    (hd : ∀ H xs, Same H1 H → H D = some (.lst xs) → xs.length = n → (∀ i y, xs[i]? = some y → Pe i y) → Qd H) :
    ∃ W : Nat → Nat → Hp → Prop, (∃ m, W 0 m (upd H1 D (.lst []))) ∧ ∀ i m H, W i m H →
      (J.stop i H ∧ Qd H) ∨ (J.go i H ∧ ∃ Nx : Hp → Prop, (∀ H', Nx H' → ∃ m', m' < m ∧ W (i + 1) m' H') ∧ ∀ x H', J.yld i H x H' → g x (wipe σ vs) H' fun σ2 H2 => wipe σ2 vs = wipe σ vs ∧ tYes σ2 H2 fun b H3 =>
        if b = true then te σ2 H3 fun y H4 => ∃ acc, H4 D = some (.lst acc) ∧ acc.length < sizeLine ∧ Nx (upd H4 D (.lst (acc ++ [y]))) else Nx H3) := by
  refine lc_it w (tt := tYes) (fun i H => ∃ xs, Same H1 H ∧ H D = some (.lst xs) ∧ xs.length = i ∧ ∀ i y, xs[i]? = some y → Pe i y) ⟨[], sm nD, upd_same, rfl, fun i y h => by simp at h⟩ (fun i H _ ⟨_, s, _⟩ => hG H s) ?_ fun H ⟨xs, s, e, l, q⟩ => hd H xs s e l q
  rintro i x H H' hi ⟨xs, s, e, l, q⟩ y
  refine hs i x H H' xs _ hi s e l y fun z H4 s4 e4 p4 => ⟨xs, e4, lz' (by omega), xs ++ [z], same_put s4 nD, upd_same, by rw [List.length_append, l]; rfl, fun j u hu => ?_⟩
  by_cases hj : j < xs.length
  · rw [List.getElem?_append_left hj] at hu
    exact q j u hu
  · have e5 : j = i := by
      have := (List.getElem?_eq_some_iff.mp hu).1
      rw [List.length_append] at this
      simp at this
      omega
    subst e5
    rw [← l, List.getElem?_append_right (Nat.le_refl _), Nat.sub_self] at hu
    cases hu
    exact l ▸ p4
/-- all kept but the dice -/
theorem lc_d {d : Addr} (w : Walk J n G Y) (Pe : Nat → V → Prop) (hd1 : Dice H1 d) (nD : H1 D = none) (hn : n ≤ 1000000) (hG : ∀ H, Kp d H1 H → G H)
    (hs : ∀ i x H H' (acc : List V) (k : V → Hp → Prop), i < n → Kp d H1 H → Dice H d → H D = some (.lst acc) → acc.length = i → Y i H x H' → (∀ y H4, Kp d H1 H4 → Dice H4 d → H4 D = some (.lst acc) → Pe i y → k y H4) →
      g x (wipe σ vs) H' fun σ2 H2 => wipe σ2 vs = wipe σ vs ∧ te σ2 H2 k)
    (hd : ∀ H xs, Kp d H1 H → Dice H d → H D = some (.lst xs) → xs.length = n → (∀ i y, xs[i]? = some y → Pe i y) → Qd H) :
    ∃ W : Nat → Nat → Hp → Prop, (∃ m, W 0 m (upd H1 D (.lst []))) ∧ ∀ i m H, W i m H →
      (J.stop i H ∧ Qd H) ∨ (J.go i H ∧ ∃ Nx : Hp → Prop, (∀ H', Nx H' → ∃ m', m' < m ∧ W (i + 1) m' H') ∧ ∀ x H', J.yld i H x H' → g x (wipe σ vs) H' fun σ2 H2 => wipe σ2 vs = wipe σ vs ∧ tYes σ2 H2 fun b H3 =>
        if b = true then te σ2 H3 fun y H4 => ∃ acc, H4 D = some (.lst acc) ∧ acc.length < sizeLine ∧ Nx (upd H4 D (.lst (acc ++ [y]))) else Nx H3) := by
  have nDd : D ≠ d := hd1.ne nD
  refine lc_it w (tt := tYes) (fun i H => ∃ xs, Kp d H1 H ∧ Dice H d ∧ H D = some (.lst xs) ∧ xs.length = i ∧ ∀ i y, xs[i]? = some y → Pe i y) ⟨[], (Kp.refl d H1).put nD, hd1.put nDd, upd_same, rfl, fun i y h => by simp at h⟩ (fun i H _ ⟨_, s, _⟩ => hG H s) ?_
    fun H ⟨xs, s, dd, e, l, q⟩ => hd H xs s dd e l q
  rintro i x H H' hi ⟨xs, s, dd, e, l, q⟩ y
  refine hs i x H H' xs _ hi s dd e l y fun z H4 s4 d4 e4 p4 => ⟨xs, e4, lz' (by omega), xs ++ [z], s4.put nD, d4.put nDd, upd_same, by rw [List.length_append, l]; rfl, fun j u hu => ?_⟩
  by_cases hj : j < xs.length
  · rw [List.getElem?_append_left hj] at hu
    exact q j u hu
  · have e5 : j = i := by
      have := (List.getElem?_eq_some_iff.mp hu).1
      rw [List.length_append] at this
      simp at this
      omega
    subst e5
    rw [← l, List.getElem?_append_right (Nat.le_refl _), Nat.sub_self] at hu
    cases hu
    exact l ▸ p4
end
/-- a list of ints, item by item -/
theorem ints_of {xs : List V} {Pi : Nat → Int → Prop} (h : ∀ i y, xs[i]? = some y → ∃ z, y = V.int z ∧ Pi i z) : ∃ ns : List Int, xs = ns.map V.int ∧ ns.length = xs.length ∧ ∀ i z, ns[i]? = some z → Pi i z := by
  induction xs generalizing Pi with
  | nil => exact ⟨[], rfl, rfl, fun i z h => by simp at h⟩
  | cons x xs ih =>
    obtain ⟨z, e, pz⟩ := h 0 x rfl
    obtain ⟨ns, e2, l, q⟩ := ih (Pi := fun i => Pi (i + 1)) fun i y hy => h (i + 1) y hy
    refine ⟨z :: ns, by rw [e, e2]; rfl, by rw [List.length_cons, List.length_cons, l], fun i u hu => ?_⟩
    cases i with
    | zero =>
      cases hu
      exact pz
    | succ i => exact q i u hu
/-! ### readings and times -/
/-- a reading of times from a numbered one on -/
def Rdg (o : Int) (ks : List Int) : Prop := ∀ (i : Nat) (k : Int), ks[i]? = some k → k ∈ kinds (o + i)
theorem kinds_at {n r : Int} (h0 : 0 ≤ r) (h1 : r < 2 + n % 2) : ∃ k, ((kinds n).map V.int)[r.toNat]? = some (V.int k) ∧ k ∈ kinds n := by
  rcases par n with e | e
  · rw [kinds_even e]
    rcases (by omega : r = 0 ∨ r = 1) with rfl | rfl
    · exact ⟨1, rfl, by decide⟩
    · exact ⟨3, rfl, by decide⟩
  · rw [kinds_odd e]
    rcases (by omega : r = 0 ∨ r = 1 ∨ r = 2) with rfl | rfl | rfl
    · exact ⟨1, rfl, by decide⟩
    · exact ⟨3, rfl, by decide⟩
    · exact ⟨7, rfl, by decide⟩
theorem kinds_le {n k : Int} (h : k ∈ kinds n) : k = 1 ∨ k = 3 ∨ k = 7 := by
  rcases par n with e | e
  · rw [kinds_even e] at h
    simp at h
    omega
  · rw [kinds_odd e] at h
    simp at h
    omega
theorem kinds_one (n : Int) : (1 : Int) ∈ kinds n := by
  rcases par n with e | e
  · rw [kinds_even e]
    decide
  · rw [kinds_odd e]
    decide
theorem kinds_three (n : Int) : (3 : Int) ∈ kinds n := by
  rcases par n with e | e
  · rw [kinds_even e]
    decide
  · rw [kinds_odd e]
    decide
def spReading : Sp := fun vs H Q _ => ∃ (d : Addr) (n : Int), vs = [.ref d, .int n] ∧ Dice H d ∧ 0 ≤ n ∧ n ≤ 1000 ∧
  ∀ (ks : List Int) (p : Addr) (H' : Hp), (ks.length : Int) = n → Rdg 0 ks → H p = none → H' p = some (.lst (ks.map V.int)) → Dice H' d → Kp d H H' → Q (.ref p) H'
structure Tps (ts : List Int) : Prop where
  odd : ts.length % 2 = 1
  le : ts.length ≤ 25
  all : ∀ (i : Nat) (t : Int), ts[i]? = some t → 1 ≤ t ∧ t ≤ 9999
def spTimes : Sp := fun vs H Q _ => ∃ (d : Addr) (m : Int), vs = [.ref d, .int m] ∧ Dice H d ∧ 1 ≤ m ∧ m ≤ 25 ∧
  ∀ (ts : List Int) (p : Addr) (H' : Hp), Tps ts → (ts.length : Int) ≤ m → H p = none → H' p = some (.lst (ts.map V.int)) → Dice H' d → Kp d H H' → Q (.ref p) H'
theorem pick2 (b : Bool) (x y : V) : atI [x, y] (if b = true then 1 else 0) = some (if b = true then y else x) := by
  cases b with
  | false => exact aI (by decide) rfl
  | true => exact aI (by decide) rfl
end KT

/-! list(zip(xs, ys)) of two lists of one length. -/
namespace KT
open PySem PySem.Spec PyProof.Rows L2
/-- the zip at a turn: its own tuple free, or the first one that it gave still out -/
def ZipAt (h : Heap) (z TI TO : Addr) : Prop := (IsZip h z TI TO .none ∧ ∃ a b, IsPair h TO a b) ∨ ∃ T f oT, IsZipHeld h z TI TO T f ∧ h.get? T = some oT
/-- the list so far: new pairs -/
def PairsAt (h : Heap) (S : Addr) (xs ys acc : Array Value) (i : Nat) : Prop := acc.size = i ∧ ∀ (j : Nat) (u : Value), acc[j]? = some u → ∃ (T : Addr) (x y : Value), u = Value.ref T ∧ S < T ∧ xs[j]? = some x ∧ ys[j]? = some y ∧ IsPair h T x y
theorem PairsAt.keep {h h' : Heap} {S : Addr} {xs ys acc : Array Value} {i : Nat} (p : PairsAt h S xs ys acc i) (k : ∀ b o, S < b → h.get? b = some o → h'.get? b = some o) : PairsAt h' S xs ys acc i :=
  ⟨p.1, fun j u e => by
    obtain ⟨T, x, y, e1, hT, e2, e3, e4⟩ := p.2 j u e
    exact ⟨T, x, y, e1, hT, e2, e3, k _ _ hT e4⟩⟩
theorem PairsAt.push {h : Heap} {S T : Addr} {xs ys acc : Array Value} {i : Nat} {x y : Value} (p : PairsAt h S xs ys acc i) (hT : S < T) (hx : xs[i]? = some x) (hy : ys[i]? = some y) (e : IsPair h T x y) : PairsAt h S xs ys (acc.push (.ref T)) (i + 1) := by
  refine ⟨by rw [Array.size_push, p.1], fun j u hj => ?_⟩
  rw [Array.getElem?_push] at hj
  split at hj
  · rename_i e5
    rw [p.1] at e5
    cases hj
    subst e5
    exact ⟨T, x, y, rfl, hT, hx, hy, e⟩
  · exact p.2 j u hj
section
variable {prog : Program} {w : World} {A : Around} {R : Result → Shared → Prop} {z TI TO i1 i2 l1 l2 S : Addr} {xs ys : Array Value} {n : Nat}
/-- what is kept: all but the zip's own records and the list itself -/
def KeptBut (z TO i1 i2 S : Addr) (h h' : Heap) : Prop := ∀ b o, b ≠ z → b ≠ TO → b ≠ i1 → b ≠ i2 → b ≠ S → h.get? b = some o → h'.get? b = some o
theorem zip_loop (hh : A.handled = none) (D : ZipApart z TI TO i1 i2 l1 l2) (hS : z < S ∧ TI < S ∧ TO < S ∧ i1 < S ∧ i2 < S ∧ l1 < S ∧ l2 < S) (hx : xs.size = n) (hy : ys.size = n) (hn : n ≤ sizeLine) :
    ∀ (k i : Nat) (s : Shared) (acc : Array Value) (c : Nat), n - i = k → i ≤ n → ZipAt s.heap z TI TO → IsPair s.heap TI (.ref i1) (.ref i2) → s.heap.IsListIter i1 l1 i → s.heap.IsListIter i2 l2 i → s.heap.IsList l1 xs → s.heap.IsList l2 ys →
      s.heap.get? S = some { cls := .type "list", dict := none, data := .seq acc c, slots := #[] } → PairsAt s.heap S xs ys acc i →
      (∀ h' acc' c', KeptBut z TO i1 i2 S s.heap h' → h'.get? S = some { cls := .type "list", dict := none, data := .seq acc' c', slots := #[] } → PairsAt h' S xs ys acc' n → R (.ok (.ret .none)) { s with heap := h' }) →
      codeAny (model prog w) A (.builtin "list.extend.loop" ⟨[.ref S, .ref z, .none], []⟩) R s := by
  obtain ⟨z0, TI0, TO0, i10, i20, l10, l20⟩ := hS
  have a1 : z ≠ S := Nat.ne_of_lt z0
  have a2 : TI ≠ S := Nat.ne_of_lt TI0
  have a3 : TO ≠ S := Nat.ne_of_lt TO0
  have a4 : i1 ≠ S := Nat.ne_of_lt i10
  have a5 : i2 ≠ S := Nat.ne_of_lt i20
  have a6 : l1 ≠ S := Nat.ne_of_lt l10
  have a7 : l2 ≠ S := Nat.ne_of_lt l20
  intro k
  induction k with
  | zero =>
    intro i s acc c hk hi hz hTI h1 h2 hl1 hl2 hSo hacc hR
    have hin : i = n := by omega
    subst hin
    refine codeAny_builtin F.entry_extend_loop ?_
    rw [Around.under_plainId F.plain_extend_loop _]
    show wpAny _ A.in1 (pyNext (.ref z) >>= _) _ _ s
    have he : xs[i]? = none ∨ ys[i]? = none := .inl (Array.getElem?_eq_none (by omega))
    rcases hz with ⟨hz, a, b, hTO⟩ | ⟨T, f, oT, hz, hT⟩
    · refine wpAny_bind (wpAny_pyNext_zip_end hh D hz hTI hTO h1 h2 hl1 hl2 he fun h' hkp => ?_)
      exact wpAny_pure (hR h' acc c (fun b o b1 b2 b3 b4 b5 e => hkp b o b1 b2 b3 b4 e) (hkp S _ a1.symm a3.symm a4.symm a5.symm hSo) (hacc.keep fun b o hb e => hkp b o (Nat.ne_of_gt (Nat.lt_trans z0 hb)) (Nat.ne_of_gt (Nat.lt_trans TO0 hb)) (Nat.ne_of_gt (Nat.lt_trans i10 hb)) (Nat.ne_of_gt (Nat.lt_trans i20 hb)) e))
    · refine wpAny_bind (wpAny_pyNext_zip_end_held hh D hz hT hTI h1 h2 hl1 hl2 he fun h' hkp => ?_)
      exact wpAny_pure (hR h' acc c (fun b o b1 b2 b3 b4 b5 e => hkp b o b1 b3 b4 e) (hkp S _ a1.symm a4.symm a5.symm hSo) (hacc.keep fun b o hb e => hkp b o (Nat.ne_of_gt (Nat.lt_trans z0 hb)) (Nat.ne_of_gt (Nat.lt_trans i10 hb)) (Nat.ne_of_gt (Nat.lt_trans i20 hb)) e))
  | succ k ih =>
    intro i s acc c hk hi hz hTI h1 h2 hl1 hl2 hSo hacc hR
    have hlt : i < n := by omega
    have hix : xs[i]? = some xs[i] := Array.getElem?_eq_getElem (by omega)
    have hiy : ys[i]? = some ys[i] := Array.getElem?_eq_getElem (by omega)
    refine codeAny_builtin F.entry_extend_loop ?_
    rw [Around.under_plainId F.plain_extend_loop _]
    show wpAny _ A.in1 (pyNext (.ref z) >>= _) _ _ s
    have sT : S < s.heap.objs.size := Heap.lt_size hSo
    -- behind the draw
    have go : ∀ h', ZipAt h' z TI TO → IsPair h' TI (.ref i1) (.ref i2) → h'.IsListIter i1 l1 (i + 1) → h'.IsListIter i2 l2 (i + 1) → IsPair h' s.heap.objs.size xs[i] ys[i] → h'.objs.size = s.heap.objs.size + 1 →
        (∀ b o, b ≠ z → b ≠ TO → b ≠ i1 → b ≠ i2 → s.heap.get? b = some o → h'.get? b = some o) →
        wpAny (model prog w) A.in1 (updateSeq S (·.push (.ref s.heap.objs.size)) >>= fun _ => again (.builtin "list.extend.loop" ⟨[.ref S, .ref z, .none], []⟩)) (fun fin s' => match fin with | .done f => R (.ok f) s' | .again c' => c'.quiet = true ∧ codeAny (model prog w) A c' R s') (fun e s' => R (.error e) s') { s with heap := h' } := by
      intro h' hz' hTI' h1' h2' hT' hsz hkp
      have hS' := hkp S _ a1.symm a3.symm a4.symm a5.symm hSo
      refine wpAny_bind ?_
      refine wpAny_updateSeq (s := { s with heap := h' }) hS' rfl (wpAny_pure ⟨plainId_quiet F.plain_extend_loop _, ?_⟩) (by rw [hacc.1]; omega) (by show (acc.push _).size ≤ sizeLine + 1; rw [Array.size_push, hacc.1]; omega)
      have oth : ∀ b o, b ≠ S → h'.get? b = some o → (h'.update S (Obj.mapSeq (·.push (.ref s.heap.objs.size)))).get? b = some o := fun b o hb e => (Heap.get?_update_other _ _ (Ne.symm hb)).trans e
      have nS : s.heap.objs.size ≠ S := Nat.ne_of_gt sT
      refine ih (i + 1) _ (acc.push (.ref s.heap.objs.size)) _ (by omega) hlt ?_ (oth _ _ a2 hTI') (h1'.at fun o e => oth _ o a4 e) (h2'.at fun o e => oth _ o a5 e) ?_ ?_ (Heap.get?_update_self _ hS' rfl) ?_ ?_
      · rcases hz' with ⟨e1, a, b, e2⟩ | ⟨T, f, oT, e1, e2⟩
        · exact .inl ⟨oth _ _ a1 e1, a, b, oth _ _ a3 e2⟩
        · by_cases hTS : T = S
          · exact .inr ⟨T, f, _, oth _ _ a1 e1, by rw [hTS]; exact Heap.get?_update_self _ hS' rfl⟩
          · exact .inr ⟨T, f, oT, oth _ _ a1 e1, oth _ _ hTS e2⟩
      · exact (hl1.at fun o e => hkp _ o D.l1z D.l1TO D.l1i1 D.l1i2 e).at fun o e => oth _ o a6 e
      · exact (hl2.at fun o e => hkp _ o D.l2z D.l2TO D.l2i1 D.l2i2 e).at fun o e => oth _ o a7 e
      · refine (PairsAt.push ?_ sT hix hiy hT').keep fun b o hb e => oth b o (Nat.ne_of_gt hb) e
        exact hacc.keep fun b o hb e => hkp b o (Nat.ne_of_gt (Nat.lt_trans z0 hb)) (Nat.ne_of_gt (Nat.lt_trans TO0 hb)) (Nat.ne_of_gt (Nat.lt_trans i10 hb)) (Nat.ne_of_gt (Nat.lt_trans i20 hb)) e
      · exact fun h'' acc' c' kp e pa => hR h'' acc' c' (fun b o b1 b2 b3 b4 b5 e => kp b o b1 b2 b3 b4 b5 (oth b o b5 (hkp b o b1 b2 b3 b4 e))) e pa
    rcases hz with ⟨hz, a, b, hTO⟩ | ⟨T, f, oT, hz, hT⟩
    · refine wpAny_bind (wpAny_pyNext_zip_item D hz hTI hTO h1 h2 hl1 hl2 hix hiy fun h' b1 b2 b3 b4 b5 b6 b7 => ?_)
      exact go h' (.inr ⟨_, false, _, b1, b5⟩) (b7 _ _ D.TIz D.TITO D.TIi1 D.TIi2 hTI) b3 b4 b5 b6 fun b o c1 c2 c3 c4 e => b7 b o c1 c2 c3 c4 e
    · refine wpAny_bind (wpAny_pyNext_zip_item_held D hz hT hTI h1 h2 hl1 hl2 hix hiy fun h' b1 b3 b4 b5 b6 b7 => ?_)
      refine go h' (.inr ⟨T, true, ?_⟩) (b7 _ _ D.TIz D.TIi1 D.TIi2 hTI) b3 b4 b5 b6 fun b o c1 c2 c3 c4 e => b7 b o c1 c3 c4 e
      by_cases t1 : T = z
      · exact ⟨_, b1, by rw [t1]; exact b1⟩
      · by_cases t2 : T = i1
        · obtain ⟨o, e, _⟩ := b3
          exact ⟨o, b1, by rw [t2]; exact e⟩
        · by_cases t3 : T = i2
          · obtain ⟨o, e, _⟩ := b4
            exact ⟨o, b1, by rw [t3]; exact e⟩
          · exact ⟨oT, b1, b7 _ _ t1 t2 t3 hT⟩
end
section
variable {prog : Program} {w : World} {A : Around} {E : Value → Shared → Prop} {s : Shared} {z TI TO i1 i2 l1 l2 : Addr} {xs ys : Array Value} {n : Nat}
theorem zip_no_len : typeLookup (.type "zip") "__len__" = pure none := by rw [typeLookup_type, builtinLookup_eq_fast]; kernel_rfl
theorem zip_no_hint : typeLookup (.type "zip") "__length_hint__" = pure none := by rw [typeLookup_type, builtinLookup_eq_fast]; kernel_rfl
/-- list.__init__ of a zip -/
theorem zip_init {R : Result → Shared → Prop} {S : Addr} (hh : A.handled = none) (D : ZipApart z TI TO i1 i2 l1 l2) (hS : z < S ∧ TI < S ∧ TO < S ∧ i1 < S ∧ i2 < S ∧ l1 < S ∧ l2 < S) (hx : xs.size = n) (hy : ys.size = n) (hn : n ≤ sizeLine)
    (hz : IsZip s.heap z TI TO .none) (hTI : IsPair s.heap TI (.ref i1) (.ref i2)) (hTO : IsPair s.heap TO .none .none) (h1 : s.heap.IsListIter i1 l1 0) (h2 : s.heap.IsListIter i2 l2 0) (hl1 : s.heap.IsList l1 xs) (hl2 : s.heap.IsList l2 ys)
    (hS0 : s.heap.get? S = some { cls := .type "list", data := .seq #[] })
    (hR : ∀ h' acc' c', KeptBut z TO i1 i2 S s.heap h' → h'.get? S = some { cls := .type "list", dict := none, data := .seq acc' c', slots := #[] } → PairsAt h' S xs ys acc' n → R (.ok (.ret .none)) { s with heap := h' }) :
    wpAny (model prog w) A.in1 (Builtin.«list.__init__» ⟨[.ref S, .ref z], []⟩)
      (fun fin s' => match fin with | .done f => R (.ok f) s' | .again c' => c'.quiet = true ∧ codeAny (model prog w) A c' R s') (fun e s' => R (.error e) s') s := by
  obtain ⟨z0, TI0, TO0, i10, i20, l10, l20⟩ := id hS
  show wpAny _ _ (do let old ← Builtin.List.listItems (.ref S); Builtin.List.listUpdate (.ref S) (fun _ => #[]); letGo old.toList.reverse; Builtin.List.listExtendWith (.ref S) (.ref z) .none) _ _ s
  refine wpAny_bind ?_
  unfold Builtin.List.listItems
  refine wpAny_bind (wpAny_seqItems hS0 rfl (wpAny_pure ?_))
  show wpAny _ _ (updateSeq S (fun _ => #[]) >>= fun _ => letGo (#[] : Array Value).toList.reverse >>= fun _ => Builtin.List.listExtendWith (.ref S) (.ref z) .none) _ _ s
  refine wpAny_bind (wpAny_updateSeq hS0 rfl ?_)
  have hS1 := Heap.get?_update_self (Obj.mapSeq (fun _ => (#[] : Array Value))) hS0 rfl
  generalize hh1 : s.heap.update S (Obj.mapSeq (fun _ => (#[] : Array Value))) = g1 at hS1 ⊢
  have o1 : ∀ b o, b ≠ S → s.heap.get? b = some o → g1.get? b = some o := fun b o hb e => by
    rw [← hh1]
    exact (Heap.get?_update_other _ _ (Ne.symm hb)).trans e
  refine wpAny_bind (wpAny_letGo ?_)
  have ne : ∀ {b : Addr}, b < S → b ≠ S := fun e => Nat.ne_of_lt e
  have hz1 := o1 _ _ (ne z0) hz
  have hT : ({ s with heap := g1 } : Shared).TypeIs (.ref z) "zip" := ⟨_, hz1, rfl⟩
  unfold Builtin.List.listExtendWith
  refine wpAny_bind (wpAny_typeOf hT ?_)
  have f1 : Builtin.List.listSameRef (.ref S) (.ref z) = false := by simp [Builtin.List.listSameRef, (ne z0).symm]
  have f2 : (Value.type "zip" == Value.type "list") = false := by decide
  have f3 : (Value.type "zip" == Value.type "tuple") = false := by decide
  simp only [f1, f2, f3, Bool.or_false, Bool.false_eq_true, if_false]
  refine wpAny_bind (wpAny_pyIter_zip hz1 ?_)
  refine wpAny_bind (wpAny_holding ?_)
  unfold Builtin.List.listLengthHint
  refine wpAny_bind (wpAny_specialOf hT zip_no_len ?_)
  show wpAny _ A.in1 (specialOf (Value.ref z) (Str.ofString "__length_hint__") >>= _) _ _ _
  refine wpAny_bind (wpAny_specialOf hT zip_no_hint ?_)
  refine wpAny_pure ?_
  show wpAny _ A.in1 (rule "list.extend.makes-room" >>= fun _ => Builtin.List.listTouch (.ref S) >>= fun _ => again (.builtin "list.extend.loop" ⟨[.ref S, .ref z, .none], []⟩)) _ _ _
  refine wpAny_bind (wpAny_rule (wpAny_bind ?_))
  show wpAny _ A.in1 (updateSeq S (·.push .none) >>= fun _ => updateSeq S (·.pop)) _ _ _
  refine wpAny_bind (wpAny_updateSeq hS1 rfl ?_)
  have hS2 := Heap.get?_update_self (Obj.mapSeq (·.push Value.none)) hS1 rfl
  generalize hh2 : g1.update S (Obj.mapSeq (·.push Value.none)) = g2 at hS2 ⊢
  refine wpAny_updateSeq hS2 rfl ?_
  have hS3 := Heap.get?_update_self (Obj.mapSeq (·.pop)) hS2 rfl
  generalize hh3 : g2.update S (Obj.mapSeq (·.pop)) = g3 at hS3 ⊢
  have o3 : ∀ b o, b ≠ S → s.heap.get? b = some o → g3.get? b = some o := fun b o hb e => by
    rw [← hh3]
    refine (Heap.get?_update_other _ _ (Ne.symm hb)).trans ?_
    rw [← hh2]
    exact (Heap.get?_update_other _ _ (Ne.symm hb)).trans (o1 b o hb e)
  refine wpAny_pure ⟨plainId_quiet F.plain_extend_loop _, zip_loop hh D hS hx hy hn n 0 _ _ _ rfl (Nat.zero_le _) (.inl ⟨o3 _ _ (ne z0) hz, _, _, o3 _ _ (ne TO0) hTO⟩) (o3 _ _ (ne TI0) hTI)
    (h1.at fun o e => o3 _ o (ne i10) e) (h2.at fun o e => o3 _ o (ne i20) e) (hl1.at fun o e => o3 _ o (ne l10) e) (hl2.at fun o e => o3 _ o (ne l20) e) hS3 ⟨rfl, fun j u e => by simp at e⟩ fun h' acc' c' kp e pa => ?_⟩
  exact hR h' acc' c' (fun b o b1 b2 b3 b4 b5 e => kp b o b1 b2 b3 b4 b5 (o3 b o b5 e)) e pa
theorem call_list_zip {Q : Value → Shared → Prop} (hh : A.handled = none) (D : ZipApart z TI TO i1 i2 l1 l2) (hx : xs.size = n) (hy : ys.size = n) (hn : n ≤ sizeLine)
    (hz : IsZip s.heap z TI TO .none) (hTI : IsPair s.heap TI (.ref i1) (.ref i2)) (hTO : IsPair s.heap TO .none .none) (h1 : s.heap.IsListIter i1 l1 0) (h2 : s.heap.IsListIter i2 l2 0) (hl1 : s.heap.IsList l1 xs) (hl2 : s.heap.IsList l2 ys)
    (hQ : ∀ h' acc' c', (∀ b o, b ≠ z → b ≠ TO → b ≠ i1 → b ≠ i2 → s.heap.get? b = some o → h'.get? b = some o) → h'.get? s.heap.objs.size = some { cls := .type "list", dict := none, data := .seq acc' c', slots := #[] } →
      PairsAt h' s.heap.objs.size xs ys acc' n → Q (.ref s.heap.objs.size) { s with heap := h' }) : wpAny (model prog w) A (call (.type "list") [.ref z]) Q E s := by
  have lt : ∀ {b : Addr} {o : Obj}, s.heap.get? b = some o → b < s.heap.objs.size := fun e => Heap.lt_size e
  have hS : z < s.heap.objs.size ∧ TI < s.heap.objs.size ∧ TO < s.heap.objs.size ∧ i1 < s.heap.objs.size ∧ i2 < s.heap.objs.size ∧ l1 < s.heap.objs.size ∧ l2 < s.heap.objs.size := by
    obtain ⟨o1, e1, _⟩ := id h1
    obtain ⟨o2, e2, _⟩ := id h2
    obtain ⟨o3, e3, _⟩ := id hl1
    obtain ⟨o4, e4, _⟩ := id hl2
    exact ⟨lt hz, lt hTI, lt hTO, lt e1, lt e2, lt e3, lt e4⟩
  refine callType_codes (Q₁ := fun obj s₁ => obj = .ref s.heap.objs.size ∧ s₁ = { s with heap := s.heap.push { cls := .type "list", data := .seq #[] } }) F.called_list (F.typeCall_list_1 _) F.entry_list_init
    (code_list_new _ ⟨rfl, rfl⟩) fun obj s₁ h₁ => ?_
  obtain ⟨rfl, rfl⟩ := h₁
  have up : ∀ {b : Addr} {o : Obj}, s.heap.get? b = some o → (s.heap.push { cls := .type "list", data := .seq #[] }).get? b = some o := fun e => Heap.get?_push_of_some _ e
  have hS0 : (s.heap.push { cls := .type "list", data := .seq #[] }).get? s.heap.objs.size = some { cls := .type "list", data := .seq #[] } := Heap.get?_push_size _ rfl
  refine ⟨⟨_, hS0, rfl⟩, F.args_list_init_2 _ _, zip_init hh D hS hx hy hn (up hz) (up hTI) (up hTO) (h1.at fun o e => up e) (h2.at fun o e => up e) (hl1.at fun o e => up e) (hl2.at fun o e => up e) hS0 fun h' acc' c' kp e pa => ?_⟩
  exact ⟨rfl, hQ h' acc' c' (fun b o b1 b2 b3 b4 e => kp b o b1 b2 b3 b4 (Nat.ne_of_lt (lt e)) (up e)) e pa⟩
end

/-! ### over the layer -/
section
variable {X : Cx} {pins : List (Addr × Obj)} {σ : L2.St} {H : Hp} {s : Shared} {h' : Heap}
/-- new objects laid and tracked, many at once -/
def plus (H N : Hp) : Hp := fun b => match H b with
  | some o => some o
  | none => N b
theorem plus_old {H N : Hp} {b : Addr} {o : HO} (e : H b = some o) : plus H N b = some o := by
  unfold plus
  rw [e]
theorem plus_new {H N : Hp} {b : Addr} (e : H b = none) : plus H N b = N b := by
  unfold plus
  rw [e]
theorem inv_news {t' : Nat} (I : Inv X pins σ H s) (k : ∀ b u, s.heap.get? b = some u → h'.get? b = some u) (N : Hp) (hN : ∀ b o, N b = some o → s.heap.objs.size ≤ b ∧ ObjOk X.prog X.w (plus H N) h' b o) :
    Inv X pins σ (plus H N) { s with heap := h', toks := t' } := by
  have old : ∀ {b : Addr} {o : Obj}, s.heap.get? b = some o → N b = none := fun {b o} e => by
    cases q : N b with
    | none => rfl
    | some u => exact absurd (Nat.lt_of_lt_of_le (Heap.lt_size e) (hN b u q).1) (Nat.lt_irrefl _)
  refine I.un (t' := t') ⟨fun b u q _ _ _ => k b u q, fun b u q _ _ _ => ⟨u.slots, k b u q⟩, fun b u q n _ => ?_, fun b u q _ => ⟨u, k b u q⟩, fun b xs q => plus_old q, fun b u xs q => plus_old q, fun b ps q => ⟨#[], by rw [plus_old q]; simp⟩⟩ fun b o e => ?_
  · rw [plus_new n]
    exact old q
  · cases hb : H b with
    | some u =>
      rw [plus_old hb] at e
      cases e
      exact (I.hok b o hb).stay (fun c v _ q => k c v q) (fun c q => plus_old q) fun c xs q => plus_old q
    | none =>
      rw [plus_new hb] at e
      exact (hN b o e).2
theorem relV_one {v v' : V} {u : Value} (h : L2.RelV v u) (h' : L2.RelV v' u) : v = v' := by
  cases v <;> cases v' <;> simp_all [L2.RelV] <;> (obtain ⟨t, h⟩ := h; simp_all)
def refOf : Value → Addr
  | .ref a => a
  | _ => 0
def tListZip (K : PySem.W.Frag) (t : TA) : TE := fun σ H Q => t σ H fun vs H1 => ∃ (a b : Addr) (xs ys : List V), vs = [.ref a, .ref b] ∧ SqL K H1 a xs ∧ SqL K H1 b ys ∧ xs.length = ys.length ∧
  ∀ (p : Addr) (Ts : List Addr) (H' : Hp), H1 p = none → Same H1 H' → H' p = some (.lst (Ts.map V.ref)) → Ts.length = xs.length →
    (∀ (j : Nat) (T : Addr), Ts[j]? = some T → ∃ x y, xs[j]? = some x ∧ ys[j]? = some y ∧ H' T = some (.tup [x, y])) → Q (.ref p) H'
theorem pe_listZip {K : PySem.W.Frag} {a b : Expr} {t : TA} {p p2 pos pos2 : Pos} (hK : X.K = K) (hc : X.calm = true) (hg : Gl X "list") (hm : X.mg "list" = none) (hg2 : Gl X "zip") (hm2 : X.mg "zip" = none) (ha : PA X [a, b] t)
    (na : starEach [Expr.Call (.Name "zip" p2) [a, b] [] pos2] X.env = (false, eval (.Call (.Name "zip" p2) [a, b] [] pos2) X.env) :: starEach [] X.env := by rfl)
    (hs : starEach [a, b] X.env = (false, eval a X.env) :: starEach [b] X.env := by rfl) (hpl : (backTo pos2 (starEach [b] X.env)).any (·.1) = false := by rfl) :
    PE X (.Call (.Name "list" p) [.Call (.Name "zip" p2) [a, b] [] pos2] [] pos) (tListZip K t) := by
  subst hK
  refine ⟨fun pins s σ H Q I h => ?_⟩
  refine Call_ (ld_blt I hg hm boot_list (PyProof.Rows.callWith_type1 (args_cons ?_ na) na))
  refine Call_ (ld_blt I hg2 hm2 PyProof.Rows.boot_zip (PyProof.Rows.callWith_type1 (thn (ha.run pos2 pins s σ H _ I h) fun us s1 ⟨vs, H1, I1, r1, q1⟩ => ?_) hs hpl))
  obtain ⟨a1, b1, xs, ys, rfl, hqx, hqy, hlen, q⟩ := q1
  cases r1 with
  | cons r rr =>
    cases rr with
    | cons r' rr =>
      cases rr
      cases r
      cases r'
      obtain ⟨its, rv, p1, hz1⟩ := I1.list hqx
      obtain ⟨its2, rv2, p22, _⟩ := I1.list hqy
      have la : a1 < s1.heap.objs.size := p1.lt
      have lb : b1 < s1.heap.objs.size := p22.lt
      refine call_zip_2 p1.isList p22.isList fun h1 hz hTI hTO hi1 hi2 hsz hk => args_nil ?_
      have e1 := rv.length
      have e2 := rv2.length
      refine call_list_zip (n := xs.length) (I1.ok.hd hc) (PySem.W.ktu_apart s1.heap.objs.size a1 b1 la lb) (by rw [List.size_toArray]; exact e1.symm) (by rw [List.size_toArray]; omega) hz1 hz hTI hTO hi1 hi2 (p1.isList.at fun o e => hk _ o e) (p22.isList.at fun o e => hk _ o e) fun h2 acc c kp eS pa => ?_
      have kept : ∀ b o, s1.heap.get? b = some o → h2.get? b = some o := fun b o e => by
        have lt := Heap.lt_size e
        exact kp b o (Nat.ne_of_lt (Nat.lt_of_lt_of_le lt (Nat.le_add_right _ _))) (Nat.ne_of_lt (Nat.lt_of_lt_of_le lt (Nat.le_add_right _ _))) (Nat.ne_of_lt lt) (Nat.ne_of_lt (Nat.lt_of_lt_of_le lt (Nat.le_add_right _ _))) (hk b o e)
      have hS : s1.heap.objs.size ≤ h1.objs.size := by omega
      obtain ⟨pl, pi⟩ := pa
      generalize hT : acc.toList.map refOf = Ts
      have tl : Ts.length = xs.length := by
        rw [← hT, List.length_map, Array.length_toList]
        exact pl
      have tat : ∀ (j : Nat) (T : Addr), Ts[j]? = some T → ∃ (x y : Value), acc.toList[j]? = some (.ref T) ∧ h1.objs.size < T ∧ its[j]? = some x ∧ its2[j]? = some y ∧ IsPair h2 T x y := fun j T e => by
        rw [← hT, List.getElem?_map] at e
        cases e3 : acc.toList[j]? with
        | none =>
          rw [e3] at e
          cases e
        | some u =>
          rw [e3] at e
          obtain ⟨T', x, y, rfl, g1, g2, g3, g4⟩ := pi j u (by rw [← Array.getElem?_toList]; exact e3)
          cases e
          exact ⟨x, y, rfl, g1, by simpa using g2, by simpa using g3, g4⟩
      have vr : Vals (Ts.map V.ref) acc.toList := by
        rw [← hT]
        have : ∀ l : List Value, (∀ u ∈ l, ∃ T : Addr, u = Value.ref T) → Vals ((l.map refOf).map V.ref) l := by
          intro l
          induction l with
          | nil => exact fun _ => .nil
          | cons u l ih =>
            intro hu
            obtain ⟨T, rfl⟩ := hu u List.mem_cons_self
            exact .cons rfl (ih fun v hv => hu v (List.mem_cons_of_mem _ hv))
        refine this _ fun u hu => ?_
        obtain ⟨j, hj, rfl⟩ := List.mem_iff_getElem.mp hu
        obtain ⟨T, _, _, e, _⟩ := pi j acc.toList[j] (by rw [← Array.getElem?_toList]; exact List.getElem?_eq_getElem hj)
        exact ⟨T, e⟩
      -- what is new
      generalize hN : (fun b => if b = h1.objs.size then some (HO.lst (Ts.map V.ref)) else if b ∈ Ts then some (HO.tup [xs.getD (Ts.idxOf b) .non, ys.getD (Ts.idxOf b) .non]) else none : Hp) = N
      have nS : N h1.objs.size = some (.lst (Ts.map V.ref)) := by
        rw [← hN]
        exact if_pos rfl
      have item : ∀ (j : Nat) (T : Addr), Ts[j]? = some T → ∃ x y, xs[j]? = some x ∧ ys[j]? = some y ∧ N T = some (.tup [x, y]) ∧ s1.heap.objs.size ≤ T ∧ ∃ its3 : List Value, Vals [x, y] its3 ∧ IsTup h2 T its3.toArray := fun j T e => by
        obtain ⟨x, y, _, g1, g2, g3, g4⟩ := tat j T e
        have jl : j < xs.length := by
          have := (List.getElem?_eq_some_iff.mp e).1
          omega
        have gx : xs[j]? = some xs[j] := List.getElem?_eq_getElem jl
        have gy : ys[j]? = some (ys[j]'(by omega)) := List.getElem?_eq_getElem (by omega)
        obtain ⟨x', ex', rx⟩ := rv.get gx
        obtain ⟨y', ey', ry⟩ := rv2.get gy
        rw [g2] at ex'
        rw [g3] at ey'
        cases ex'
        cases ey'
        refine ⟨_, _, gx, gy, ?_, Nat.le_of_lt (Nat.lt_of_le_of_lt hS g1), [x, y], .cons rx (.cons ry .nil), ⟨_, g4, rfl, _, rfl⟩⟩
        have hmem : T ∈ Ts := List.mem_of_getElem? e
        rw [← hN]
        show (if T = h1.objs.size then _ else if T ∈ Ts then _ else _) = _
        rw [if_neg (Nat.ne_of_gt g1), if_pos hmem]
        -- the first place of T bears the same pair
        have il : Ts.idxOf T < Ts.length := List.idxOf_lt_length_iff.mpr hmem
        have ie : Ts[Ts.idxOf T]? = some T := by
          rw [List.getElem?_eq_getElem il, List.getElem_idxOf il]
        obtain ⟨x2, y2, _, _, k2, k3, k4⟩ := tat _ T ie
        have e4 : (#[x, y] : Array Value) = #[x2, y2] := by
          have z : some ({ cls := .type "tuple", data := .seq #[x, y] } : Obj) = some { cls := .type "tuple", data := .seq #[x2, y2] } := g4.symm.trans k4
          injection z with z
          injection z with _ _ z
          injection z
        have gx2 : xs[Ts.idxOf T]? = some (xs[Ts.idxOf T]'(by omega)) := List.getElem?_eq_getElem (by omega)
        have gy2 : ys[Ts.idxOf T]? = some (ys[Ts.idxOf T]'(by omega)) := List.getElem?_eq_getElem (by omega)
        obtain ⟨u, eu, ru⟩ := rv.get gx2
        obtain ⟨v, ev, rw2⟩ := rv2.get gy2
        rw [k2] at eu
        rw [k3] at ev
        cases eu
        cases ev
        injection e4 with e4
        injection e4 with h5 h6
        injection h6 with h6 _
        subst h5 h6
        have q1 := relV_one ru rx
        have q2 := relV_one rw2 ry
        rw [List.getD_eq_getElem?_getD, List.getD_eq_getElem?_getD, gx2, gy2, ← q1, ← q2]
        rfl
      have inN : ∀ b o, N b = some o → b = h1.objs.size ∨ b ∈ Ts := fun b o e => by
        rw [← hN] at e
        by_cases hb : b = h1.objs.size
        · exact .inl hb
        · by_cases hm : b ∈ Ts
          · exact .inr hm
          · have e' : (if b = h1.objs.size then some (HO.lst (Ts.map V.ref)) else if b ∈ Ts then some (HO.tup [xs.getD (Ts.idxOf b) .non, ys.getD (Ts.idxOf b) .non]) else none) = some o := e
            rw [if_neg hb, if_neg hm] at e'
            cases e'
      have J : Inv X pins σ (plus H1 N) { s1 with heap := h2 } := inv_news (t' := s1.toks) I1 kept N fun b o e => by
        rcases inN b o e with rfl | hm
        · rw [nS] at e
          cases e
          exact ⟨hS, by rw [List.length_map, tl]; exact hz1, acc.toList, c, vr, by rw [Array.toArray_toList]; exact eS⟩
        · obtain ⟨j, hj, rfl⟩ := List.mem_iff_getElem.mp hm
          obtain ⟨x, y, _, _, e5, le, its3, v3, t3⟩ := item j _ (List.getElem?_eq_getElem hj)
          rw [e5] at e
          cases e
          exact ⟨le, by show 2 ≤ sizeLine; rw [sizeLine_eq]; decide, its3, v3, t3⟩
      refine ⟨.ref h1.objs.size, plus H1 N, J, rfl, q h1.objs.size Ts _ (I1.hok.fresh hS) (fun b o e => plus_old e) ?_ tl fun j T e => ?_⟩
      · rw [plus_new (I1.hok.fresh hS)]
        exact nS
      · obtain ⟨x, y, g1, g2, g3, le, _⟩ := item j T e
        exact ⟨x, y, g1, g2, by rw [plus_new (I1.hok.fresh le)]; exact g3⟩
end
end KT

/-! Fractions, what two times ask, the least width. -/
namespace KT
open PySem PySem.Spec PyProof.Rows L2
/-! ### lowest terms -/
abbrev Fr := Int × Int
def gI (t b : Int) : Int := (Int.gcd t b : Int)
def lowF (t b : Int) : Fr := (t / gI t b, b / gI t b)
theorem gI_pos {t b : Int} (hb : 0 < b) : 0 < gI t b := by
  have : 0 < Int.gcd t b := Int.gcd_pos_of_ne_zero_right t (by omega)
  unfold gI
  omega
theorem gI_le {t b : Int} (hb : 0 < b) : gI t b ≤ b := Int.le_of_dvd hb (Int.gcd_dvd_right ..)
theorem low_top (t b : Int) : gI t b * (lowF t b).1 = t := Int.mul_ediv_cancel' (Int.gcd_dvd_left ..)
theorem low_bot (t b : Int) : gI t b * (lowF t b).2 = b := Int.mul_ediv_cancel' (Int.gcd_dvd_right ..)
theorem low_pos {t b : Int} (hb : 0 < b) : 0 < (lowF t b).2 := by
  have h := low_bot t b
  have g := gI_pos (t := t) hb
  have p : 0 < gI t b * (lowF t b).2 := by rw [h]; exact hb
  exact Int.pos_of_mul_pos_right p g
theorem low_top_abs (t b : Int) (hb : 0 < b) : (lowF t b).1.natAbs ≤ t.natAbs := by
  have h := congrArg Int.natAbs (low_top t b)
  rw [Int.natAbs_mul] at h
  have g := gI_pos (t := t) hb
  have g1 : 1 ≤ (gI t b).natAbs := by omega
  rw [← h]
  exact Nat.le_mul_of_pos_left _ g1
theorem low_bot_le {t b : Int} (hb : 0 < b) : (lowF t b).2 ≤ b := Int.ediv_le_self _ (Int.le_of_lt hb)
/-- comparing by cross products does not see a common factor -/
theorem low_lt {t b t' b' : Int} (hb : 0 < b) (hb' : 0 < b') : (lowF t b).1 * (lowF t' b').2 < (lowF t' b').1 * (lowF t b).2 ↔ t * b' < t' * b := by
  have g := gI_pos (t := t) hb
  have g' := gI_pos (t := t') hb'
  have e1 : t * b' = (gI t b * gI t' b') * ((lowF t b).1 * (lowF t' b').2) := by
    conv => lhs; rw [← low_top t b, ← low_bot t' b']
    simp only [Int.mul_assoc, Int.mul_left_comm, Int.mul_comm]
  have e2 : t' * b = (gI t b * gI t' b') * ((lowF t' b').1 * (lowF t b).2) := by
    conv => lhs; rw [← low_top t' b', ← low_bot t b]
    simp only [Int.mul_assoc, Int.mul_left_comm, Int.mul_comm]
  rw [e1, e2]
  exact (Int.mul_lt_mul_left (Int.mul_pos g g')).symm
theorem low_zero : lowF 0 1 = (0, 1) := by decide
theorem low_low {t b : Int} (hb : 0 < b) : lowF (lowF t b).1 (lowF t b).2 = lowF t b := by
  have g := gI_pos (t := t) hb
  have h : gI (lowF t b).1 (lowF t b).2 = 1 := by
    unfold gI lowF gI
    have := Int.gcd_ediv_gcd_ediv_gcd (i := t) (j := b) (by
      have : 0 < Int.gcd t b := Int.gcd_pos_of_ne_zero_right t (by omega)
      exact this)
    rw [this]
    rfl
  unfold lowF at h ⊢
  simp only at h ⊢
  rw [h]
  simp
/-! ### what two times ask -/
def at_ (l : List Int) (i : Nat) : Int := l.getD i 0
theorem at_get {l : List Int} {i : Nat} {z : Int} (h : l[i]? = some z) : at_ l i = z := by
  unfold at_
  rw [List.getD_eq_getElem?_getD, h]
  rfl
theorem get_at {l : List Int} {i : Nat} (h : i < l.length) : l[i]? = some (at_ l i) := by
  rw [List.getElem?_eq_getElem h, at_get (List.getElem?_eq_getElem h)]
def askT (ts ks : List Int) (i j : Nat) : Int := at_ ts i * at_ ks j - at_ ts j * at_ ks i
def askB (ts : List Int) (i j : Nat) : Int := at_ ts i + at_ ts j
/-- all pairs of numbers, in order -/
def pairs (n : Nat) : List (Nat × Nat) := (List.range n).flatMap fun i => (List.range n).map fun j => (i, j)
/-- the greatest so far, with the pair that asks it first -/
abbrev Best := (Int × Int) × (Nat × Nat)
def stepB (ts ks : List Int) (s : Best) (p : Nat × Nat) : Best :=
  if s.1.1 * askB ts p.1 p.2 < askT ts ks p.1 p.2 * s.1.2 then ((askT ts ks p.1 p.2, askB ts p.1 p.2), p) else s
def bestOf (ts ks : List Int) : Best := (pairs ts.length).foldl (stepB ts ks) ((0, 1), (0, 0))
/-- the least width, in lowest terms, and its pair -/
def widthOf (ts ks : List Int) : Fr × (Nat × Nat) := (lowF (bestOf ts ks).1.1 (bestOf ts ks).1.2, (bestOf ts ks).2)
/-- times and a reading of them -/
structure TR (ts ks : List Int) : Prop where
  t : ∀ (i : Nat) (z : Int), ts[i]? = some z → 1 ≤ z ∧ z ≤ 9999
  k : ∀ (i : Nat) (z : Int), ks[i]? = some z → z = 1 ∨ z = 3 ∨ z = 7
  len : ks.length = ts.length
  le : ts.length ≤ 25
section
variable {ts ks : List Int} {i j : Nat}
theorem TR.ti (h : TR ts ks) (hi : i < ts.length) : 1 ≤ at_ ts i ∧ at_ ts i ≤ 9999 := h.t i _ (get_at hi)
theorem TR.ki (h : TR ts ks) (hi : i < ts.length) : at_ ks i = 1 ∨ at_ ks i = 3 ∨ at_ ks i = 7 := h.k i _ (get_at (by rw [h.len]; exact hi))
theorem TR.bot (h : TR ts ks) (hi : i < ts.length) (hj : j < ts.length) : 0 < askB ts i j ∧ askB ts i j ≤ 19998 := by
  have a := h.ti hi
  have b := h.ti hj
  unfold askB
  omega
theorem TR.top (h : TR ts ks) (hi : i < ts.length) (hj : j < ts.length) : -100000 ≤ askT ts ks i j ∧ askT ts ks i j ≤ 100000 := by
  have a := h.ti hi
  have b := h.ti hj
  unfold askT
  rcases h.ki hi with e | e | e <;> rcases h.ki hj with f | f | f <;> rw [e, f] <;> omega
/-- what the best so far is -/
structure BestOk (ts ks : List Int) (s : Best) : Prop where
  pos : 0 < s.1.2
  b : s.1.2 ≤ 19998
  t0 : 0 ≤ s.1.1
  t1 : s.1.1 ≤ 100000
  p1 : s.2.1 < ts.length
  p2 : s.2.2 < ts.length
theorem BestOk.start (hn : 0 < ts.length) : BestOk ts ks ((0, 1), (0, 0)) := ⟨by decide, by decide, by decide, by decide, hn, hn⟩
theorem BestOk.step (h : TR ts ks) {s : Best} (o : BestOk ts ks s) {p : Nat × Nat} (h1 : p.1 < ts.length) (h2 : p.2 < ts.length) : BestOk ts ks (stepB ts ks s p) := by
  unfold stepB
  by_cases c : s.1.1 * askB ts p.1 p.2 < askT ts ks p.1 p.2 * s.1.2
  · rw [if_pos c]
    have b := h.bot h1 h2
    have t := h.top h1 h2
    refine ⟨b.1, b.2, ?_, t.2, h1, h2⟩
    have z : 0 ≤ s.1.1 * askB ts p.1 p.2 := Int.mul_nonneg o.t0 (by omega)
    have z2 : 0 < askT ts ks p.1 p.2 * s.1.2 := by omega
    have := Int.pos_of_mul_pos_left z2 o.pos
    exact Int.le_of_lt this
  · rw [if_neg c]
    exact o
theorem mem_pairs {n : Nat} {p : Nat × Nat} : p ∈ pairs n ↔ p.1 < n ∧ p.2 < n := by
  unfold pairs
  rw [List.mem_flatMap]
  constructor
  · rintro ⟨i, hi, hp⟩
    rw [List.mem_map] at hp
    obtain ⟨j, hj, rfl⟩ := hp
    exact ⟨List.mem_range.mp hi, List.mem_range.mp hj⟩
  · intro ⟨h1, h2⟩
    exact ⟨p.1, List.mem_range.mpr h1, List.mem_map.mpr ⟨p.2, List.mem_range.mpr h2, rfl⟩⟩
theorem BestOk.fold (h : TR ts ks) : ∀ (l : List (Nat × Nat)) (s : Best), (∀ p ∈ l, p.1 < ts.length ∧ p.2 < ts.length) → BestOk ts ks s → BestOk ts ks (l.foldl (stepB ts ks) s)
  | [], _, _, o => o
  | p :: l, s, hl, o => BestOk.fold h l _ (fun q hq => hl q (List.mem_cons_of_mem _ hq)) (o.step h (hl p List.mem_cons_self).1 (hl p List.mem_cons_self).2)
theorem best_ok (h : TR ts ks) (hn : 0 < ts.length) : BestOk ts ks (bestOf ts ks) := BestOk.fold h _ _ (fun p hp => mem_pairs.mp hp) (BestOk.start hn)
end
/-! ### the pairs ahead of one -/
def pre (n i j : Nat) : List (Nat × Nat) := ((List.range i).flatMap fun a => (List.range n).map fun b => (a, b)) ++ (List.range j).map fun b => (i, b)
theorem pre_zero (n : Nat) : pre n 0 0 = [] := rfl
theorem pre_succ (n i j : Nat) : pre n i (j + 1) = pre n i j ++ [(i, j)] := by
  unfold pre
  rw [List.range_succ, List.map_append, List.append_assoc]
  rfl
theorem pre_row (n i : Nat) : pre n (i + 1) 0 = pre n i n := by
  unfold pre
  rw [List.range_succ, List.flatMap_append]
  simp
theorem pre_all (n : Nat) : pre n n 0 = pairs n := by
  unfold pre pairs
  simp
theorem mem_pre {n i j : Nat} {p : Nat × Nat} (hi : i ≤ n) (hj : j ≤ n) (hij : i < n ∨ j = 0) (h : p ∈ pre n i j) : p.1 < n ∧ p.2 < n := by
  unfold pre at h
  rcases List.mem_append.mp h with h | h
  · rw [List.mem_flatMap] at h
    obtain ⟨a, ha, hp⟩ := h
    rw [List.mem_map] at hp
    obtain ⟨b, hb, rfl⟩ := hp
    have := List.mem_range.mp ha
    exact ⟨by show a < n; omega, List.mem_range.mp hb⟩
  · rw [List.mem_map] at h
    obtain ⟨b, hb, rfl⟩ := h
    have := List.mem_range.mp hb
    exact ⟨by show i < n; omega, by show b < n; omega⟩
def bestTo (ts ks : List Int) (i j : Nat) : Best := (pre ts.length i j).foldl (stepB ts ks) ((0, 1), (0, 0))
theorem bestTo_zero (ts ks : List Int) : bestTo ts ks 0 0 = ((0, 1), (0, 0)) := rfl
theorem bestTo_succ (ts ks : List Int) (i j : Nat) : bestTo ts ks i (j + 1) = stepB ts ks (bestTo ts ks i j) (i, j) := by
  unfold bestTo
  rw [pre_succ, List.foldl_append]
  rfl
theorem bestTo_row (ts ks : List Int) (i : Nat) : bestTo ts ks (i + 1) 0 = bestTo ts ks i ts.length := by
  unfold bestTo
  rw [pre_row]
theorem bestTo_all (ts ks : List Int) : bestTo ts ks ts.length 0 = bestOf ts ks := by
  unfold bestTo bestOf
  rw [pre_all]
theorem bestTo_ok {ts ks : List Int} (h : TR ts ks) (hn : 0 < ts.length) {i j : Nat} (hi : i ≤ ts.length) (hj : j ≤ ts.length) (hij : i < ts.length ∨ j = 0) : BestOk ts ks (bestTo ts ks i j) :=
  BestOk.fold h _ _ (fun _ hp => mem_pre hi hj hij hp) (BestOk.start hn)
/-! ### promises -/
def frV (f : Fr) : List V := [.int f.1, .int f.2]
def prV (p : Nat × Nat) : List V := [.int (p.1 : Int), .int (p.2 : Int)]
def Sml (z : Int) : Prop := -18446744073709551616 < z ∧ z < 18446744073709551616
def spLow : Sp := fun vs H Q _ => ∃ t b : Int, vs = [.int t, .int b] ∧ 0 < b ∧ b < 1073741824 ∧ ∀ (p : Addr) (H' : Hp), H p = none → Same H H' → H' p = some (.tup (frV (lowF t b))) → Q (.ref p) H'
def spLess (K : PySem.W.Frag) : Sp := fun vs H Q _ => ∃ (p q : Addr) (f g : Fr), vs = [.ref p, .ref q] ∧ SqT K H p (frV f) ∧ SqT K H q (frV g) ∧ Sml f.1 ∧ Sml g.1 ∧ Q (.bl (decide (f.1 * g.2 < g.1 * f.2))) H
/-- times and a reading stand -/
structure TRAt (K : PySem.W.Frag) (H : Hp) (a b : Addr) (ts ks : List Int) : Prop where
  t : SqL K H a (ts.map V.int)
  k : SqL K H b (ks.map V.int)
  ok : TR ts ks
theorem TRAt.same {K : PySem.W.Frag} {H H' : Hp} {a b : Addr} {ts ks : List Int} (h : TRAt K H a b ts ks) (s : Same H H') : TRAt K H' a b ts ks := ⟨s.seq h.t, s.seq h.k, h.ok⟩
def spAsks (K : PySem.W.Frag) : Sp := fun vs H Q _ => ∃ (a b : Addr) (ts ks : List Int) (i j : Nat), vs = [.ref a, .ref b, .int (i : Int), .int (j : Int)] ∧ TRAt K H a b ts ks ∧ i < ts.length ∧ j < ts.length ∧
  ∀ (p : Addr) (H' : Hp), H p = none → Same H H' → H' p = some (.tup (frV (lowF (askT ts ks i j) (askB ts i j)))) → Q (.ref p) H'
/-- a width with its pair at p -/
structure WAt (H : Hp) (p : Addr) (w : Fr × (Nat × Nat)) : Prop where
  ex : ∃ q r : Addr, H p = some (.tup [.ref q, .ref r]) ∧ H q = some (.tup (frV w.1)) ∧ H r = some (.tup (prV w.2))
theorem WAt.same {H H' : Hp} {p : Addr} {w : Fr × (Nat × Nat)} (h : WAt H p w) (s : Same H H') : WAt H' p w := by
  obtain ⟨q, r, a, b, c⟩ := h.ex
  exact ⟨q, r, s _ _ a, s _ _ b, s _ _ c⟩
def spWidthL (K : PySem.W.Frag) : Sp := fun vs H Q _ => ∃ (a b : Addr) (ts ks : List Int), vs = [.ref a, .ref b] ∧ TRAt K H a b ts ks ∧ 0 < ts.length ∧ ∀ (p : Addr) (H' : Hp), Same H H' → WAt H' p (widthOf ts ks) → Q (.ref p) H'
end KT

/-! What the program's defs promise where nothing is refused. -/
namespace KT
open PySem PySem.Spec PyProof.Rows L2
/-- an inner loop of a comprehension -/
theorem lc_in {J : It} {n : Nat} {G : Hp → Prop} {Y : Nat → Hp → V → Hp → Prop} (w : Walk J n G Y) {g : TG} {tt : TT} {te : TE} {vs : List Nat} {σ : L2.St} {H1 : Hp} {D : Addr} {Nx : Hp → Prop} (Pv : Nat → Hp → Prop) (h0 : Pv 0 H1) (hG : ∀ i H, i ≤ n → Pv i H → G H)
    (hs : ∀ i x H H', i < n → Pv i H → Y i H x H' → g x (wipe σ vs) H' fun σ2 H2 => wipe σ2 vs = wipe σ vs ∧ tt σ2 H2 fun b H3 =>
      if b = true then te σ2 H3 fun y H4 => ∃ acc, H4 D = some (.lst acc) ∧ acc.length < sizeLine ∧ Pv (i + 1) (upd H4 D (.lst (acc ++ [y]))) else Pv (i + 1) H3) (hd : ∀ H, Pv n H → Nx H) :
    ∃ W : Nat → Nat → Hp → Prop, (∃ m, W 0 m H1) ∧ ∀ i m H, W i m H →
      (J.stop i H ∧ Nx H) ∨ (J.go i H ∧ ∃ N1 : Hp → Prop, (∀ H', N1 H' → ∃ m', m' < m ∧ W (i + 1) m' H') ∧ ∀ x H', J.yld i H x H' → g x (wipe σ vs) H' fun σ2 H2 => wipe σ2 vs = wipe σ vs ∧ tt σ2 H2 fun b H3 =>
        if b = true then te σ2 H3 fun y H4 => ∃ acc, H4 D = some (.lst acc) ∧ acc.length < sizeLine ∧ N1 (upd H4 D (.lst (acc ++ [y]))) else N1 H3) := by
  refine ⟨fun i m H => m = n - i ∧ i ≤ n ∧ Pv i H, ⟨n, by simp, Nat.zero_le _, h0⟩, ?_⟩
  rintro i m H ⟨rfl, hi, p⟩
  have q := hG i H hi p
  by_cases hlt : i < n
  · exact .inr ⟨w.goes i H hlt q, Pv (i + 1), fun H' p' => ⟨n - (i + 1), by omega, rfl, hlt, p'⟩, fun x H' y => hs i x H H' hlt p (w.yields i H x H' hlt q y)⟩
  · have e : i = n := by omega
    subst e
    exact .inl ⟨w.stops H q, hd H p⟩
/-- an outer loop of a comprehension -/
theorem lc_out {J : It} {n : Nat} {G : Hp → Prop} {Y : Nat → Hp → V → Hp → Prop} (w : Walk J n G Y) {g : TG} {tt : TT} {B : (Hp → Prop) → L2.St → Hp → Prop} {vs : List Nat} {σ : L2.St} {H1 : Hp} {Qd : Hp → Prop} (Pv : Nat → Hp → Prop) (h0 : Pv 0 H1) (hG : ∀ i H, i ≤ n → Pv i H → G H)
    (hs : ∀ i x H H', i < n → Pv i H → Y i H x H' → g x (wipe σ vs) H' fun σ2 H2 => wipe σ2 vs = wipe σ vs ∧ tt σ2 H2 fun b H3 => if b = true then B (Pv (i + 1)) σ2 H3 else Pv (i + 1) H3) (hd : ∀ H, Pv n H → Qd H) :
    ∃ W : Nat → Nat → Hp → Prop, (∃ m, W 0 m H1) ∧ ∀ i m H, W i m H →
      (J.stop i H ∧ Qd H) ∨ (J.go i H ∧ ∃ N1 : Hp → Prop, (∀ H', N1 H' → ∃ m', m' < m ∧ W (i + 1) m' H') ∧ ∀ x H', J.yld i H x H' → g x (wipe σ vs) H' fun σ2 H2 => wipe σ2 vs = wipe σ vs ∧ tt σ2 H2 fun b H3 =>
        if b = true then B N1 σ2 H3 else N1 H3) := by
  refine ⟨fun i m H => m = n - i ∧ i ≤ n ∧ Pv i H, ⟨n, by simp, Nat.zero_le _, h0⟩, ?_⟩
  rintro i m H ⟨rfl, hi, p⟩
  have q := hG i H hi p
  by_cases hlt : i < n
  · exact .inr ⟨w.goes i H hlt q, Pv (i + 1), fun H' p' => ⟨n - (i + 1), by omega, rfl, hlt, p'⟩, fun x H' y => hs i x H H' hlt p (w.yields i H x H' hlt q y)⟩
  · have e : i = n := by omega
    subst e
    exact .inl ⟨w.stops H q, hd H p⟩
/-- an inner loop of a comprehension without a test -/
theorem lc_inY {J : It} {n : Nat} {G : Hp → Prop} {Y : Nat → Hp → V → Hp → Prop} (w : Walk J n G Y) {g : TG} {te : TE} {vs : List Nat} {σ : L2.St} {H1 : Hp} {D : Addr} {Nx : Hp → Prop} (Pv : Nat → Hp → Prop) (h0 : Pv 0 H1) (hG : ∀ i H, i ≤ n → Pv i H → G H)
    (hs : ∀ i x H H', i < n → Pv i H → Y i H x H' → g x (wipe σ vs) H' fun σ2 H2 => wipe σ2 vs = wipe σ vs ∧ te σ2 H2 fun y H4 => ∃ acc, H4 D = some (.lst acc) ∧ acc.length < sizeLine ∧ Pv (i + 1) (upd H4 D (.lst (acc ++ [y])))) (hd : ∀ H, Pv n H → Nx H) :
    ∃ W : Nat → Nat → Hp → Prop, (∃ m, W 0 m H1) ∧ ∀ i m H, W i m H →
      (J.stop i H ∧ Nx H) ∨ (J.go i H ∧ ∃ N1 : Hp → Prop, (∀ H', N1 H' → ∃ m', m' < m ∧ W (i + 1) m' H') ∧ ∀ x H', J.yld i H x H' → g x (wipe σ vs) H' fun σ2 H2 => wipe σ2 vs = wipe σ vs ∧ tYes σ2 H2 fun b H3 =>
        if b = true then te σ2 H3 fun y H4 => ∃ acc, H4 D = some (.lst acc) ∧ acc.length < sizeLine ∧ N1 (upd H4 D (.lst (acc ++ [y]))) else N1 H3) := lc_in (tt := tYes) w Pv h0 hG hs hd
/-- an outer loop of a comprehension without a test -/
theorem lc_outY {J : It} {n : Nat} {G : Hp → Prop} {Y : Nat → Hp → V → Hp → Prop} (w : Walk J n G Y) {g : TG} {B : (Hp → Prop) → L2.St → Hp → Prop} {vs : List Nat} {σ : L2.St} {H1 : Hp} {Qd : Hp → Prop} (Pv : Nat → Hp → Prop) (h0 : Pv 0 H1) (hG : ∀ i H, i ≤ n → Pv i H → G H)
    (hs : ∀ i x H H', i < n → Pv i H → Y i H x H' → g x (wipe σ vs) H' fun σ2 H2 => wipe σ2 vs = wipe σ vs ∧ B (Pv (i + 1)) σ2 H2) (hd : ∀ H, Pv n H → Qd H) :
    ∃ W : Nat → Nat → Hp → Prop, (∃ m, W 0 m H1) ∧ ∀ i m H, W i m H →
      (J.stop i H ∧ Qd H) ∨ (J.go i H ∧ ∃ N1 : Hp → Prop, (∀ H', N1 H' → ∃ m', m' < m ∧ W (i + 1) m' H') ∧ ∀ x H', J.yld i H x H' → g x (wipe σ vs) H' fun σ2 H2 => wipe σ2 vs = wipe σ vs ∧ tYes σ2 H2 fun b H3 =>
        if b = true then B N1 σ2 H3 else N1 H3) := lc_out (tt := tYes) w Pv h0 hG hs hd
theorem stepB_pos {ts ks : List Int} {s : Best} {p : Nat × Nat} (c : s.1.1 * askB ts p.1 p.2 < askT ts ks p.1 p.2 * s.1.2) : stepB ts ks s p = ((askT ts ks p.1 p.2, askB ts p.1 p.2), p) := if_pos c
theorem stepB_neg {ts ks : List Int} {s : Best} {p : Nat × Nat} (c : ¬ s.1.1 * askB ts p.1 p.2 < askT ts ks p.1 p.2 * s.1.2) : stepB ts ks s p = s := if_neg c
theorem Tps.tr {ts ks : List Int} (h : Tps ts) (r : Rdg 0 ks) (l : ks.length = ts.length) : TR ts ks := ⟨h.all, fun i z e => kinds_le (r i z e), l, h.le⟩
theorem Tps.pos {ts : List Int} (h : Tps ts) : 0 < ts.length := by
  have := h.odd
  omega
/-! ### taps -/
def spCheckT (K : PySem.W.Frag) : Sp := fun vs H Q _ => ∃ (a : Addr) (ts : List Int), vs = [.ref a] ∧ SqL K H a (ts.map V.int) ∧ Tps ts ∧ ∀ H', Same H H' → Q .non H'
def tapsF (l : Addr) : List (Str × V) := putF "_times" (.ref l) []
structure TapsAt (C : Addr) (H : Hp) (x l : Addr) (ts : List Int) : Prop where
  ob : ∃ dx, H x = some (.ins C dx (tapsF l))
  ls : H l = some (.lst (ts.map V.int))
theorem TapsAt.same {C : Addr} {H H' : Hp} {x l : Addr} {ts : List Int} (h : TapsAt C H x l ts) (s : Same H H') : TapsAt C H' x l ts := by
  obtain ⟨⟨dx, e⟩, e2⟩ := h
  exact ⟨⟨dx, s _ _ e⟩, s _ _ e2⟩
def spTapsInit (K : PySem.W.Frag) (C : Addr) : Sp := fun vs H Q _ => ∃ (x a dx : Addr) (ts : List Int), vs = [.ref x, .ref a] ∧ H x = some (.ins C dx []) ∧ SqL K H a (ts.map V.int) ∧ Tps ts ∧
  ∀ (l : Addr) (H' : Hp), H l = none → (∀ b o, b ≠ x → H b = some o → H' b = some o) → TapsAt C H' x l ts → Q .non H'
def spTapsTimes (C : Addr) : Sp := fun vs H Q _ => ∃ (x l : Addr) (ts : List Int), vs = [.ref x] ∧ TapsAt C H x l ts ∧ ts.length ≤ 1000 ∧ ∀ (p : Addr) (H' : Hp), H p = none → Same H H' → H' p = some (.lst (ts.map V.int)) → Q (.ref p) H'
/-! ### readings -/
def spCheckR (K : PySem.W.Frag) : Sp := fun vs H Q _ => ∃ (a b : Addr) (ts ks : List Int), vs = [.ref a, .ref b] ∧ SqL K H a (ts.map V.int) ∧ SqL K H b (ks.map V.int) ∧ Rdg 0 ks ∧ ks.length = ts.length ∧ ks.length ≤ 1000 ∧ ∀ H', Same H H' → Q .non H'
/-! ### ratios -/
def spLowest (K : PySem.W.Frag) : Sp := fun vs H Q _ => ∃ (p : Addr) (f : Fr), vs = [.ref p] ∧ SqT K H p (frV f) ∧ 0 < f.2 ∧ f.2 < 1073741824 ∧ ∀ (q : Addr) (H' : Hp), H q = none → Same H H' → H' q = some (.tup (frV (lowF f.1 f.2))) → Q (.ref q) H'
def spAbove (K : PySem.W.Frag) : Sp := fun vs H Q _ => ∃ (p q : Addr) (f g : Fr), vs = [.ref p, .ref q] ∧ SqT K H p (frV f) ∧ SqT K H q (frV g) ∧ Sml f.1 ∧ Sml g.1 ∧ Q (.bl (decide (g.1 * f.2 < f.1 * g.2))) H
/-! ### widths -/
def spAsked (K : PySem.W.Frag) : Sp := fun vs H Q _ => ∃ (p q : Addr) (t k t' k' : Int), vs = [.ref p, .ref q] ∧ SqT K H p [.int t, .int k] ∧ SqT K H q [.int t', .int k'] ∧ Sml t ∧ Sml t' ∧
  ∀ (r : Addr) (H' : Hp), H r = none → Same H H' → H' r = some (.tup (frV (t * k' - t' * k, t + t'))) → Q (.ref r) H'
/-- a list of (pair, ratio) -/
def PAt (ts ks : List Int) (H : Hp) (vs : List V) (l : List (Nat × Nat)) : Prop := vs.length = l.length ∧ ∀ (i : Nat) (p : Nat × Nat), l[i]? = some p → ∃ T q r : Addr, vs[i]? = some (.ref T) ∧ H T = some (.tup [.ref q, .ref r]) ∧ H q = some (.tup (prV p)) ∧ H r = some (.tup (frV (askT ts ks p.1 p.2, askB ts p.1 p.2)))
theorem PAt.same {ts ks : List Int} {H H' : Hp} {vs : List V} {l : List (Nat × Nat)} (h : PAt ts ks H vs l) (s : ∀ b xs, H b = some (.tup xs) → H' b = some (.tup xs)) : PAt ts ks H' vs l := by
  refine ⟨h.1, fun i p e => ?_⟩
  obtain ⟨T, q, r, e1, e2, e3, e4⟩ := h.2 i p e
  exact ⟨T, q, r, e1, s _ _ e2, s _ _ e3, s _ _ e4⟩
theorem PAt.snoc {ts ks : List Int} {H : Hp} {vs : List V} {l : List (Nat × Nat)} {p : Nat × Nat} {T q r : Addr} (h : PAt ts ks H vs l) (e2 : H T = some (.tup [.ref q, .ref r])) (e3 : H q = some (.tup (prV p))) (e4 : H r = some (.tup (frV (askT ts ks p.1 p.2, askB ts p.1 p.2)))) :
    PAt ts ks H (vs ++ [.ref T]) (l ++ [p]) := by
  refine ⟨by rw [List.length_append, List.length_append, h.1]; rfl, fun i u e => ?_⟩
  by_cases hi : i < l.length
  · rw [List.getElem?_append_left hi] at e
    obtain ⟨T', q', r', g1, g2, g3, g4⟩ := h.2 i u e
    exact ⟨T', q', r', by rw [List.getElem?_append_left (by rw [h.1]; exact hi)]; exact g1, g2, g3, g4⟩
  · have e5 : i = l.length := by
      have := (List.getElem?_eq_some_iff.mp e).1
      rw [List.length_append] at this
      simp at this
      omega
    subst e5
    rw [List.getElem?_append_right (Nat.le_refl _), Nat.sub_self] at e
    cases e
    exact ⟨T, q, r, by rw [← h.1, List.getElem?_append_right (Nat.le_refl _), Nat.sub_self]; rfl, e2, e3, e4⟩
theorem pairs_length (n : Nat) : (pairs n).length = n * n := by
  unfold pairs
  rw [List.length_flatMap]
  have : ((List.range n).map fun a => ((List.range n).map fun b => (a, b)).length) = List.replicate n n := by
    apply List.ext_getElem?
    intro i
    rw [List.getElem?_map, List.getElem?_replicate]
    by_cases h : i < n
    · rw [List.getElem?_range h, if_pos h]
      simp
    · rw [if_neg h, List.getElem?_eq_none (by rw [List.length_range]; omega)]
      rfl
  rw [this, List.sum_replicate_nat]
theorem pre_length_le {n i j : Nat} (hi : i ≤ n) (hj : j ≤ n) (hn : n ≤ 25) : (pre n i j).length ≤ 1000 := by
  unfold pre
  rw [List.length_append, List.length_map, List.length_range, List.length_flatMap]
  have : ((List.range i).map fun a => ((List.range n).map fun b => (a, b)).length) = List.replicate i n := by
    apply List.ext_getElem?
    intro x
    rw [List.getElem?_map, List.getElem?_replicate]
    by_cases h : x < i
    · rw [List.getElem?_range h, if_pos h]
      simp
    · rw [if_neg h, List.getElem?_eq_none (by rw [List.length_range]; omega)]
      rfl
  rw [this, List.sum_replicate_nat]
  have h1 : i * n ≤ 25 * 25 := Nat.mul_le_mul (by omega) hn
  omega
def spPairs (K : PySem.W.Frag) : Sp := fun vs H Q _ => ∃ (a b : Addr) (ts ks : List Int), vs = [.ref a, .ref b] ∧ TRAt K H a b ts ks ∧ ∀ (p : Addr) (xs : List V) (H' : Hp), H p = none → Same H H' → H' p = some (.lst xs) → PAt ts ks H' xs (pairs ts.length) → Q (.ref p) H'
def spLeast (K : PySem.W.Frag) (C : Addr) : Sp := fun vs H Q _ => ∃ (x l b : Addr) (ts ks : List Int), vs = [.ref x, .ref b] ∧ TapsAt C H x l ts ∧ SqL K H b (ks.map V.int) ∧ Tps ts ∧ Rdg 0 ks ∧ ks.length = ts.length ∧
  ∀ (p : Addr) (H' : Hp), Same H H' → WAt H' p (widthOf ts ks) → Q (.ref p) H'
/-! ### data -/
def dOk : Nat → PyData → Prop
  | 0, _ => False
  | _ + 1, .none => True
  | _ + 1, .bool _ => True
  | _ + 1, .int _ => True
  | _ + 1, .str _ => True
  | n + 1, .list ds => ds.length ≤ 1000000 ∧ ∀ d ∈ ds, dOk n d
  | n + 1, .tuple ds => ds.length ≤ 1000000 ∧ ∀ d ∈ ds, dOk n d
  | _ + 1, .dict _ => False
def spAlike (K : PySem.W.Frag) (n : Nat) : Sp := fun vs H Q _ => ∃ (u v : V) (d : PyData), vs = [u, v] ∧ Dp K H u d ∧ Dp K H v d ∧ dOk n d ∧ ∀ H', Same H H' → Q (.bl true) H'
theorem KDef.none {P : Program} {w : World} {K : PySem.W.Frag} {mg : Str → Option Value} {base : Heap} {x : Str} {st : Stmt} {ps : List Str} {sp : Sp} {CX : CXT} (S : Src K mg x st)
    (hb : ∀ (kV doc pm : Value) (an : Option Addr) (cdv ct : Value) (us : List Value), us.length = ps.length → bindArgs (PySem.W.fnOf x x (defArgs st) (defBody st) (defScope st) .none kV doc pm an cdv ct) ⟨us, []⟩ = pure (ps.zip us))
    (no : ∀ vs H Q E, ¬ sp vs H Q E) : KDef P w K mg base CX 0 x ps sp := by
  obtain ⟨f, fd, hm, F⟩ := S.ex
  exact ⟨f, fd, hm, F.kp, F.bindsN hb, fun vs H Q E h => absurd h (no vs H Q E), fun A outer s H args us vs Q E _ _ _ _ h => absurd h (no vs H Q E)⟩
theorem KDef.mono {P : Program} {w : World} {K : PySem.W.Frag} {mg : Str → Option Value} {base : Heap} {x : Str} {ps : List Str} {sp : Sp} {CX : CXT} {j k : Nat} (D : KDef P w K mg base CX j x ps sp) (h : j ≤ k) : KDef P w K mg base CX k x ps sp := by
  obtain ⟨f, fd, a, b, c, F⟩ := D.ex
  exact ⟨f, fd, a, b, c, F.mono h⟩
theorem call_isiK {X : Cx} {K : PySem.W.Frag} (h : X.K = K) : CallR X (.builtin "isinstance") (rIsi K) := by subst h; exact call_isi
theorem tyx_list {K : PySem.W.Frag} {H : Hp} {a : Addr} {xs : List V} (h : SqL K H a xs) : TyX K H (.ref a) (.type "list") := by
  rcases h with (h | ⟨o, h⟩) | ⟨o, its, n, h1, h2, _⟩
  · exact .base (.lst h)
  · exact .base (.frz h)
  · exact .kList h1 h2
theorem tyx_tup {K : PySem.W.Frag} {H : Hp} {a : Addr} {xs : List V} (h : SqT K H a xs) : TyX K H (.ref a) (.type "tuple") := by
  rcases h with (h | ⟨o, h⟩) | ⟨o, its, n, h1, h2, _⟩
  · exact .base (.tup h)
  · exact .fTuple h
  · exact .kTuple h1 h2
/-- a value's type -/
theorem tyx_int {K : PySem.W.Frag} {H : Hp} (i : Int) : TyX K H (.int i) (.type "int") := .base (.int i)
theorem tyx_str {K : PySem.W.Frag} {H : Hp} (x : Str) : TyX K H (.str x) (.type "str") := .base (.str x)
theorem tyx_bl {K : PySem.W.Frag} {H : Hp} (b : Bool) : TyX K H (.bl b) (.type "bool") := .base (.bl b)
theorem DpAll.len {K : PySem.W.Frag} {H : Hp} : ∀ {vs : List V} {ds : List PyData}, DpAll K H vs ds → vs.length = ds.length
  | _, _, .nil => rfl
  | _, _, .cons _ t => congrArg Nat.succ (DpAll.len t)
theorem DpAll.get {K : PySem.W.Frag} {H : Hp} : ∀ {vs : List V} {ds : List PyData} {i : Nat}, DpAll K H vs ds → i < vs.length → ∃ v d, vs[i]? = some v ∧ ds[i]? = some d ∧ Dp K H v d ∧ d ∈ ds
  | _, _, _, .nil, h => by simp at h
  | _, _, 0, .cons h t, _ => ⟨_, _, rfl, rfl, h, List.mem_cons_self⟩
  | _, _, i + 1, .cons _ t, hi => by
    obtain ⟨v, d, e1, e2, e3, e4⟩ := DpAll.get (i := i) t (Nat.lt_of_succ_lt_succ hi)
    exact ⟨v, d, e1, e2, e3, List.mem_cons_of_mem _ e4⟩
theorem DpAll.ints {K : PySem.W.Frag} {H : Hp} : ∀ ns : List Int, DpAll K H (ns.map V.int) (ns.map PyData.int)
  | [] => .nil
  | n :: ns => .cons (.int n) (DpAll.ints ns)
theorem dp_ints {K : PySem.W.Frag} {H : Hp} {a : Addr} {ns : List Int} (h : SqL K H a (ns.map V.int)) : Dp K H (.ref a) (.list (ns.map PyData.int)) := .lst h (DpAll.ints ns)
def widthD (w : Fr × (Nat × Nat)) : PyData := .tuple [.tuple [.int w.1.1, .int w.1.2], .tuple [.int (w.2.1 : Int), .int (w.2.2 : Int)]]
theorem WAt.dp {K : PySem.W.Frag} {H : Hp} {p : Addr} {w : Fr × (Nat × Nat)} (h : WAt H p w) : Dp K H (.ref p) (widthD w) := by
  obtain ⟨q, r, e1, e2, e3⟩ := h.ex
  exact .tup (SqT.of e1) (.cons (.tup (SqT.of e2) (.cons (.int _) (.cons (.int _) .nil))) (.cons (.tup (SqT.of e3) (.cons (.int _) (.cons (.int _) .nil))) .nil))
theorem widthD_ok (w : Fr × (Nat × Nat)) : dOk 3 (widthD w) := by
  unfold widthD
  refine ⟨by show 2 ≤ 1000000; decide, fun d hd => ?_⟩
  simp only [List.mem_cons, List.not_mem_nil, or_false] at hd
  rcases hd with rfl | rfl
  · refine ⟨by show 2 ≤ 1000000; decide, fun e he => ?_⟩
    simp only [List.mem_cons, List.not_mem_nil, or_false] at he
    rcases he with rfl | rfl <;> trivial
  · refine ⟨by show 2 ≤ 1000000; decide, fun e he => ?_⟩
    simp only [List.mem_cons, List.not_mem_nil, or_false] at he
    rcases he with rfl | rfl <;> trivial
end KT

/-! The head: facts by names. -/
namespace KT
open PySem PySem.Spec PyProof.Rows L2
/-- a def of the top -/
def dfn (x : Str) (st : Stmt) : He.DefD := ⟨(x, none), x, x, defArgs st, defBody st, defScope st, [], []⟩
/-- a method -/
def dfm (C m q : Str) (st : Stmt) : He.DefD := ⟨(C, some m), m, q, defArgs st, defBody st, defScope st, [], []⟩
/-- a tuple of the top's data, by its place -/
def tupAt (K : PySem.W.Frag) (a : Addr) (vs : List V) : Bool :=
  match K.lookup a with
  | some ⟨.type c, _, .seq its _, _⟩ => decide (c = "tuple") && (decide (its.size ≤ sizeLine) && He.relAll vs its.toList)
  | _ => false
theorem tupAt_ok {K : PySem.W.Frag} {a : Addr} {vs : List V} (h : tupAt K a vs = true) (H : Hp) : SqT K H a vs := by
  unfold tupAt at h
  split at h
  · next c d its n sl e =>
    simp only [Bool.and_eq_true, decide_eq_true_eq] at h
    obtain ⟨h1, h2, h3⟩ := h
    subst h1
    exact .inr ⟨_, its, n, e, rfl, rfl, h2, He.relAll_ok h3⟩
  · cases h
def itemAt (K : PySem.W.Frag) (a : Addr) (i : Nat) : Addr :=
  match K.lookup a with
  | some ⟨_, _, .seq its _, _⟩ => match its.toList[i]? with
    | some (.ref b) => b
    | _ => 0
  | _ => 0
section
variable {fa : List He.Fa} {fn : List He.DefD} {K : PySem.W.Frag} {h : Heap} {mg : Str → Option Value}
theorem src_of (X : K.In h) (G : h.Ns mainGlobals mg) (c : He.SaysD fa fn K) (i j : Nat) {x : Str} {st : Stmt} (hf : fa[i]? = some (.glo x)) (hd : fn[j]? = some (dfn x st)) : Src K mg x st := by
  obtain ⟨fd, F⟩ := c.def_ j hd
  exact ⟨_, fd, He.glo_ok X G (c.fact i hf), F⟩
theorem bi_of (X : K.In h) (G : h.Ns mainGlobals mg) {x : Str} {id : String} (e : He.eqO (PySem.W.nsIn K mainGlobals x) (some (some (.builtin id))) = true) : mg x = some (.builtin id) := PySem.W.mg_of X G (He.eqO_ok e)
end
end KT

/-! Widths, units, bars: the mathematics and the promises. -/
namespace KT
open PySem PySem.Spec PyProof.Rows L2
/-! ### fractions by cross products -/
def leF (f g : Fr) : Prop := f.1 * g.2 ≤ g.1 * f.2
def ltF (f g : Fr) : Prop := f.1 * g.2 < g.1 * f.2
theorem ltF.not {f g : Fr} (h : ¬ ltF f g) : leF g f := Int.not_lt.mp h
theorem ltF.le {f g : Fr} (h : ltF f g) : leF f g := Int.le_of_lt h
theorem leF.refl (f : Fr) : leF f f := Int.le_refl _
theorem leF.trans {f g h : Fr} (hf : 0 < f.2) (hg : 0 < g.2) (hh : 0 < h.2) (a : leF f g) (b : leF g h) : leF f h := by
  have h1 : f.1 * g.2 * h.2 ≤ g.1 * f.2 * h.2 := Int.mul_le_mul_of_nonneg_right a (Int.le_of_lt hh)
  have h2 : g.1 * h.2 * f.2 ≤ h.1 * g.2 * f.2 := Int.mul_le_mul_of_nonneg_right b (Int.le_of_lt hf)
  have e1 : f.1 * h.2 * g.2 = f.1 * g.2 * h.2 := Int.mul_right_comm ..
  have e2 : g.1 * f.2 * h.2 = g.1 * h.2 * f.2 := Int.mul_right_comm ..
  have e3 : h.1 * g.2 * f.2 = h.1 * f.2 * g.2 := Int.mul_right_comm ..
  have h3 : f.1 * h.2 * g.2 ≤ h.1 * f.2 * g.2 := by rw [e1, ← e3]; exact Int.le_trans h1 (by rw [e2]; exact h2)
  exact Int.le_of_mul_le_mul_right h3 hg
theorem low_le {f g : Fr} (hf : 0 < f.2) (hg : 0 < g.2) : leF (lowF f.1 f.2) (lowF g.1 g.2) ↔ leF f g := by
  have := low_lt (t := g.1) (b := g.2) (t' := f.1) (b' := f.2) hg hf
  unfold leF
  constructor
  · intro h
    exact Int.not_lt.mp fun z => Int.not_lt.mpr h (this.mpr z)
  · intro h
    exact Int.not_lt.mp fun z => Int.not_lt.mpr h (this.mp z)
theorem low_self_le {f : Fr} (hf : 0 < f.2) : leF (lowF f.1 f.2) f ∧ leF f (lowF f.1 f.2) := by
  have e1 := low_top f.1 f.2
  have e2 := low_bot f.1 f.2
  have e : (lowF f.1 f.2).1 * f.2 = f.1 * (lowF f.1 f.2).2 := by
    have a1 : (lowF f.1 f.2).1 * f.2 = (lowF f.1 f.2).1 * (gI f.1 f.2 * (lowF f.1 f.2).2) := congrArg ((lowF f.1 f.2).1 * ·) e2.symm
    have a2 : f.1 * (lowF f.1 f.2).2 = gI f.1 f.2 * (lowF f.1 f.2).1 * (lowF f.1 f.2).2 := congrArg (· * (lowF f.1 f.2).2) e1.symm
    rw [a1, a2, Int.mul_left_comm, Int.mul_assoc]
  exact ⟨Int.le_of_eq e, Int.le_of_eq e.symm⟩
theorem low_scale {c t b : Int} (hc : 0 < c) : lowF (c * t) (c * b) = lowF t b := by
  have g : gI (c * t) (c * b) = c * gI t b := by
    unfold gI
    rw [Int.gcd_mul_left]
    have : (c.natAbs : Int) = c := by omega
    rw [Int.natCast_mul, this]
  unfold lowF
  rw [g, Int.mul_ediv_mul_of_pos _ _ hc, Int.mul_ediv_mul_of_pos _ _ hc]
theorem low_eq {f g : Fr} (hf : 0 < f.2) (hg : 0 < g.2) (a : leF f g) (b : leF g f) : lowF f.1 f.2 = lowF g.1 g.2 := by
  have e : f.1 * g.2 = g.1 * f.2 := Int.le_antisymm a b
  rw [← low_scale (c := g.2) hg, ← low_scale (t := g.1) (c := f.2) hf]
  rw [Int.mul_comm g.2 f.1, e, Int.mul_comm g.2 f.2, Int.mul_comm f.2 g.1]
theorem gcd_low {t b : Int} (hb : 0 < b) : Int.gcd (lowF t b).1 (lowF t b).2 = 1 := by
  have := Int.gcd_ediv_gcd_ediv_gcd (i := t) (j := b) (by
    have : 0 < Int.gcd t b := Int.gcd_pos_of_ne_zero_right t (by omega)
    exact this)
  exact this
/-! ### widths -/
structure Wid (f : Fr) : Prop where
  lo : 0 ≤ f.1
  lt : f.1 < f.2
  le : f.2 ≤ 20000000
  low : Int.gcd f.1 f.2 = 1
def lowU (ts ks : List Int) (f : Fr) (i : Nat) : Fr := (at_ ts i * f.2, at_ ks i * f.2 + f.1)
def highU (ts ks : List Int) (f : Fr) (i : Nat) : Fr := (at_ ts i * f.2, at_ ks i * f.2 - f.1)
def askF (ts ks : List Int) (i j : Nat) : Fr := (askT ts ks i j, askB ts i j)
section
variable {ts ks : List Int} {f : Fr} {i j : Nat}
theorem Wid.pos (h : Wid f) : 0 < f.2 := by
  have := h.lo
  have := h.lt
  omega
theorem TR.lowB (h : TR ts ks) (w : Wid f) (hi : i < ts.length) : 0 < (lowU ts ks f i).2 ∧ (lowU ts ks f i).2 ≤ 160000000 := by
  have a := w.lo
  have b := w.lt
  have c := w.le
  unfold lowU
  rcases h.ki hi with e | e | e <;> rw [e] <;> simp only <;> omega
theorem TR.highB (h : TR ts ks) (w : Wid f) (hi : i < ts.length) : 0 < (highU ts ks f i).2 ∧ (highU ts ks f i).2 ≤ 140000000 := by
  have a := w.lo
  have b := w.lt
  have c := w.le
  unfold highU
  rcases h.ki hi with e | e | e <;> rw [e] <;> simp only <;> omega
theorem TR.topB (h : TR ts ks) (w : Wid f) (hi : i < ts.length) : 0 < at_ ts i * f.2 ∧ at_ ts i * f.2 ≤ 199980000000 := by
  have a := h.ti hi
  have p := w.pos
  have c := w.le
  have h1 : at_ ts i * f.2 ≤ 9999 * f.2 := Int.mul_le_mul_of_nonneg_right a.2 (by omega)
  exact ⟨Int.mul_pos (by omega) p, by omega⟩
/-- a least unit is no greater than a greatest one if and only if the pair asks no more -/
theorem unit_ask (w : Wid f) : leF (lowU ts ks f i) (highU ts ks f j) ↔ leF (askF ts ks i j) f := by
  have p := w.pos
  unfold leF lowU highU askF askT askB
  simp only
  generalize at_ ts i = s
  generalize at_ ts j = t
  generalize at_ ks i = k
  generalize at_ ks j = l
  have e1 : s * f.2 * (l * f.2 - f.1) = (s * (l * f.2) - s * f.1) * f.2 := by
    rw [Int.mul_right_comm, Int.mul_sub]
  have e2 : t * f.2 * (k * f.2 + f.1) = (t * (k * f.2) + t * f.1) * f.2 := by
    rw [Int.mul_right_comm, Int.mul_add]
  have e3 : (s * l - t * k) * f.2 = s * (l * f.2) - t * (k * f.2) := by
    rw [Int.sub_mul, Int.mul_assoc, Int.mul_assoc]
  have e4 : f.1 * (s + t) = s * f.1 + t * f.1 := by
    rw [Int.mul_add, Int.mul_comm f.1 s, Int.mul_comm f.1 t]
  rw [e1, e2, e3, e4]
  constructor
  · intro h
    have := Int.le_of_mul_le_mul_right h p
    omega
  · intro h
    exact Int.mul_le_mul_of_nonneg_right (by omega) (Int.le_of_lt p)
/-- .. and they are alike if the pair asks just that -/
theorem unit_ask_eq (w : Wid f) : leF (highU ts ks f j) (lowU ts ks f i) ↔ leF f (askF ts ks i j) := by
  have p := w.pos
  unfold leF lowU highU askF askT askB
  simp only
  generalize at_ ts i = s
  generalize at_ ts j = t
  generalize at_ ks i = k
  generalize at_ ks j = l
  have e1 : s * f.2 * (l * f.2 - f.1) = (s * (l * f.2) - s * f.1) * f.2 := by
    rw [Int.mul_right_comm, Int.mul_sub]
  have e2 : t * f.2 * (k * f.2 + f.1) = (t * (k * f.2) + t * f.1) * f.2 := by
    rw [Int.mul_right_comm, Int.mul_add]
  have e3 : (s * l - t * k) * f.2 = s * (l * f.2) - t * (k * f.2) := by
    rw [Int.sub_mul, Int.mul_assoc, Int.mul_assoc]
  have e4 : f.1 * (s + t) = s * f.1 + t * f.1 := by
    rw [Int.mul_add, Int.mul_comm f.1 s, Int.mul_comm f.1 t]
  rw [e1, e2, e3, e4]
  constructor
  · intro h
    have := Int.le_of_mul_le_mul_right h p
    omega
  · intro h
    exact Int.mul_le_mul_of_nonneg_right (by omega) (Int.le_of_lt p)
end
/-! ### the best is the greatest -/
theorem fold_ge {ts ks : List Int} (h : TR ts ks) : ∀ (l : List (Nat × Nat)) (s : Best), (∀ p ∈ l, p.1 < ts.length ∧ p.2 < ts.length) → BestOk ts ks s →
    leF s.1 (l.foldl (stepB ts ks) s).1 ∧ ∀ p ∈ l, leF (askF ts ks p.1 p.2) (l.foldl (stepB ts ks) s).1
  | [], s, _, o => ⟨leF.refl _, fun p hp => absurd hp List.not_mem_nil⟩
  | p :: l, s, hl, o => by
    have m := hl p List.mem_cons_self
    have o2 := o.step h m.1 m.2
    have oz := BestOk.fold h l _ (fun q hq => hl q (List.mem_cons_of_mem _ hq)) o2
    obtain ⟨a, b⟩ := fold_ge h l (stepB ts ks s p) (fun q hq => hl q (List.mem_cons_of_mem _ hq)) o2
    have bb := h.bot m.1 m.2
    have c : leF s.1 (stepB ts ks s p).1 ∧ leF (askF ts ks p.1 p.2) (stepB ts ks s p).1 := by
      by_cases c : s.1.1 * askB ts p.1 p.2 < askT ts ks p.1 p.2 * s.1.2
      · rw [stepB_pos c]
        exact ⟨Int.le_of_lt c, Int.le_refl _⟩
      · rw [stepB_neg c]
        exact ⟨Int.le_refl _, Int.not_lt.mp c⟩
    refine ⟨leF.trans o.pos o2.pos oz.pos c.1 a, fun q hq => ?_⟩
    rcases List.mem_cons.mp hq with rfl | hq
    · exact leF.trans bb.1 o2.pos oz.pos c.2 a
    · exact b q hq
theorem fold_in {ts ks : List Int} : ∀ (l : List (Nat × Nat)) (s : Best), (l.foldl (stepB ts ks) s) = s ∨ ∃ p ∈ l, (l.foldl (stepB ts ks) s).1 = askF ts ks p.1 p.2
  | [], s => .inl rfl
  | p :: l, s => by
    rcases fold_in l (stepB ts ks s p) with e | ⟨q, hq, e⟩
    · by_cases c : s.1.1 * askB ts p.1 p.2 < askT ts ks p.1 p.2 * s.1.2
      · refine .inr ⟨p, List.mem_cons_self, ?_⟩
        show (l.foldl (stepB ts ks) (stepB ts ks s p)).1 = _
        rw [e, stepB_pos c]
        rfl
      · refine .inl ?_
        show l.foldl (stepB ts ks) (stepB ts ks s p) = s
        rw [e, stepB_neg c]
    · exact .inr ⟨q, List.mem_cons_of_mem _ hq, e⟩
theorem best_ge {ts ks : List Int} (h : TR ts ks) (hn : 0 < ts.length) {i j : Nat} (hi : i < ts.length) (hj : j < ts.length) : leF (askF ts ks i j) (bestOf ts ks).1 :=
  (fold_ge h _ _ (fun p hp => mem_pairs.mp hp) (BestOk.start hn)).2 (i, j) (mem_pairs.mpr ⟨hi, hj⟩)
theorem best_in {ts ks : List Int} : (bestOf ts ks) = ((0, 1), (0, 0)) ∨ ∃ i j, i < ts.length ∧ j < ts.length ∧ (bestOf ts ks).1 = askF ts ks i j := by
  rcases fold_in (ts := ts) (ks := ks) (pairs ts.length) ((0, 1), (0, 0)) with e | ⟨p, hp, e⟩
  · exact .inl e
  · exact .inr ⟨p.1, p.2, (mem_pairs.mp hp).1, (mem_pairs.mp hp).2, e⟩
/-! ### promises -/
def spCheckW (K : PySem.W.Frag) : Sp := fun vs H Q _ => ∃ (p : Addr) (f : Fr), vs = [.ref p] ∧ SqT K H p (frV f) ∧ Wid f ∧ ∀ H', Same H H' → Q .non H'
/-- a list of fractions -/
def FrAt (H : Hp) (vs : List V) (l : List Fr) : Prop := vs.length = l.length ∧ ∀ (i : Nat) (f : Fr), l[i]? = some f → ∃ r : Addr, vs[i]? = some (.ref r) ∧ H r = some (.tup (frV f))
theorem FrAt.same {H H' : Hp} {vs : List V} {l : List Fr} (h : FrAt H vs l) (s : Same H H') : FrAt H' vs l := ⟨h.1, fun i f e => by
  obtain ⟨r, e1, e2⟩ := h.2 i f e
  exact ⟨r, e1, s _ _ e2⟩⟩
theorem FrAt.snoc {H H' : Hp} {vs : List V} {l : List Fr} {f : Fr} {r : Addr} (h : FrAt H vs l) (s : ∀ (b : Addr) (xs : List V), H b = some (.tup xs) → H' b = some (.tup xs)) (e2 : H' r = some (.tup (frV f))) : FrAt H' (vs ++ [.ref r]) (l ++ [f]) := by
  refine ⟨by rw [List.length_append, List.length_append, h.1]; rfl, fun i u e => ?_⟩
  by_cases hi : i < l.length
  · rw [List.getElem?_append_left hi] at e
    obtain ⟨r', g1, g2⟩ := h.2 i u e
    exact ⟨r', by rw [List.getElem?_append_left (by rw [h.1]; exact hi)]; exact g1, s _ _ g2⟩
  · have e5 : i = l.length := by
      have := (List.getElem?_eq_some_iff.mp e).1
      rw [List.length_append] at this
      simp at this
      omega
    subst e5
    rw [List.getElem?_append_right (Nat.le_refl _), Nat.sub_self] at e
    cases e
    exact ⟨r, by rw [← h.1, List.getElem?_append_right (Nat.le_refl _), Nat.sub_self]; rfl, e2⟩
def spGreat : Sp := fun vs H Q _ => ∃ (a : Addr) (xs : List V) (l : List Fr), vs = [.ref a] ∧ H a = some (.lst xs) ∧ FrAt H xs l ∧ l ≠ [] ∧ (∀ f ∈ l, 0 < f.2 ∧ Sml f.1) ∧ ∀ (r : Addr) (m : Fr), H r = some (.tup (frV m)) → m ∈ l → (∀ f ∈ l, leF f m) → Q (.ref r) H
def spLeastOf : Sp := fun vs H Q _ => ∃ (a : Addr) (xs : List V) (l : List Fr), vs = [.ref a] ∧ H a = some (.lst xs) ∧ FrAt H xs l ∧ l ≠ [] ∧ (∀ f ∈ l, 0 < f.2 ∧ Sml f.1) ∧ ∀ (r : Addr) (m : Fr), H r = some (.tup (frV m)) → m ∈ l → (∀ f ∈ l, leF m f) → Q (.ref r) H
/-- the least unit, the greatest -/
structure LoB (ts ks : List Int) (f m : Fr) : Prop where
  ex : ∃ i, i < ts.length ∧ m = lowU ts ks f i
  ge : ∀ i, i < ts.length → leF (lowU ts ks f i) m
structure HiB (ts ks : List Int) (f m : Fr) : Prop where
  ex : ∃ i, i < ts.length ∧ m = highU ts ks f i
  ge : ∀ i, i < ts.length → leF m (highU ts ks f i)
/-- taps, a reading, a width -/
structure TKW (K : PySem.W.Frag) (C : Addr) (H : Hp) (x b p : Addr) (ts ks : List Int) (f : Fr) : Prop where
  t : ∃ l, TapsAt C H x l ts
  k : SqL K H b (ks.map V.int)
  w : SqT K H p (frV f)
  tp : Tps ts
  rd : Rdg 0 ks
  len : ks.length = ts.length
  wid : Wid f
theorem TKW.same {K : PySem.W.Frag} {C : Addr} {H H' : Hp} {x b p : Addr} {ts ks : List Int} {f : Fr} (h : TKW K C H x b p ts ks f) (s : Same H H') : TKW K C H' x b p ts ks f := by
  obtain ⟨⟨l, a⟩, b, c, d, e, g, i⟩ := h
  exact ⟨⟨l, a.same s⟩, s.seq b, same_tup s c, d, e, g, i⟩
theorem TKW.tr {K : PySem.W.Frag} {C : Addr} {H : Hp} {x b p : Addr} {ts ks : List Int} {f : Fr} (h : TKW K C H x b p ts ks f) : TR ts ks := h.tp.tr h.rd h.len
/-- two fractions in lowest terms -/
structure UAt (H : Hp) (p : Addr) (m M : Fr) : Prop where
  ex : ∃ q r : Addr, H p = some (.tup [.ref q, .ref r]) ∧ H q = some (.tup (frV (lowF m.1 m.2))) ∧ H r = some (.tup (frV (lowF M.1 M.2)))
theorem UAt.same {H H' : Hp} {p : Addr} {m M : Fr} (h : UAt H p m M) (s : Same H H') : UAt H' p m M := by
  obtain ⟨q, r, a, b, c⟩ := h.ex
  exact ⟨q, r, s _ _ a, s _ _ b, s _ _ c⟩
def spUnits (K : PySem.W.Frag) (C : Addr) : Sp := fun vs H Q _ => ∃ (x b p : Addr) (ts ks : List Int) (f : Fr), vs = [.ref x, .ref b, .ref p] ∧ TKW K C H x b p ts ks f ∧
  ∀ m M, LoB ts ks f m → HiB ts ks f M → (ltF M m → ∀ H', Same H H' → Q .non H') ∧ (leF m M → ∀ (q : Addr) (H' : Hp), Same H H' → UAt H' q m M → Q (.ref q) H')
/-- all pairs ask no more -/
def NoBar (ts ks : List Int) (f : Fr) : Prop := ∀ i j, i < ts.length → j < ts.length → leF (askF ts ks i j) f
/-- the pair at n is the first that asks more -/
structure FirstBar (ts ks : List Int) (f : Fr) (n : Nat) (p : Nat × Nat) : Prop where
  at_ : (pairs ts.length)[n]? = some p
  more : ltF f (askF ts ks p.1 p.2)
  no : ∀ (k : Nat) (q : Nat × Nat), k < n → (pairs ts.length)[k]? = some q → leF (askF ts ks q.1 q.2) f
theorem FirstBar.mem {ts ks : List Int} {f : Fr} {n : Nat} {p : Nat × Nat} (h : FirstBar ts ks f n p) : p.1 < ts.length ∧ p.2 < ts.length := mem_pairs.mp (List.mem_of_getElem? h.at_)
def spBar (K : PySem.W.Frag) (C : Addr) : Sp := fun vs H Q _ => ∃ (x b p : Addr) (ts ks : List Int) (f : Fr), vs = [.ref x, .ref b, .ref p] ∧ TKW K C H x b p ts ks f ∧
  (NoBar ts ks f → ∀ H', Same H H' → Q .non H') ∧ ∀ n u, FirstBar ts ks f n u → ∀ (q : Addr) (H' : Hp), Same H H' → H' q = some (.tup (prV u)) → Q (.ref q) H'
def spAllowed (K : PySem.W.Frag) (C : Addr) : Sp := fun vs H Q _ => ∃ (x b p : Addr) (ts ks : List Int) (f : Fr), vs = [.ref x, .ref b, .ref p] ∧ TKW K C H x b p ts ks f ∧
  (NoBar ts ks f → ∀ H', Same H H' → Q (.bl true) H') ∧ ((∃ i j, i < ts.length ∧ j < ts.length ∧ ltF f (askF ts ks i j)) → ∀ H', Same H H' → Q (.bl false) H')
theorem wid_low {t b : Int} (h0 : 0 ≤ t) (h1 : t < b) (h2 : b ≤ 20000000) : Wid (lowF t b) := by
  have hb : 0 < b := by omega
  have g := gI_pos (t := t) hb
  have p := low_pos (t := t) hb
  have le := low_bot_le (t := t) hb
  refine ⟨Int.ediv_nonneg h0 (Int.le_of_lt g), ?_, by omega, gcd_low hb⟩
  have a := low_top t b
  have c := low_bot t b
  have z : gI t b * (lowF t b).1 < gI t b * (lowF t b).2 := by rw [a, c]; exact h1
  exact (Int.mul_lt_mul_left g).mp z
theorem atX {ts : List Int} {i : Nat} (h : i < ts.length) : atI (ts.map V.int) (0 + (i : Int)) = some (V.int (at_ ts i)) := aI (by omega) (by rw [Int.zero_add, Int.toNat_natCast]; exact at_int (get_at h))
/-! ### the law's own -/
def spSomeW : Sp := fun vs H Q _ => ∃ d : Addr, vs = [.ref d] ∧ Dice H d ∧ ∀ (f : Fr) (p : Addr) (H' : Hp), Wid f → f.2 ≤ 10001 → H p = none → H' p = some (.tup (frV f)) → Dice H' d → Kp d H H' → Q (.ref p) H'
def spFits (K : PySem.W.Frag) : Sp := fun vs H Q _ => ∃ (a b p u : Addr) (ts ks : List Int) (f g : Fr), vs = [.ref a, .ref b, .ref p, .ref u] ∧ TRAt K H a b ts ks ∧ SqT K H p (frV f) ∧ SqT K H u (frV g) ∧ Wid f ∧
  (∀ i, i < ts.length → leF (lowU ts ks f i) g ∧ leF g (highU ts ks f i)) ∧ ∀ H', Same H H' → Q (.bl true) H'
end KT

/-! Own rules: list.remove of nested data; lists of whole numbers in order. -/
namespace KT
open PySem PySem.Spec PyProof.Rows L2
theorem remLoop (l : Addr) (items : Array Value) (n : Nat) (x : Value) (e : Value → Bool) (j : Nat) (hj : j < items.size) (hit : e items[j] = true) (hs : items.size ≤ sizeLine) :
    ∀ (k i : Nat), j - i = k → i ≤ j → (∀ (m : Nat) (hm : m < items.size), i ≤ m → m < j → e items[m] = false) →
      Meets (Builtin.«list.remove.loop» { pos := [Value.ref l, x, rawInt (i : Int)] }) fun A R s =>
        s.heap.get? l = some { cls := Value.type "list", data := Data.seq items n } ∧ (∀ y : Value, y ∈ items → SeqAt.EqAt (Around.in1 A) s y x (e y)) ∧
          R (Except.ok (Flow.ret Value.none)) { heap := Heap.update s.heap l (Obj.mapSeq fun xs => xs.eraseIdxIfInBounds j), gens := s.gens, drawn := s.drawn, toks := s.toks, os := s.os } := by
  intro k
  induction k with
  | zero =>
    intro i hk hij hno prog w A R s h
    cases s
    obtain ⟨hl, he, h⟩ := h
    have e1 : i = j := by omega
    subst e1
    refine wpAny_bind (wpAny_bind (wpAny_bind (wpAny_load' hl (wpAny_pure (wpAny_pure ?_)))))
    have hi : items[Int.toNat (i : Int)]? = some items[i] := by
      rw [Int.toNat_natCast]
      exact Array.getElem?_eq_getElem hj
    show wpAny _ _ (match items[Int.toNat (i : Int)]? with | none => _ | some y => _) _ _ _
    rw [hi]
    refine wpAny_bind (he items[i] (Array.getElem_mem hj) prog w _ _ ?_)
    rw [hit]
    refine wpAny_ite_true rfl (wpAny_bind (wpAny_updateSeq hl rfl ?_ hs (Nat.le_trans (MeetsSeq.size_erased items _) (Nat.le_succ_of_le hs))))
    exact wpAny_pure h
  | succ k ih =>
    intro i hk hij hno prog w A R s h
    have hlt : i < items.size := by omega
    cases s
    obtain ⟨hl, he, h⟩ := h
    refine wpAny_bind (wpAny_bind (wpAny_bind (wpAny_load' hl (wpAny_pure (wpAny_pure ?_)))))
    have hi : items[Int.toNat (i : Int)]? = some items[i] := by
      rw [Int.toNat_natCast]
      exact Array.getElem?_eq_getElem hlt
    show wpAny _ _ (match items[Int.toNat (i : Int)]? with | none => _ | some y => _) _ _ _
    rw [hi]
    refine wpAny_bind (he items[i] (Array.getElem_mem hlt) prog w _ _ ?_)
    rw [hno i hlt (Nat.le_refl i) (by omega)]
    refine wpAny_ite_false rfl (wpAny_pure ?_)
    refine ⟨plainId_quiet MeetsSeq.plain_remove_loop _, codeAny_builtin MeetsSeq.entry_remove_loop ?_⟩
    rw [Around.under_plainId MeetsSeq.plain_remove_loop]
    exact ih (i + 1) (by omega) (by omega) (fun m hm h1 h2 => hno m hm (by omega) h2) prog w A R _ ⟨hl, he, h⟩
theorem remAt (l : Addr) (items : Array Value) (n : Nat) (x : Value) (e : Value → Bool) (j : Nat) (hj : j < items.size) (hit : e items[j] = true) (hs : items.size ≤ sizeLine) (hno : ∀ (m : Nat) (hm : m < items.size), m < j → e items[m] = false) :
    Meets (Builtin.«list.remove» { pos := [Value.ref l, x] }) fun A R s =>
      s.heap.get? l = some { cls := Value.type "list", data := Data.seq items n } ∧ (∀ y : Value, y ∈ items → SeqAt.EqAt (Around.in1 A) s y x (e y)) ∧
        R (Except.ok (Flow.ret Value.none)) { heap := Heap.update s.heap l (Obj.mapSeq fun xs => xs.eraseIdxIfInBounds j), gens := s.gens, drawn := s.drawn, toks := s.toks, os := s.os } := by
  intro prog w A R s h
  refine wpAny_bind (wpAny_bind (wpAny_ite_true rfl (wpAny_pure (wpAny_pure (wpAny_pure ?_)))))
  refine ⟨plainId_quiet MeetsSeq.plain_remove_loop _, codeAny_builtin MeetsSeq.entry_remove_loop ?_⟩
  rw [Around.under_plainId MeetsSeq.plain_remove_loop]
  exact remLoop l items n x e j hj hit hs (j - 0) 0 rfl (Nat.zero_le j) (fun m hm _ h2 => hno m hm h2) prog w A R s h
/-- xs.remove(y), nested data: the first that is alike goes -/
def rRemD (K : PySem.W.Frag) : V → List V → Hp → VK → Prop := fun x xs H Q => ∃ (l : Addr) (vs : List V) (y : V) (d : PyData) (ds : List PyData) (j : Nat) (z : PyData), x = .ref l ∧ xs = [y] ∧ H l = some (.lst vs) ∧ DpAll K H vs ds ∧ Dp K H y d ∧
  SeqAt.shaped (.list ds) = true ∧ SeqAt.shaped d = true ∧ ds[j]? = some z ∧ PyData.eqv z d = true ∧ (∀ (m : Nat) (z' : PyData), m < j → ds[m]? = some z' → PyData.eqv z' d = false) ∧ Q .non (upd H l (.lst (vs.eraseIdx j)))
theorem canAll_of {ds : List PyData} (h : SeqAt.shaped (.list ds) = true) : PyData.canLayAll0 ds = true := by
  have := SeqAt.canLay_of_shaped h
  simpa [PyData.canLay0] using this
theorem mt_removeD {X : Cx} {K : PySem.W.Frag} (hu : X.A.units + 65 < cLine) (hK : X.K = K) : MtM X "list.remove" (rRemD K) := by
  subst hK
  intro pins s σ H x xs v us Q I rx rxs h
  obtain ⟨l, vs, y, d, ds, j, z, rfl, rfl, hl, hd, hy, sl, sd, hz, hzj, hno, q⟩ := h
  cases rx
  obtain ⟨b, rfl, ry⟩ := Vals.one rxs
  obtain ⟨z1, its, n, rv, hlen, ho⟩ := I.lstM hl
  obtain ⟨bs, r1⟩ := Dp.reads I d y b hy ry
  obtain ⟨as, h4⟩ := Dp.readsAll I ds vs its hd rv
  have hxs := canAll_of sl
  have hn := SeqAt.ReadsAll.length ds its as h4
  have hmap := SeqAt.readsAll_map ds its as hxs h4
  have hjd := (List.getElem?_eq_some_iff.mp hz).1
  have hjl : j < its.toArray.size := by
    rw [List.size_toArray]
    omega
  have at_ : ∀ (m : Nat) (hm : m < its.toArray.size) (z' : PyData), ds[m]? = some z' → SeqAt.readOf s.heap its.toArray[m] = z' := fun m hm z' hz' => by
    rw [← hmap, List.getElem?_map] at hz'
    have hml : m < its.length := by
      rw [List.size_toArray] at hm
      exact hm
    rw [List.getElem?_eq_getElem hml] at hz'
    exact Option.some.inj hz'
  have hs : its.toArray.size ≤ sizeLine := by
    rw [List.size_toArray]
    omega
  refine call_meets F.slot_list_remove ⟨_, ho, rfl⟩ F.entry_list_remove (F.args_list_remove_2 _ _)
    (remAt l its.toArray n b (fun u => PyData.eqv (SeqAt.readOf s.heap u) d) j hjl (by rw [at_ j hjl z hz]; exact hzj) hs (fun m hm hmj => ?_)) ⟨ho, SeqAt.items_eqAt h4 r1 hxs (SeqAt.canLay_of_shaped sd) (room_in_shaped sd hu), ?_⟩
  · have hmd : m < ds.length := by omega
    have hz' := List.getElem?_eq_getElem hmd
    show PyData.eqv (SeqAt.readOf s.heap its.toArray[m]) d = false
    rw [at_ m hm _ hz']
    exact hno m _ hmj hz'
  · refine ⟨V.non, upd H l (.lst (vs.eraseIdx j)), I.lset hl ho (List.eraseIdxIfInBounds_toArray its j) (Vals.eraseIdx j rv) ?_, rfl, q⟩
    have := List.length_eraseIdx_le vs j
    omega
theorem rcInt {prog : Program} {w : World} {A : Around} {E : Value → Shared → Prop} {s : Shared} {a b : Int} {t u : Tok} {Q : Value → Shared → Prop} (h : Q (Value.bool (decide (a < b))) s) : wpAny (model prog w) A (richCompare CmpOp.Lt (Value.int a t) (Value.int b u)) Q E s :=
  richCompare_gives (typeIs_int s a t) (typeIs_int s b u) F.slot_int_lt F.entry_int_lt (F.args_int_lt_2 _ _) (gives_int_lt a b t u) (fun x => nomatch x) h rfl
theorem at_ints {items : Array Value} {ns : List Int} (hi : IntsAre items.toList ns) {i : Nat} (h : i < ns.length) : ∃ t, items[i]? = some (Value.int ns[i] t) := by
  obtain ⟨t, e⟩ := IntsAre.get hi i ns[i] (List.getElem?_eq_getElem h)
  exact ⟨t, by rw [← Array.getElem?_toList]; exact e⟩
theorem at_none {items : Array Value} {ns : List Int} (hi : IntsAre items.toList ns) {i : Nat} (h : ¬ i < ns.length) : items[i]? = none := by
  have := IntsAre.length hi
  rw [Array.getElem?_eq_none]
  rw [Array.length_toList] at this
  omega
theorem ltLoop (l b : Addr) (items items2 : Array Value) (n n2 : Nat) (dd dd2 : Option Addr) (sl sl2 : Array (Option Value)) (ns ms : List Int) (hi : IntsAre items.toList ns) (hj : IntsAre items2.toList ms) :
    ∀ (k i : Nat), ns.length - i = k → i ≤ ns.length → i ≤ ms.length →
      Meets (Builtin.«list.__eq__.loop» { pos := [Value.ref l, Value.ref b, rawInt (i : Int), rawInt 0] }) fun A R s =>
        s.heap.get? l = some { cls := Value.type "list", dict := dd, data := Data.seq items n, slots := sl } ∧ s.heap.get? b = some { cls := Value.type "list", dict := dd2, data := Data.seq items2 n2, slots := sl2 } ∧
          R (Except.ok (Flow.ret (Value.bool (HT.lexLt (ns.drop i) (ms.drop i))))) s := by
  intro k
  induction k with
  | zero =>
    intro i hk hn hm prog w A R s h
    cases s
    obtain ⟨hl, hb, h⟩ := h
    refine wpAny_bind (wpAny_bind (wpAny_bind (wpAny_load' hl (wpAny_pure (wpAny_pure (wpAny_bind (wpAny_bind (wpAny_bind (wpAny_load' hb (wpAny_pure (wpAny_pure ?_)))))))))))
    have e1 : items[Int.toNat (i : Int)]? = none := by
      rw [Int.toNat_natCast]
      exact at_none hi (by omega)

    rw [e1]
    refine wpAny_bind (wpAny_bind (wpAny_bind (wpAny_load' hl (wpAny_pure (wpAny_pure (wpAny_bind (wpAny_bind (wpAny_bind (wpAny_load' hb (wpAny_pure (wpAny_pure (wpAny_pure ?_))))))))))))
    refine Eq.mp (congrArg (fun v => R (Except.ok (Flow.ret v)) _) ?_) h
    have z1 := IntsAre.length hi
    have z2 := IntsAre.length hj
    rw [Array.length_toList] at z1 z2
    show Value.bool _ = Value.bool (decide (items.size < items2.size))
    rw [List.drop_eq_nil_of_le (by omega : ns.length ≤ i)]
    by_cases c : i < ms.length
    · rw [List.drop_eq_getElem_cons c, HT.lexLt_nil_cons, decide_eq_true (by omega)]
    · rw [List.drop_eq_nil_of_le (by omega : ms.length ≤ i), HT.lexLt_nil_nil, decide_eq_false (by omega)]
  | succ k ih =>
    intro i hk hn hm prog w A R s h
    have hin : i < ns.length := by omega
    cases s
    obtain ⟨hl, hb, h⟩ := h
    refine wpAny_bind (wpAny_bind (wpAny_bind (wpAny_load' hl (wpAny_pure (wpAny_pure (wpAny_bind (wpAny_bind (wpAny_bind (wpAny_load' hb (wpAny_pure (wpAny_pure ?_)))))))))))
    obtain ⟨t, e1⟩ := at_ints hi hin
    have e1' : items[Int.toNat (i : Int)]? = some (Value.int ns[i] t) := by
      rw [Int.toNat_natCast]
      exact e1
    rw [e1']
    by_cases c : i < ms.length
    · obtain ⟨t2, e2⟩ := at_ints hj c
      have e2' : items2[Int.toNat (i : Int)]? = some (Value.int ms[i] t2) := by
        rw [Int.toNat_natCast]
        exact e2
      rw [e2']
      refine wpAny_bind (wpAny_eqBool_int ?_)
      rw [List.drop_eq_getElem_cons hin, List.drop_eq_getElem_cons c, HT.lexLt_cons] at h
      by_cases q : ns[i] = ms[i]
      · rw [if_pos q] at h
        refine wpAny_ite_true (by rw [q]; exact decide_eq_true (beq_self_eq_true _)) (wpAny_pure ?_)
        refine ⟨plainId_quiet MeetsSeq3.plain_eq_loop _, codeAny_builtin MeetsSeq3.entry_eq_loop ?_⟩
        rw [Around.under_plainId MeetsSeq3.plain_eq_loop]
        exact ih (i + 1) (by omega) (by omega) (by omega) prog w A R _ ⟨hl, hb, h⟩
      · rw [if_neg q] at h
        refine wpAny_ite_false (by rw [beq_eq_false_iff_ne.mpr q]; rfl) ?_
        refine wpAny_bind (wpAny_bind (wpAny_bind (wpAny_load' hl (wpAny_pure (wpAny_pure (wpAny_bind (wpAny_bind (wpAny_bind (wpAny_load' hb (wpAny_pure (wpAny_pure ?_)))))))))))
        rw [e1', e2']
        refine wpAny_bind (rcInt (wpAny_pure ?_))
        exact h
    · have e2' : items2[Int.toNat (i : Int)]? = none := by
        rw [Int.toNat_natCast]
        exact at_none hj c
      rw [e2']
      refine wpAny_bind (wpAny_bind (wpAny_bind (wpAny_load' hl (wpAny_pure (wpAny_pure (wpAny_bind (wpAny_bind (wpAny_bind (wpAny_load' hb (wpAny_pure (wpAny_pure (wpAny_pure ?_))))))))))))
      refine Eq.mp (congrArg (fun v => R (Except.ok (Flow.ret v)) _) ?_) h
      have z1 := IntsAre.length hi
      have z2 := IntsAre.length hj
      rw [Array.length_toList] at z1 z2
      show Value.bool _ = Value.bool (decide (items.size < items2.size))
      rw [List.drop_eq_getElem_cons hin, List.drop_eq_nil_of_le (by omega : ms.length ≤ i), HT.lexLt_cons_nil, decide_eq_false (by omega)]
theorem ltMeets (l b : Addr) (items items2 : Array Value) (n n2 : Nat) (dd dd2 : Option Addr) (sl sl2 : Array (Option Value)) (ns ms : List Int) (hi : IntsAre items.toList ns) (hj : IntsAre items2.toList ms) :
    Meets (Builtin.«list.__lt__» { pos := [Value.ref l, Value.ref b] }) fun A R s =>
      s.heap.get? l = some { cls := Value.type "list", dict := dd, data := Data.seq items n, slots := sl } ∧ s.heap.get? b = some { cls := Value.type "list", dict := dd2, data := Data.seq items2 n2, slots := sl2 } ∧
        R (Except.ok (Flow.ret (Value.bool (HT.lexLt ns ms)))) s := by
  intro prog w A R s h
  cases s
  obtain ⟨hl, hb, h⟩ := h
  have f2 := AutoSeq1.sub_list_list
  refine wpAny_bind ?_
  unfold slotArgs
  refine wpAny_ite_false rfl (wpAny_ite_false rfl (wpAny_pure ?_))
  refine wpAny_bind ?_
  unfold isInstance
  refine wpAny_bind ?_
  unfold PySem.typeOf
  refine wpAny_bind (wpAny_loadPart' hb (wpAny_pure (wpAny_of_eq f2 (wpAny_ite_false rfl ?_))))
  refine wpAny_pure ⟨plainId_quiet MeetsSeq3.plain_eq_loop _, codeAny_builtin MeetsSeq3.entry_eq_loop ?_⟩
  rw [Around.under_plainId MeetsSeq3.plain_eq_loop]
  exact ltLoop l b items items2 n n2 dd dd2 sl sl2 ns ms hi hj (ns.length - 0) 0 rfl (Nat.zero_le _) (Nat.zero_le _) prog w A R _ ⟨hl, hb, h⟩
theorem ltLst {prog : Program} {w : World} {A : Around} {E : Value → Shared → Prop} {s : Shared} {a b : Addr} {its its2 : Array Value} {ns ms : List Int} {Q : Value → Shared → Prop} (p1 : PlainL s.heap a its) (p2 : PlainL s.heap b its2)
    (i1 : IntsAre its.toList ns) (i2 : IntsAre its2.toList ms) (hu : A.units < cLine) (h : Q (Value.bool (HT.lexLt ns ms)) s) : wpAny (model prog w) A (compareOp CmpOp.Lt (Value.ref a) (Value.ref b)) Q E s := by
  obtain ⟨⟨c1, dd, data, sl⟩, n, ho, hc, hdn, hd⟩ := p1
  obtain ⟨⟨c2, dd2, data2, sl2⟩, n2, ho2, hc2, hdn2, hd2⟩ := p2
  simp only at hc hd hc2 hd2
  subst hc hd hc2 hd2
  have this : (Value.bool (HT.lexLt ns ms) ≠ Value.notImplemented ∧ Q (Value.bool (HT.lexLt ns ms)) s) := by
    refine ⟨?_, h⟩
    intro z
    cases z
  have t1 : s.TypeIs (Value.ref a) "list" := ⟨_, ho, rfl⟩
  have t2 : s.TypeIs (Value.ref b) "list" := ⟨_, ho2, rfl⟩
  have m := ltMeets a b its its2 n n2 dd dd2 sl sl2 ns ms i1 i2
  show wpAny (model prog w) A (richCompare CmpOp.Lt (Value.ref a) (Value.ref b)) Q E s
  refine richCompare_meets_room (op := CmpOp.Lt) t1 t2 F.slot_list_lt F.entry_list_lt (F.args_list_lt_2 (Value.ref a) (Value.ref b)) m ?_ hu
  refine ⟨ho, ho2, ?_⟩
  exact this
/-- a < b, lists of whole numbers -/
def rLtL (K : PySem.W.Frag) : R2 := fun x y H Q => ∃ (a b : Addr) (ns ms : List Int), x = .ref a ∧ y = .ref b ∧ SqL K H a (ns.map V.int) ∧ SqL K H b (ms.map V.int) ∧ Q (.bl (HT.lexLt ns ms)) H
theorem op_ltL {X : Cx} {K : PySem.W.Frag} (hu : X.A.units < cLine) (hK : X.K = K) : OpR X (compareOp CmpOp.Lt) (rLtL K) := by
  subst hK
  intro pins s σ H x y v u Q I rx ry h
  obtain ⟨a, b, ns, ms, rfl, rfl, ha, hb, q⟩ := h
  cases rx
  cases ry
  obtain ⟨its, r1, p1, _⟩ := I.list ha
  obtain ⟨its2, r2, p2, _⟩ := I.list hb
  exact ltLst p1 p2 (L2.intsAre_of r1) (L2.intsAre_of r2) hu ⟨V.bl (HT.lexLt ns ms), H, I, rfl, q⟩
theorem room65 {k : Nat} {A : Around} (h : Room k A) : A.units + 65 < cLine := by
  have := h.un
  omega
theorem eqv_pair (f : Fr) : PyData.eqv (.tuple [.int f.1, .int f.2]) (.tuple [.int f.1, .int f.2]) = true := by simp [PyData.eqv, PyData.eqvAll]
theorem shaped_pair (f : Fr) : SeqAt.shaped (.tuple [.int f.1, .int f.2]) = true := by simp [SeqAt.shaped, PyData.canLay0, PyData.canLayAll0, PyData.depth, PyData.depthAll]
theorem dp_pair {K : PySem.W.Frag} {H : Hp} {p : Addr} {f : Fr} (h : SqT K H p (frV f)) : Dp K H (.ref p) (.tuple [.int f.1, .int f.2]) := .tup h (.cons (.int _) (.cons (.int _) .nil))
end KT

/-! All rows, in order: the mathematics of `_law_every` (k06, k10). -/
namespace KT
open PySem PySem.Spec PyProof.Rows L2
/-- all readings of n times from a numbered one on -/
def rowsOf (first : Int) : Nat → List (List Int)
  | 0 => [[]]
  | n + 1 => (rowsOf first n).flatMap fun row => (kinds (first + (n : Int))).map fun k => row ++ [k]
theorem Rdg.init {o : Int} {ks : List Int} {k : Int} (h : Rdg o (ks ++ [k])) : Rdg o ks ∧ k ∈ kinds (o + (ks.length : Int)) := by
  refine ⟨fun i z e => h i z ?_, h ks.length k ?_⟩
  · have c := (List.getElem?_eq_some_iff.mp e).1
    rw [List.getElem?_append_left c]
    exact e
  · rw [List.getElem?_append_right (Nat.le_refl _), Nat.sub_self]
    rfl
theorem Rdg.add {o : Int} {ks : List Int} {k : Int} (h : Rdg o ks) (hk : k ∈ kinds (o + (ks.length : Int))) : Rdg o (ks ++ [k]) := fun i z e => by
  by_cases c : i < ks.length
  · rw [List.getElem?_append_left c] at e
    exact h i z e
  · have e5 : i = ks.length := by
      have := (List.getElem?_eq_some_iff.mp e).1
      rw [List.length_append] at this
      simp at this
      omega
    subst e5
    rw [List.getElem?_append_right (Nat.le_refl _), Nat.sub_self] at e
    cases e
    exact hk
theorem mem_rowsOf {first : Int} : ∀ {n : Nat} {ks : List Int}, ks ∈ rowsOf first n ↔ ks.length = n ∧ Rdg first ks
  | 0, ks => by
    constructor
    · intro h
      rw [List.mem_singleton.mp h]
      exact ⟨rfl, fun i z e => by simp at e⟩
    · rintro ⟨h, _⟩
      rw [List.length_eq_zero_iff.mp h]
      exact List.mem_singleton.mpr rfl
  | n + 1, ks => by
    unfold rowsOf
    rw [List.mem_flatMap]
    constructor
    · rintro ⟨row, hr, hk⟩
      rw [List.mem_map] at hk
      obtain ⟨k, hk, rfl⟩ := hk
      obtain ⟨h1, h2⟩ := mem_rowsOf.mp hr
      exact ⟨by rw [List.length_append, h1]; rfl, h2.add (by rw [h1]; exact hk)⟩
    · rintro ⟨h1, h2⟩
      have ne : ks ≠ [] := fun z => by
        rw [z] at h1
        cases h1
      have e := List.dropLast_concat_getLast ne
      rw [← e] at h1 h2
      rw [List.length_append] at h1
      have l1 : ks.dropLast.length = n := by
        simp at h1
        rw [List.length_dropLast]
        omega
      obtain ⟨r1, r2⟩ := h2.init
      rw [l1] at r2
      exact ⟨ks.dropLast, mem_rowsOf.mpr ⟨l1, r1⟩, List.mem_map.mpr ⟨_, r2, e⟩⟩
theorem kinds_nodup (n : Int) : (kinds n).Nodup := by
  rcases par n with e | e
  · rw [kinds_even e]
    decide
  · rw [kinds_odd e]
    decide
theorem rowsOf_nodup (first : Int) : ∀ n, (rowsOf first n).Nodup
  | 0 => by simp [rowsOf]
  | n + 1 => by
    unfold rowsOf
    rw [List.Nodup, List.pairwise_flatMap]
    refine ⟨fun row _ => ?_, ?_⟩
    · rw [List.pairwise_map]
      exact (kinds_nodup _).imp fun h z => h (by simpa using z)
    · refine (rowsOf_nodup first n).imp fun h x hx y hy => ?_
      rw [List.mem_map] at hx hy
      obtain ⟨a, _, rfl⟩ := hx
      obtain ⟨b, _, rfl⟩ := hy
      exact fun z => h (List.append_inj_left' z rfl)
theorem rowsOf_len (first : Int) : ∀ n, (rowsOf first n).length ≤ 3 ^ n
  | 0 => Nat.le_refl _
  | n + 1 => by
    unfold rowsOf
    rw [List.length_flatMap]
    have : ∀ l : List (List Int), (l.map fun row => ((kinds (first + (n : Int))).map fun k => row ++ [k]).length).sum ≤ 3 * l.length := fun l => by
      induction l with
      | nil => simp
      | cons a l ih =>
        rw [List.map_cons, List.sum_cons, List.length_map, List.length_cons]
        have k3 : (kinds (first + (n : Int))).length ≤ 3 := by
          rcases par (first + (n : Int)) with e | e
          · rw [kinds_even e]; decide
          · rw [kinds_odd e]; decide
        omega
    have h := this (rowsOf first n)
    have h2 := rowsOf_len first n
    rw [Nat.pow_succ]
    omega
/-! ### the order -/
abbrev El := Fr × List Int
def ltE (a b : El) : Prop := ltF a.1 b.1 ∨ (a.1 = b.1 ∧ HT.lexLt a.2 b.2 = true)
/-- a width as the fractions here are: bottom above 0, lowest terms -/
structure LowE (a : El) : Prop where
  pos : 0 < a.1.2
  low : lowF a.1.1 a.1.2 = a.1
theorem lex_irr : ∀ ns : List Int, HT.lexLt ns ns = false
  | [] => HT.lexLt_nil_nil
  | n :: ns => by rw [HT.lexLt_cons, if_pos rfl, lex_irr ns]
theorem lex_trans : ∀ {a b c : List Int}, HT.lexLt a b = true → HT.lexLt b c = true → HT.lexLt a c = true
  | [], [], c, h, _ => by rw [HT.lexLt_nil_nil] at h; cases h
  | [], _ :: _, [], _, h => by rw [HT.lexLt_cons_nil] at h; cases h
  | [], _ :: _, _ :: _, _, _ => HT.lexLt_nil_cons ..
  | _ :: _, [], _, h, _ => by rw [HT.lexLt_cons_nil] at h; cases h
  | _ :: _, _ :: _, [], _, h => by rw [HT.lexLt_cons_nil] at h; cases h
  | x :: a, y :: b, z :: c, h1, h2 => by
    rw [HT.lexLt_cons] at h1 h2 ⊢
    by_cases e1 : x = y
    · rw [if_pos e1] at h1
      by_cases e2 : y = z
      · rw [if_pos e2] at h2
        rw [if_pos (e1.trans e2)]
        exact lex_trans h1 h2
      · rw [if_neg e2] at h2
        rw [if_neg (by rw [e1]; exact e2), e1]
        exact h2
    · rw [if_neg e1] at h1
      by_cases e2 : y = z
      · rw [if_neg (by rw [← e2]; exact e1), ← e2]
        exact h1
      · rw [if_neg e2] at h2
        have a1 := of_decide_eq_true h1
        have a2 := of_decide_eq_true h2
        rw [if_neg (by omega)]
        exact decide_eq_true (by omega)
theorem lex_tri : ∀ {a b : List Int}, a.length = b.length → HT.lexLt a b = false → HT.lexLt b a = false → a = b
  | [], [], _, _, _ => rfl
  | [], _ :: _, h, _, _ => by cases h
  | _ :: _, [], h, _, _ => by cases h
  | x :: a, y :: b, h, h1, h2 => by
    rw [HT.lexLt_cons] at h1 h2
    by_cases e : x = y
    · rw [if_pos e] at h1
      rw [if_pos e.symm] at h2
      rw [e, lex_tri (Nat.succ.inj h) h1 h2]
    · rw [if_neg e] at h1
      rw [if_neg (fun z => e z.symm)] at h2
      have a1 := of_decide_eq_false h1
      have a2 := of_decide_eq_false h2
      omega
theorem ltF.trans {f g h : Fr} (hf : 0 < f.2) (hg : 0 < g.2) (hh : 0 < h.2) (a : ltF f g) (b : leF g h) : ltF f h :=
  Int.not_le.mp fun z => Int.not_lt.mpr (leF.trans hg hh hf b z) a
theorem ltF.trans' {f g h : Fr} (hf : 0 < f.2) (hg : 0 < g.2) (hh : 0 < h.2) (a : leF f g) (b : ltF g h) : ltF f h :=
  Int.not_le.mp fun z => Int.not_lt.mpr (leF.trans hh hf hg z a) b
theorem ltE_irr (a : El) : ¬ ltE a a := by
  rintro (h | ⟨_, h⟩)
  · exact Int.lt_irrefl _ h
  · rw [lex_irr] at h
    cases h
theorem ltE_trans {a b c : El} (ha : LowE a) (hb : LowE b) (hc : LowE c) (h1 : ltE a b) (h2 : ltE b c) : ltE a c := by
  rcases h1 with h1 | ⟨e1, h1⟩
  · rcases h2 with h2 | ⟨e2, h2⟩
    · exact .inl (ltF.trans ha.pos hb.pos hc.pos h1 h2.le)
    · exact .inl (e2 ▸ h1)
  · rcases h2 with h2 | ⟨e2, h2⟩
    · exact .inl (e1 ▸ h2)
    · exact .inr ⟨e1.trans e2, lex_trans h1 h2⟩
theorem ltE_tri {a b : El} (ha : LowE a) (hb : LowE b) (l : a.2.length = b.2.length) (h1 : ¬ ltE a b) (h2 : ¬ ltE b a) : a = b := by
  have e : a.1 = b.1 := by
    rw [← ha.low, ← hb.low]
    exact low_eq ha.pos hb.pos (ltF.not fun z => h2 (.inl z)) (ltF.not fun z => h1 (.inl z))
  refine Prod.ext e (lex_tri l ?_ ?_)
  · cases h : HT.lexLt a.2 b.2 with
    | false => rfl
    | true => exact absurd (.inr ⟨e, h⟩) h1
  · cases h : HT.lexLt b.2 a.2 with
    | false => rfl
    | true => exact absurd (.inr ⟨e.symm, h⟩) h2
end KT

/-! Own rules: math.lcm; sorted of tuples (whole number, list of whole numbers, ..); in, of lists. -/
namespace KT
open PySem PySem.Spec PyProof.Rows L2
/-! ### lcm -/
def rLcm : List V → Hp → VK → Prop := fun vs H Q => ∃ a b : Int, vs = [.int a, .int b] ∧ a.natAbs < 2 ^ 2000 ∧ b.natAbs < 2 ^ 64 ∧ Q (.int ((Nat.lcm a.natAbs b.natAbs : Nat) : Int)) H
theorem cr_lcm {X : Cx} : CallR X (.builtin "math.lcm") rLcm := by
  intro pins s σ H vs us Q I r h
  obtain ⟨a, b, rfl, ha, hb, q⟩ := h
  obtain ⟨t, u, rfl⟩ := Vals.int2 r
  have g1 : (1 : Nat) < 2 ^ 2000 := Nat.one_lt_two_pow (by decide)
  have g2 : (2 : Nat) ^ 64 ≤ 2 ^ 2000 := Nat.pow_le_pow_right (by decide) (by decide)
  have h1 : (max 1 a.natAbs).log2 ≤ 1999 := PySem.W.mg_log (Nat.max_lt.mpr ⟨g1, ha⟩)
  have h2 : (max a.natAbs b.natAbs).log2 ≤ 1999 := PySem.W.mg_log (Nat.max_lt.mpr ⟨ha, Nat.lt_of_lt_of_le hb g2⟩)
  have e1 : Nat.lcm 1 a.natAbs = a.natAbs := PySem.W.mc_lcm_one _
  have hsz : ((((Nat.lcm 1 a.natAbs).lcm b.natAbs : Nat) : Int)).natAbs.log2 < bitsLine := by
    rw [e1]
    refine PySem.W.mc_size (k := 34) ?_ (by decide)
    refine Nat.le_trans (PySem.W.mc_lcm_le _ _) (Nat.le_trans (Nat.mul_le_mul (Nat.le_of_lt ha) (Nat.le_of_lt hb)) ?_)
    rw [← Nat.pow_add]
    exact Nat.pow_le_pow_right (by decide) (by decide)
  refine PySem.call_function_meets PySem.W.MGF.kind_lcm PySem.W.MGF.plain_lcm PySem.W.MGF.entry_lcm (PySem.W.MGF.args_lcm _ _) (PySem.W.mg_run_lcm a t b u (by omega) (by omega) hsz).meets ?_
  rw [e1]
  exact ⟨.int _, H, I.tok _, ⟨_, rfl⟩, q⟩
/-! ### in, of nested data -/
theorem op_inDK {X : Cx} {K : PySem.W.Frag} (hu : X.A.units + 65 < cLine) (h : X.K = K) : OpR X (compareOp .In) (rInD K) := by subst h; exact op_inD hu
theorem op_notInDK {X : Cx} {K : PySem.W.Frag} (hu : X.A.units + 65 < cLine) (h : X.K = K) : OpR X (compareOp .NotIn) (rNotInD K) := by subst h; exact op_notInD hu
/-! ### sorted of entries -/
theorem lex_asym : ∀ {a b : List Int}, HT.lexLt a b = true → HT.lexLt b a = false
  | [], [], h => by rw [HT.lexLt_nil_nil] at h; cases h
  | [], _ :: _, _ => HT.lexLt_cons_nil ..
  | _ :: _, [], h => by rw [HT.lexLt_cons_nil] at h; cases h
  | x :: a, y :: b, h => by
    rw [HT.lexLt_cons] at h ⊢
    by_cases e : x = y
    · rw [if_pos e] at h
      rw [if_pos e.symm]
      exact lex_asym h
    · rw [if_neg e] at h
      rw [if_neg (fun z => e z.symm)]
      have := of_decide_eq_true h
      exact decide_eq_false (by omega)
theorem lex_ntr : ∀ {a b c : List Int}, HT.lexLt b a = false → HT.lexLt c b = false → HT.lexLt c a = false
  | [], _, [], _, _ => HT.lexLt_nil_nil
  | [], _, _ :: _, _, _ => HT.lexLt_cons_nil ..
  | _ :: _, [], _, h, _ => by rw [HT.lexLt_nil_cons] at h; cases h
  | _ :: _, _ :: _, [], _, h => by rw [HT.lexLt_nil_cons] at h; cases h
  | x :: a, y :: b, z :: c, h1, h2 => by
    rw [HT.lexLt_cons] at h1 h2 ⊢
    by_cases e1 : y = x
    · rw [if_pos e1] at h1
      by_cases e2 : z = y
      · rw [if_pos e2] at h2
        rw [if_pos (e2.trans e1)]
        exact lex_ntr h1 h2
      · rw [if_neg e2] at h2
        have := of_decide_eq_false h2
        rw [if_neg (by omega)]
        exact decide_eq_false (by omega)
    · rw [if_neg e1] at h1
      have a1 := of_decide_eq_false h1
      by_cases e2 : z = y
      · rw [if_neg (by omega)]
        exact decide_eq_false (by omega)
      · rw [if_neg e2] at h2
        have a2 := of_decide_eq_false h2
        rw [if_neg (by omega)]
        exact decide_eq_false (by omega)
def lexE (p q : Int × List Int) : Bool := if p.1 = q.1 then HT.lexLt p.2 q.2 else decide (p.1 < q.1)
theorem swo_lexE {α : Type} (k : α → Int × List Int) : SrtO.Swo fun v u => lexE (k v) (k u) := by
  refine ⟨fun x y h => ?_, fun x y z h1 h2 => ?_⟩
  · unfold lexE at h ⊢
    by_cases e : (k x).1 = (k y).1
    · rw [if_pos e] at h
      rw [if_pos e.symm]
      exact lex_asym h
    · rw [if_neg e] at h
      rw [if_neg (fun z => e z.symm)]
      have := of_decide_eq_true h
      exact decide_eq_false (by omega)
  · unfold lexE at h1 h2 ⊢
    by_cases e1 : (k y).1 = (k x).1
    · rw [if_pos e1] at h1
      by_cases e2 : (k z).1 = (k y).1
      · rw [if_pos e2] at h2
        rw [if_pos (e2.trans e1)]
        exact lex_ntr h1 h2
      · rw [if_neg e2] at h2
        have := of_decide_eq_false h2
        rw [if_neg (by omega)]
        exact decide_eq_false (by omega)
    · rw [if_neg e1] at h1
      have a1 := of_decide_eq_false h1
      by_cases e2 : (k z).1 = (k y).1
      · rw [if_neg (by omega)]
        exact decide_eq_false (by omega)
      · rw [if_neg e2] at h2
        have a2 := of_decide_eq_false h2
        rw [if_neg (by omega)]
        exact decide_eq_false (by omega)
/-- a tuple (whole number, list of whole numbers, something) -/
structure EntAt (h : Heap) (v : Value) (p : Int × List Int) : Prop where
  ex : ∃ (T r q : Addr) (t : Tok) (its : Array Value) (as : List Addr), v = .ref T ∧ (∃ o n, h.get? T = some o ∧ o.cls = .type "tuple" ∧ o.data = .seq #[.int p.1 t, .ref r, .ref q] n) ∧ PlainL h r its ∧ IntsAre its.toList p.2 ∧ Reads h (.ref r) (.list (p.2.map PyData.int)) as
theorem EntAt.keeps {h h' : Heap} {v : Value} {p : Int × List Int} (e : EntAt h v p) (k : ∀ b o, h.get? b = some o → h'.get? b = some o) : EntAt h' v p := by
  obtain ⟨T, r, q, t, its, as, e1, ⟨o, n, e2, e3, e4⟩, e5, e6, e7⟩ := e.ex
  exact ⟨T, r, q, t, its, as, e1, ⟨o, n, k _ _ e2, e3, e4⟩, e5.keeps k, e6, Reads.keeps k e7⟩
theorem canLay_intsL (ns : List Int) : (PyData.list (ns.map PyData.int)).canLay0 = true := by
  simp only [PyData.canLay0]
  induction ns with
  | nil => simp [PyData.canLayAll0]
  | cons n ns ih => simp [PyData.canLayAll0, PyData.canLay0, ih]
theorem depth_intsL (ns : List Int) : (PyData.list (ns.map PyData.int)).depth ≤ 3 := by
  have : PyData.depthAll (ns.map PyData.int) ≤ 1 := by
    induction ns with
    | nil => simp [PyData.depthAll]
    | cons n ns ih =>
      simp [PyData.depthAll, PyData.depth]
      omega
  simp only [PyData.depth]
  omega
theorem eqvAll_intsL : ∀ a b : List Int, PyData.eqvAll (a.map PyData.int) (b.map PyData.int) = decide (a = b)
  | [], [] => by simp [PyData.eqvAll]
  | [], _ :: _ => by simp [PyData.eqvAll]
  | _ :: _, [] => by simp [PyData.eqvAll]
  | x :: a, y :: b => by
    have ih := eqvAll_intsL a b
    simp only [List.map_cons, PyData.eqvAll, PyData.eqv, ih]
    by_cases e : x = y
    · subst e
      simp
    · have : (x == y) = false := by simpa using e
      rw [this, Bool.false_and]
      exact (decide_eq_false (fun z => e (List.cons.inj z).1)).symm
theorem eqv_intsL (a b : List Int) : PyData.eqv (.list (a.map PyData.int)) (.list (b.map PyData.int)) = decide (a = b) := by
  simp only [PyData.eqv]
  exact eqvAll_intsL a b
theorem ent_cmp {prog : Program} {w : World} {A : Around} {s : Shared} {vs : List Value} {k : Value → Int × List Int} (hp : ∀ v ∈ vs, EntAt s.heap v (k v)) (inj : ∀ v ∈ vs, ∀ u ∈ vs, k v = k u → v = u) (hu : A.units + 10 < cLine) :
    SrtO.Cmp prog w A s (tuples' true) (fun p => p.1 ∈ vs) (SrtO.lt2 fun v u => lexE (k v) (k u)) := by
  rintro ⟨p, p2⟩ ⟨q, q2⟩ hm hm'
  obtain ⟨T, r, z, t, its, as, e1, ⟨o, n, e2, e3, e4⟩, e5, e6, e7⟩ := (hp _ hm).ex
  obtain ⟨T', r', z', t', its', as', e1', ⟨o', n', e2', e3', e4'⟩, e5', e6', e7'⟩ := (hp _ hm').ex
  have inj' : k p = k q → p = q := inj _ hm _ hm'
  simp only at e1 e1' e4 e4' e6 e6' e7 e7'
  subst e1
  subst e1'
  show wpAny (model prog w) A (keyLt' (tuples' true) (.ref T) (.ref T')) (fun r s' => s' = s ∧ r = lexE (k (.ref T)) (k (.ref T'))) (fun _ _ => False) s
  refine PySem.W.kat_lt e2 e4 e2' e4' ?_
  show PySem.W.KatLex prog w A true (decide (3 < 3)) _ [(.int (k (.ref T)).1 t, .int (k (.ref T')).1 t'), (.ref r, .ref r'), (.ref z, .ref z')] 0 s
  generalize hkx : k (.ref T) = x at *
  generalize hky : k (.ref T') = y at *
  refine PySem.W.kat_cons (SeqAt.EqAt.int_int x.1 t y.1 t' prog w _ _ ?_)
  refine PySem.W.kat_go (fun f1 => ?_) (fun f1 => ?_)
  · have ex : x.1 = y.1 := by simpa using f1
    have le : lexE x y = HT.lexLt x.2 y.2 := if_pos ex
    refine PySem.W.kat_yes (PySem.W.kat_cons (SeqAt.eqAt_reads _ _ A s _ _ _ _ e7 e7' (canLay_intsL _) (canLay_intsL _) (by have := depth_intsL x.2; omega) prog w _ _ ?_))
    rw [eqv_intsL]
    refine PySem.W.kat_go (fun f2 => ?_) (fun f2 => ?_)
    · have ey : x.2 = y.2 := of_decide_eq_true f2
      have tt : T = T' := by
        have := inj' (Prod.ext ex ey)
        injection this
      subst tt
      have eo : o = o' := Option.some.inj (e2.symm.trans e2')
      subst eo
      have ez : z = z' := by
        have := e4.symm.trans e4'
        injection this with h1 h2
        have h3 := congrArg (fun a : Array Value => a.toList) h1
        injection h3 with _ h4
        injection h4 with _ h5
        injection h5 with h6 _
        injection h6
      subst ez
      refine PySem.W.kat_yes (PySem.W.kat_cons (SeqAt.EqAt.same _ prog w _ _ (PySem.W.kat_yes (PySem.W.kat_nil ⟨rfl, ?_⟩))))
      rw [le, ey, lex_irr]
      rfl
    · refine PySem.W.kat_no (PySem.W.kat_one _ _ (ltLst e5 e5' e6 e6' (by omega) ?_))
      exact (show s = s ∧ HT.lexLt x.2 y.2 = lexE x y from ⟨rfl, le.symm⟩)
  · have ex : ¬ x.1 = y.1 := by simpa using f1
    have le : lexE x y = decide (x.1 < y.1) := if_neg ex
    exact PySem.W.kat_no (oneLt_int ⟨rfl, le.symm⟩)
theorem ents_first {h : Heap} {k : Value → Int × List Int} : ∀ {vs : List Value}, (∀ v ∈ vs, EntAt h v (k v)) → ∃ fs : List Value, PySem.W.KatTups h vs fs ∧ fs.length = vs.length ∧ ∀ f ∈ fs, ∃ x t, f = Value.int x t
  | [], _ => ⟨[], PySem.W.KatTups.nil, rfl, fun _ hm => by simp at hm⟩
  | v :: vs, hp => by
    obtain ⟨fs, h1, h2, h3⟩ := ents_first (vs := vs) fun v' hm => hp v' (List.mem_cons_of_mem _ hm)
    obtain ⟨T, r, z, t, its, as, e1, ⟨o, n, e2, e3, e4⟩, _⟩ := (hp v List.mem_cons_self).ex
    rw [e1] at e4 ⊢
    refine ⟨.int (k (.ref T)).1 t :: fs, PySem.W.KatTups.cons e2 e3 e4 rfl h1, by rw [List.length_cons, List.length_cons, h2], fun f hm => ?_⟩
    rcases List.mem_cons.mp hm with rfl | hm
    · exact ⟨_, t, rfl⟩
    · exact h3 f hm
theorem ents_sortable {prog : Program} {w : World} {A : Around} {s : Shared} {a : Addr} {vs : List Value} {k : Value → Int × List Int} (h0 : 0 < vs.length) (hp : ∀ h' : Heap, (∀ b o, b ≠ a → s.heap.get? b = some o → h'.get? b = some o) → ∀ v ∈ vs, EntAt h' v (k v)) (inj : ∀ v ∈ vs, ∀ u ∈ vs, k v = k u → v = u) (hu : A.units + 10 < cLine) :
    SrtO.SortableO prog w A s a vs fun v u => lexE (k v) (k u) := by
  intro h' keep
  have hp' := hp h' keep
  obtain ⟨fs, h1, h2, h3⟩ := ents_first hp'
  refine ⟨tuples' true, fun Q E hq => ?_, ent_cmp (s := { s with heap := h' }) hp' inj hu⟩
  refine PySem.W.kat_kind (T := .type "int") h1 (by omega) (fun f hm => ?_) (by rfl) ?_
  · obtain ⟨x, t, rfl⟩ := h3 f hm
    exact PySem.W.Looks.now
  · have e : (Value.type "int" != Value.type "tuple") = true := by first | decide +kernel | rfl | decide
    rw [e]
    exact hq
/-- sorted(xs), xs a list of tuples (whole number, list of whole numbers, something), no two alike in the first two -/
def rSortedE (K : PySem.W.Frag) : List V → Hp → VK → Prop := fun vs H Q => ∃ (a : Addr) (xs : List V) (k : V → Int × List Int), vs = [V.ref a] ∧ SqL K H a xs ∧ (∀ x ∈ xs, ∃ T r q, x = V.ref T ∧ SqT K H T [.int (k x).1, .ref r, .ref q] ∧ SqL K H r ((k x).2.map V.int)) ∧ (∀ x ∈ xs, ∀ y ∈ xs, k x = k y → x = y) ∧
  ∀ ys p, ys.Pairwise (fun x y => lexE (k y) (k x) = false) → ys.Perm xs → H p = none → Q (.ref p) (upd H p (.lst ys))
theorem cr_sortedE {X : Cx} {K : PySem.W.Frag} (hu : X.A.units + 20 < cLine) (hK : X.K = K) : CallR X (.builtin "sorted") (rSortedE K) := by
  subst hK
  intro pins s σ H vs us Q I r h
  obtain ⟨a, xs, k, rfl, hs, hx, inj, q⟩ := h
  obtain ⟨its, rv, hl, hz⟩ := I.list hs
  obtain rfl := Vals.ref1 r
  obtain ⟨e1, e2⟩ := refs_back rv fun x m => by
    obtain ⟨t, _, _, e, _⟩ := hx x m
    exact ⟨t, e⟩
  have back : ∀ v ∈ its, backV v ∈ xs ∧ RelV (backV v) v := fun v hv => by
    obtain ⟨t, rfl⟩ := e2 v hv
    exact ⟨by rw [e1]; exact List.mem_map.mpr ⟨_, hv, rfl⟩, rfl⟩
  have ents : ∀ v ∈ its, EntAt s.heap v (k (backV v)) := fun v hv => by
    obtain ⟨t, rfl⟩ := e2 v hv
    have hm := (back _ hv).1
    obtain ⟨T, ra, qa, e, hT, hr⟩ := hx _ hm
    cases e
    obtain ⟨its2, rv2, pt, _⟩ := I.tuple hT
    obtain ⟨its3, rv3, p3, _⟩ := I.list hr
    obtain ⟨as, rd⟩ := Dp.reads I _ _ (.ref ra) (dp_ints hr) rfl
    obtain ⟨t1, its4, rfl⟩ : ∃ t1, ∃ _ : Unit, its2 = [Value.int (k (backV (.ref t))).1 t1, .ref ra, .ref qa] := by
      cases rv2 with
      | cons a1 b1 =>
        cases b1 with
        | cons a2 b2 =>
          cases b2 with
          | cons a3 b3 =>
            cases b3
            obtain ⟨t1, rfl⟩ := a1
            cases a2
            cases a3
            exact ⟨t1, (), rfl⟩
    obtain ⟨o, ho, hc, n, hd⟩ := pt
    exact ⟨t, ra, qa, t1, _, as, rfl, ⟨o, n, ho, hc, hd⟩, p3, L2.intsAre_of rv3, rd⟩
  have inj' : ∀ v ∈ its, ∀ u ∈ its, k (backV v) = k (backV u) → v = u := fun v hv u hu' e => by
    have z := inj _ (back v hv).1 _ (back u hu').1 e
    obtain ⟨t, rfl⟩ := e2 v hv
    obtain ⟨t', rfl⟩ := e2 u hu'
    cases z
    rfl
  refine SrtO.sorted_ord (swo_lexE fun v => k (backV v)) hl.isList (by rw [← rv.length]; exact hz) (fun h2 h₁ b hb kk => ?_) fun out hs hb => ?_
  · exact ents_sortable (s := { s with heap := h₁ }) (by omega) (fun h' keep v hv => (ents v hv).keeps fun c o e => keep c o (kk c o e).1 (kk c o e).2) inj' (by show X.A.units + 1 + 1 + 10 < _; omega)
  · have h3 : ∀ u ∈ out, ∃ a, u = Value.ref a := fun u hu => e2 u (hb.perm.mem_iff.mp hu)
    obtain ⟨n, hn⟩ := PyProof.Rows.sortedAll_at s.heap its out.toArray
    have pm : (out.map backV).Perm xs := by
      rw [e1]
      exact hb.perm.map backV
    refine ⟨.ref _, upd H (s.heap.objs.size + 1) (.lst (out.map backV)), I.laid (t' := s.toks) (fun _ _ e => PyProof.Rows.sortedAll_old e) (Nat.le_succ _) ⟨by rw [pm.length_eq]; exact hz, out, n, vals_back h3, ?_⟩, rfl, q _ _ (List.pairwise_map.mpr hs) pm (I.hok.fresh (Nat.le_succ _))⟩
    exact hn
end KT

/-! All readings that a width allows: the mathematics of the package's readings. -/
namespace KT
open PySem PySem.Spec PyProof.Rows L2
/-! ### one number by a unit -/
/-- by the unit u the width w lets the time t be the number k -/
def fitsU (t k : Int) (u w : Fr) : Prop := (k * w.2 - w.1) * u.1 ≤ t * w.2 * u.2 ∧ t * w.2 * u.2 ≤ (k * w.2 + w.1) * u.1
theorem kind_far {n k l : Int} (hk : k ∈ kinds n) (hl : l ∈ kinds n) (h : k < l) : k + 2 ≤ l := by
  rcases kinds_le hk with e | e | e <;> rcases kinds_le hl with f | f | f <;> omega
theorem fits_lt {t k l : Int} {u w : Fr} (W : Wid w) (hu : 0 < u.1) (hkl : k + 2 ≤ l) (a : fitsU t k u w) (b : fitsU t l u w) : False := by
  have h : (l * w.2 - w.1) * u.1 ≤ (k * w.2 + w.1) * u.1 := Int.le_trans b.1 a.2
  have h2 := Int.le_of_mul_le_mul_right h hu
  have p := W.pos
  have h3 : (k + 2) * w.2 ≤ l * w.2 := Int.mul_le_mul_of_nonneg_right hkl (Int.le_of_lt p)
  rw [Int.add_mul] at h3
  have := W.lt
  omega
theorem fits_one {n t k l : Int} {u w : Fr} (W : Wid w) (hu : 0 < u.1) (hk : k ∈ kinds n) (hl : l ∈ kinds n) (a : fitsU t k u w) (b : fitsU t l u w) : k = l := by
  rcases Int.lt_trichotomy k l with h | h | h
  · exact absurd (fits_lt W hu (kind_far hk hl h) a b) id
  · exact h
  · exact absurd (fits_lt W hu (kind_far hl hk h) b a) id
theorem fits_iff {ts ks : List Int} {w u : Fr} {i : Nat} : fitsU (at_ ts i) (at_ ks i) u w ↔ leF (lowU ts ks w i) u ∧ leF u (highU ts ks w i) := by
  unfold fitsU leF lowU highU
  simp only
  rw [Int.mul_comm u.1 (at_ ks i * w.2 + w.1), Int.mul_comm u.1 (at_ ks i * w.2 - w.1)]
  exact And.comm
/-! ### all readings of some times -/
/-- the times are good, the first one's number is b -/
structure Tms (ts : List Int) : Prop where
  le : ts.length ≤ 25
  all : ∀ (i : Nat) (t : Int), ts[i]? = some t → 1 ≤ t ∧ t ≤ 9999
theorem Tps.tms {ts : List Int} (h : Tps ts) : Tms ts := ⟨h.le, h.all⟩
theorem Tms.tr {ts ks : List Int} {b : Int} (h : Tms ts) (r : Rdg b ks) (l : ks.length = ts.length) : TR ts ks := ⟨h.all, fun i z e => kinds_le (r i z e), l, h.le⟩
structure Allowed (b : Int) (ts : List Int) (w : Fr) (ks : List Int) : Prop where
  rd : Rdg b ks
  len : ks.length = ts.length
  no : ∀ i j, i < ts.length → j < ts.length → leF (askF ts ks i j) w
structure FitsAll (b : Int) (ts : List Int) (u w : Fr) (ks : List Int) : Prop where
  rd : Rdg b ks
  len : ks.length = ts.length
  fit : ∀ i, i < ts.length → fitsU (at_ ts i) (at_ ks i) u w
theorem Rdg.at {b : Int} {ks : List Int} (h : Rdg b ks) {i : Nat} (hi : i < ks.length) : at_ ks i ∈ kinds (b + i) := h i _ (get_at hi)
theorem list_ext_at {a b : List Int} (l : a.length = b.length) (h : ∀ i, i < a.length → at_ a i = at_ b i) : a = b := by
  apply List.ext_getElem? 
  intro i
  by_cases c : i < a.length
  · rw [get_at c, get_at (by omega), h i c]
  · rw [List.getElem?_eq_none (by omega), List.getElem?_eq_none (by omega)]
theorem FitsAll.one {b : Int} {ts ks ls : List Int} {u w : Fr} (W : Wid w) (hu : 0 < u.1) (a : FitsAll b ts u w ks) (c : FitsAll b ts u w ls) : ks = ls :=
  list_ext_at (a.len.trans c.len.symm) fun i hi => fits_one W hu (a.rd.at hi) (c.rd.at (by rw [c.len, ← a.len]; exact hi)) (a.fit i (by rw [← a.len]; exact hi)) (c.fit i (by rw [← a.len]; exact hi))
theorem FitsAll.allowed {b : Int} {ts ks : List Int} {u w : Fr} (T : Tms ts) (W : Wid w) (hu : 0 < u.2) (a : FitsAll b ts u w ks) : Allowed b ts w ks := by
  refine ⟨a.rd, a.len, fun i j hi hj => ?_⟩
  have tr := T.tr a.rd a.len
  have h1 := (fits_iff.mp (a.fit i hi)).1
  have h2 := (fits_iff.mp (a.fit j hj)).2
  exact (unit_ask W).mp (leF.trans (tr.lowB W hi).1 hu (tr.highB W hj).1 h1 h2)
/-- the greatest of some -/
theorem max_at {f : Nat → Fr} : ∀ n, 0 < n → (∀ i, i < n → 0 < (f i).2) → ∃ i, i < n ∧ ∀ j, j < n → leF (f j) (f i)
  | 0, h, _ => absurd h (Nat.lt_irrefl 0)
  | 1, _, _ => ⟨0, Nat.zero_lt_one, fun j hj => by rw [Nat.lt_one_iff.mp hj]; exact leF.refl _⟩
  | n + 2, _, p => by
    obtain ⟨i, hi, m⟩ := max_at (n + 1) (Nat.succ_pos n) fun i hi => p i (Nat.lt_succ_of_lt hi)
    by_cases c : ltF (f i) (f (n + 1))
    · refine ⟨n + 1, Nat.lt_succ_self _, fun j hj => ?_⟩
      rcases Nat.lt_succ_iff_lt_or_eq.mp hj with h | rfl
      · exact leF.trans (p j (by omega)) (p i (by omega)) (p (n + 1) (by omega)) (m j h) c.le
      · exact leF.refl _
    · refine ⟨i, Nat.lt_succ_of_lt hi, fun j hj => ?_⟩
      rcases Nat.lt_succ_iff_lt_or_eq.mp hj with h | rfl
      · exact m j h
      · exact ltF.not c
theorem Allowed.unit {b : Int} {ts ks : List Int} {w : Fr} (T : Tms ts) (pos : 0 < ts.length) (W : Wid w) (a : Allowed b ts w ks) : ∃ i, i < ts.length ∧ FitsAll b ts (lowU ts ks w i) w ks := by
  have tr := T.tr a.rd a.len
  obtain ⟨i, hi, m⟩ := max_at (f := lowU ts ks w) ts.length pos fun i hi => (tr.lowB W hi).1
  exact ⟨i, hi, a.rd, a.len, fun j hj => fits_iff.mpr ⟨m j hj, (unit_ask W).mpr (a.no i j hi hj)⟩⟩
/-- the units that are tried -/
def unitsOf (b : Int) (ts : List Int) (w : Fr) : List Fr := (List.range ts.length).flatMap fun (i : Nat) => (kinds (b + (i : Int))).map fun k => (at_ ts i * w.2, k * w.2 + w.1)
theorem mem_units {b : Int} {ts : List Int} {w u : Fr} : u ∈ unitsOf b ts w ↔ ∃ (i : Nat) (k : Int), i < ts.length ∧ k ∈ kinds (b + (i : Int)) ∧ u = (at_ ts i * w.2, k * w.2 + w.1) := by
  unfold unitsOf
  rw [List.mem_flatMap]
  constructor
  · rintro ⟨i, hi, h⟩
    obtain ⟨k, hk, rfl⟩ := List.mem_map.mp h
    exact ⟨i, k, List.mem_range.mp hi, hk, rfl⟩
  · rintro ⟨i, k, hi, hk, rfl⟩
    exact ⟨i, List.mem_range.mpr hi, List.mem_map.mpr ⟨k, hk, rfl⟩⟩
theorem kinds_len3 (n : Int) : (kinds n).length ≤ 3 := by
  rcases par n with e | e
  · rw [kinds_even e]; decide
  · rw [kinds_odd e]; decide
theorem flat_le {α : Type} (f : Nat → List α) (c : Nat) (h : ∀ i, (f i).length ≤ c) : ∀ l : List Nat, (l.flatMap f).length ≤ c * l.length
  | [] => by simp
  | a :: l => by
    rw [List.flatMap_cons, List.length_append, List.length_cons, Nat.mul_succ]
    have := h a
    have := flat_le f c h l
    omega
theorem units_len (b : Int) (ts : List Int) (w : Fr) : (unitsOf b ts w).length ≤ 3 * ts.length := by
  have h := flat_le (fun (i : Nat) => (kinds (b + (i : Int))).map fun k => (at_ ts i * w.2, k * w.2 + w.1)) 3 (fun i => by rw [List.length_map]; exact kinds_len3 _) (List.range ts.length)
  rw [List.length_range] at h
  exact h
theorem unit_pos {b : Int} {ts : List Int} {w u : Fr} (T : Tms ts) (W : Wid w) (h : u ∈ unitsOf b ts w) : (0 < u.1 ∧ u.1 ≤ 199980000000) ∧ 0 < u.2 ∧ u.2 ≤ 160000000 := by
  obtain ⟨i, k, hi, hk, rfl⟩ := mem_units.mp h
  have t := T.all i _ (get_at hi)
  have p := W.pos
  have c := W.le
  have a := W.lo
  have d := W.lt
  have h1 : at_ ts i * w.2 ≤ 9999 * w.2 := Int.mul_le_mul_of_nonneg_right t.2 (by omega)
  refine ⟨⟨Int.mul_pos (by omega) p, by show at_ ts i * w.2 ≤ _; omega⟩, ?_⟩
  rcases kinds_le hk with e | e | e <;> rw [e] <;> simp only <;> omega
theorem low_mem {b : Int} {ts ks : List Int} {w : Fr} {i : Nat} (rd : Rdg b ks) (l : ks.length = ts.length) (hi : i < ts.length) : lowU ts ks w i ∈ unitsOf b ts w :=
  mem_units.mpr ⟨i, at_ ks i, hi, rd.at (by omega), rfl⟩
/-- what is found by some units -/
structure FoundBy (b : Int) (ts : List Int) (w : Fr) (us : List Fr) (rs : List (List Int)) : Prop where
  nd : rs.Nodup
  le : rs.length ≤ us.length
  iff : ∀ ks, ks ∈ rs ↔ ∃ u ∈ us, FitsAll b ts u w ks
theorem FoundBy.nil (b : Int) (ts : List Int) (w : Fr) : FoundBy b ts w [] [] := ⟨List.nodup_nil, Nat.le_refl _, fun ks => ⟨fun h => absurd h List.not_mem_nil, fun ⟨_, h, _⟩ => absurd h List.not_mem_nil⟩⟩
theorem FoundBy.none {b : Int} {ts : List Int} {w u : Fr} {us : List Fr} {rs : List (List Int)} (f : FoundBy b ts w us rs) (h : ∀ ks, ¬ FitsAll b ts u w ks) : FoundBy b ts w (us ++ [u]) rs :=
  ⟨f.nd, by rw [List.length_append]; have := f.le; exact Nat.le_trans this (Nat.le_add_right ..), fun ks => by
    rw [f.iff]
    constructor
    · rintro ⟨u', h1, h2⟩
      exact ⟨u', List.mem_append_left _ h1, h2⟩
    · rintro ⟨u', h1, h2⟩
      rcases List.mem_append.mp h1 with h1 | h1
      · exact ⟨u', h1, h2⟩
      · rw [List.mem_singleton.mp h1] at h2
        exact absurd h2 (h ks)⟩
theorem FoundBy.old {b : Int} {ts : List Int} {w u : Fr} {us : List Fr} {rs : List (List Int)} {ks : List Int} (W : Wid w) (hu : 0 < u.1) (f : FoundBy b ts w us rs) (h : FitsAll b ts u w ks) (m : ks ∈ rs) : FoundBy b ts w (us ++ [u]) rs :=
  ⟨f.nd, by rw [List.length_append]; have := f.le; exact Nat.le_trans this (Nat.le_add_right ..), fun ls => by
    constructor
    · intro hl
      obtain ⟨u', h1, h2⟩ := (f.iff ls).mp hl
      exact ⟨u', List.mem_append_left _ h1, h2⟩
    · rintro ⟨u', h1, h2⟩
      rcases List.mem_append.mp h1 with h1 | h1
      · exact (f.iff ls).mpr ⟨u', h1, h2⟩
      · rw [List.mem_singleton.mp h1] at h2
        rw [h2.one W hu h]
        exact m⟩
theorem FoundBy.new {b : Int} {ts : List Int} {w u : Fr} {us : List Fr} {rs : List (List Int)} {ks : List Int} (W : Wid w) (hu : 0 < u.1) (f : FoundBy b ts w us rs) (h : FitsAll b ts u w ks) (m : ks ∉ rs) : FoundBy b ts w (us ++ [u]) (rs ++ [ks]) := by
  refine ⟨List.nodup_append.mpr ⟨f.nd, by simp, fun a ha c hc => by
    rw [List.mem_singleton.mp hc]
    exact fun z => m (z ▸ ha)⟩, by rw [List.length_append, List.length_append]; have := f.le; simp; omega, fun ls => ?_⟩
  rw [List.mem_append, List.mem_singleton]
  constructor
  · rintro (hl | rfl)
    · obtain ⟨u', h1, h2⟩ := (f.iff ls).mp hl
      exact ⟨u', List.mem_append_left _ h1, h2⟩
    · exact ⟨u, List.mem_append_right _ (List.mem_singleton.mpr rfl), h⟩
  · rintro ⟨u', h1, h2⟩
    rcases List.mem_append.mp h1 with h1 | h1
    · exact .inl ((f.iff ls).mpr ⟨u', h1, h2⟩)
    · rw [List.mem_singleton.mp h1] at h2
      exact .inr (h2.one W hu h)
/-- all readings that the width allows, each once -/
structure AllBy (b : Int) (ts : List Int) (w : Fr) (rs : List (List Int)) : Prop where
  nd : rs.Nodup
  le : rs.length ≤ 75
  iff : ∀ ks, ks ∈ rs ↔ Allowed b ts w ks
theorem FoundBy.all {b : Int} {ts : List Int} {w : Fr} {rs : List (List Int)} (T : Tms ts) (pos : 0 < ts.length) (W : Wid w) (f : FoundBy b ts w (unitsOf b ts w) rs) : AllBy b ts w rs := by
  refine ⟨f.nd, ?_, fun ks => ⟨fun h => ?_, fun h => ?_⟩⟩
  · have := f.le
    have := units_len b ts w
    have := T.le
    omega
  · obtain ⟨u, hu, h⟩ := (f.iff ks).mp h
    exact h.allowed T W (unit_pos T W hu).2.1
  · obtain ⟨i, hi, g⟩ := h.unit T pos W
    exact (f.iff ks).mpr ⟨_, low_mem h.rd h.len hi, g⟩
/-! ### least widths against a width -/
theorem bot_pos {ts ks : List Int} (tr : TR ts ks) (pos : 0 < ts.length) : 0 < (widthOf ts ks).1.2 := low_pos (best_ok tr pos).pos
theorem no_iff {ts ks : List Int} {w : Fr} (tr : TR ts ks) (pos : 0 < ts.length) (W0 : 0 ≤ w.1) (Wp : 0 < w.2) : (∀ i j, i < ts.length → j < ts.length → leF (askF ts ks i j) w) ↔ leF (widthOf ts ks).1 w := by
  have ok := best_ok tr pos
  have ls := low_self_le (f := (bestOf ts ks).1) ok.pos
  have bp := bot_pos tr pos
  constructor
  · intro h
    have : leF (bestOf ts ks).1 w := by
      rcases best_in (ts := ts) (ks := ks) with e | ⟨i, j, hi, hj, e⟩
      · rw [e]
        unfold leF
        simp only
        omega
      · rw [e]
        exact h i j hi hj
    exact leF.trans bp ok.pos Wp ls.1 this
  · intro h i j hi hj
    have a := best_ge tr pos hi hj
    exact leF.trans (tr.bot hi hj).1 bp Wp (leF.trans (tr.bot hi hj).1 ok.pos bp a ls.2) h
theorem Allowed.width {b : Int} {ts ks : List Int} {w : Fr} (T : Tms ts) (pos : 0 < ts.length) (W : Wid w) (a : Allowed b ts w ks) : leF (widthOf ts ks).1 w := (no_iff (T.tr a.rd a.len) pos W.lo W.pos).mp a.no
theorem allowed_iff {b : Int} {ts ks : List Int} {w : Fr} (T : Tms ts) (pos : 0 < ts.length) (W : Wid w) : Allowed b ts w ks ↔ Rdg b ks ∧ ks.length = ts.length ∧ leF (widthOf ts ks).1 w :=
  ⟨fun a => ⟨a.rd, a.len, a.width T pos W⟩, fun ⟨r, l, h⟩ => ⟨r, l, (no_iff (T.tr r l) pos W.lo W.pos).mpr h⟩⟩
/-- what a least width is -/
structure WOk (f : Fr) : Prop where
  t0 : 0 ≤ f.1
  t1 : f.1 ≤ 100000
  b0 : 0 < f.2
  b1 : f.2 ≤ 19998
  low : lowF f.1 f.2 = f
theorem width_ok {ts ks : List Int} (tr : TR ts ks) (pos : 0 < ts.length) : WOk (widthOf ts ks).1 := by
  have ok := best_ok tr pos
  have ab := low_top_abs (bestOf ts ks).1.1 _ ok.pos
  have bl := low_bot_le (t := (bestOf ts ks).1.1) ok.pos
  have o1 := ok.t0
  have o2 := ok.t1
  have o3 := ok.b
  refine ⟨Int.ediv_nonneg o1 (Int.le_of_lt (gI_pos ok.pos)), ?_, low_pos ok.pos, ?_, low_low ok.pos⟩
  · show (lowF _ _).1 ≤ _
    omega
  · show (lowF _ _).2 ≤ _
    omega
/-- the widest of all -/
def wideW : Fr := (19997, 19998)
theorem wide_wid : Wid wideW := ⟨by decide, by decide, by decide, by decide⟩
theorem below_wide {f : Fr} (h : WOk f) : leF f wideW ↔ f.1 < f.2 := by
  have a := h.b0
  have c := h.b1
  unfold leF wideW
  simp only
  constructor
  · intro z
    omega
  · intro z
    omega
/-- any width just below 1 -/
theorem below_other {f w : Fr} (h : WOk f) (W : Wid w) (hw : wideW.1 * w.2 ≤ w.1 * wideW.2) : leF f w ↔ f.1 < f.2 := by
  constructor
  · intro z
    have p := W.lt
    have q := W.pos
    have b := h.b0
    have z' : f.1 * w.2 ≤ w.1 * f.2 := z
    have z2 : w.1 * f.2 < w.2 * f.2 := Int.mul_lt_mul_of_pos_right p b
    have z3 : f.1 * w.2 < f.2 * w.2 := by
      rw [Int.mul_comm f.2 w.2]
      exact Int.lt_of_le_of_lt z' z2
    exact Int.lt_of_mul_lt_mul_right z3 (Int.le_of_lt q)
  · intro z
    exact leF.trans h.b0 (by decide) W.pos ((below_wide h).mpr z) hw
end KT
namespace KT
open PySem PySem.Spec PyProof.Rows L2
/-! ### heaps without one object -/
def hid (D : Addr) (H : Hp) : Hp := fun b => if b = D then none else H b
theorem hid_ne {D b : Addr} {H : Hp} (h : b ≠ D) : hid D H b = H b := if_neg h
theorem hid_some {D b : Addr} {H : Hp} {o : HO} (h : hid D H b = some o) : b ≠ D ∧ H b = some o := by
  unfold hid at h
  by_cases e : b = D
  · rw [if_pos e] at h
    cases h
  · rw [if_neg e] at h
    exact ⟨e, h⟩
theorem hid_same {D : Addr} {H : Hp} : Same (hid D H) H := fun _ _ h => (hid_some h).2
theorem same_hid {D : Addr} {H H' : Hp} (s : Same H H') : Same (hid D H) (hid D H') := fun b o h => by
  obtain ⟨n, e⟩ := hid_some h
  rw [hid_ne n]
  exact s _ _ e
theorem hid_upd {D : Addr} {H : Hp} {o : HO} : hid D (upd H D o) = hid D H := by
  funext b
  unfold hid
  by_cases e : b = D
  · rw [if_pos e, if_pos e]
  · rw [if_neg e, if_neg e, upd_ne e]
theorem hid_tup {D p : Addr} {H : Hp} {acc xs : List V} (hD : H D = some (.lst acc)) (h : H p = some (.tup xs)) : hid D H p = some (.tup xs) := by
  rw [hid_ne fun z => by rw [z, hD] at h; cases h]
  exact h
theorem hid_new {D p : Addr} {H H' : Hp} {o u : HO} (n : H p = none) (hD : H D = some o) (h : H' p = some u) : hid D H' p = some u := by
  rw [hid_ne (ne_of_none hD n).symm]
  exact h
/-- a comprehension without a test: what is told of each item holds of the heap without the new list -/
theorem lc_h {J : It} {n : Nat} {G : Hp → Prop} {Y : Nat → Hp → V → Hp → Prop} {g : TG} {te : TE} {vs : List Nat} {σ : L2.St} {H1 : Hp} {D : Addr} {Qd : Hp → Prop} (w : Walk J n G Y) (Pe : Nat → V → Hp → Prop) (mono : ∀ i v H H', Same H H' → Pe i v H → Pe i v H') (nD : H1 D = none) (hn : n ≤ 1000000) (hG : ∀ H, Same H1 H → G H)
    (hs : ∀ i x H H' (acc : List V) (k : V → Hp → Prop), i < n → Same H1 H → H D = some (.lst acc) → acc.length = i → (∀ j y, acc[j]? = some y → Pe j y (hid D H)) → Y i H x H' → (∀ y H4, Same H H4 → Pe i y (hid D H4) → k y H4) →
      g x (wipe σ vs) H' fun σ2 H2 => wipe σ2 vs = wipe σ vs ∧ te σ2 H2 k)
    (hd : ∀ H xs, Same H1 H → H D = some (.lst xs) → xs.length = n → (∀ i y, xs[i]? = some y → Pe i y (hid D H)) → Qd H) :
    ∃ W : Nat → Nat → Hp → Prop, (∃ m, W 0 m (upd H1 D (.lst []))) ∧ ∀ i m H, W i m H →
      (J.stop i H ∧ Qd H) ∨ (J.go i H ∧ ∃ Nx : Hp → Prop, (∀ H', Nx H' → ∃ m', m' < m ∧ W (i + 1) m' H') ∧ ∀ x H', J.yld i H x H' → g x (wipe σ vs) H' fun σ2 H2 => wipe σ2 vs = wipe σ vs ∧ tYes σ2 H2 fun b H3 =>
        if b = true then te σ2 H3 fun y H4 => ∃ acc, H4 D = some (.lst acc) ∧ acc.length < sizeLine ∧ Nx (upd H4 D (.lst (acc ++ [y]))) else Nx H3) := by
  refine lc_it w (tt := tYes) (fun i H => ∃ xs, Same H1 H ∧ H D = some (.lst xs) ∧ xs.length = i ∧ ∀ i y, xs[i]? = some y → Pe i y (hid D H)) ⟨[], sm nD, upd_same, rfl, fun i y h => by simp at h⟩ (fun i H _ ⟨_, s, _⟩ => hG H s) ?_ fun H ⟨xs, s, e, l, q⟩ => hd H xs s e l q
  rintro i x H H' hi ⟨xs, s, e, l, q⟩ y
  refine hs i x H H' xs _ hi s e l q y fun z H4 s4 p4 => ⟨xs, s4 _ _ e, lz' (by omega), xs ++ [z], same_put (s.trans s4) nD, upd_same, by rw [List.length_append, l]; rfl, fun j u hu => ?_⟩
  rw [hid_upd]
  by_cases hj : j < xs.length
  · rw [List.getElem?_append_left hj] at hu
    exact mono j u _ _ (same_hid s4) (q j u hu)
  · have e5 : j = i := by
      have := (List.getElem?_eq_some_iff.mp hu).1
      rw [List.length_append] at this
      simp at this
      omega
    subst e5
    rw [← l, List.getElem?_append_right (Nat.le_refl _), Nat.sub_self] at hu
    cases hu
    exact l ▸ p4
/-! ### parts -/
structure PartAt (K : PySem.W.Frag) (H : Hp) (v : V) (t n : Int) : Prop where
  ex : ∃ T q : Addr, v = .ref T ∧ H T = some (.tup [.int t, .ref q]) ∧ SqT K H q ((kinds n).map V.int)
theorem PartAt.same {K : PySem.W.Frag} {H H' : Hp} {v : V} {t n : Int} (h : PartAt K H v t n) (s : Same H H') : PartAt K H' v t n := by
  obtain ⟨T, q, a, b, c⟩ := h.ex
  exact ⟨T, q, a, s _ _ b, same_tup s c⟩
def PartsAt (K : PySem.W.Frag) (H : Hp) (vs : List V) (b : Nat) (ts : List Int) : Prop := vs.length = ts.length ∧ ∀ (i : Nat) (v : V), vs[i]? = some v → PartAt K H v (at_ ts i) ((b : Int) + (i : Int))
theorem PartsAt.same {K : PySem.W.Frag} {H H' : Hp} {vs : List V} {b : Nat} {ts : List Int} (h : PartsAt K H vs b ts) (s : Same H H') : PartsAt K H' vs b ts := ⟨h.1, fun i v e => (h.2 i v e).same s⟩
def slice (ts : List Int) (b e : Nat) : List Int := (ts.drop b).take (e - b)
theorem slice_len {ts : List Int} {b e : Nat} (h : e ≤ ts.length) (hb : b ≤ e) : (slice ts b e).length = e - b := by
  unfold slice
  rw [List.length_take, List.length_drop]
  omega
theorem slice_at {ts : List Int} {b e i : Nat} (h : i < e - b) : at_ (slice ts b e) i = at_ ts (b + i) := by
  unfold slice at_
  rw [List.getD_eq_getElem?_getD, List.getD_eq_getElem?_getD, List.getElem?_take_of_lt h, List.getElem?_drop]
theorem slice_all (ts : List Int) : slice ts 0 ts.length = ts := by
  unfold slice
  rw [List.drop_zero, Nat.sub_zero, List.take_length]
theorem Tms.slice {ts : List Int} (h : Tms ts) (b e : Nat) : Tms (KT.slice ts b e) := by
  refine ⟨?_, fun i t hi => ?_⟩
  · unfold KT.slice
    rw [List.length_take, List.length_drop]
    have := h.le
    omega
  · unfold KT.slice at hi
    by_cases c : i < e - b
    · rw [List.getElem?_take_of_lt c, List.getElem?_drop] at hi
      exact h.all _ _ hi
    · rw [List.getElem?_eq_none (by rw [List.length_take]; omega)] at hi
      cases hi
/-! ### promises -/
def spParts (K : PySem.W.Frag) : Sp := fun vs H Q _ => ∃ (a : Addr) (ts : List Int) (b e : Nat), vs = [.ref a, .int (b : Int), .int (e : Int)] ∧ SqL K H a (ts.map V.int) ∧ b ≤ e ∧ e ≤ ts.length ∧ ts.length ≤ 25 ∧
  ∀ (p : Addr) (xs : List V) (H' : Hp), H p = none → Same H H' → H' p = some (.lst xs) → PartsAt K H' xs b (slice ts b e) → Q (.ref p) H'
/-- a unit as it is tried -/
structure UnitB (u : Fr) : Prop where
  a0 : 0 < u.1
  a1 : u.1 ≤ 199980000000
  b0 : 0 < u.2
  b1 : u.2 ≤ 160000000
theorem unit_b {b : Int} {ts : List Int} {w u : Fr} (T : Tms ts) (W : Wid w) (h : u ∈ unitsOf b ts w) : UnitB u := by
  obtain ⟨⟨a, b⟩, c, d⟩ := unit_pos T W h
  exact ⟨a, b, c, d⟩
def spNumber (K : PySem.W.Frag) : Sp := fun vs H Q _ => ∃ (v : V) (u p : Addr) (t n : Int) (uu w : Fr), vs = [v, .ref u, .ref p] ∧ PartAt K H v t n ∧ SqT K H u (frV uu) ∧ SqT K H p (frV w) ∧ Wid w ∧ 1 ≤ t ∧ t ≤ 9999 ∧ UnitB uu ∧
  (∀ k ∈ kinds n, fitsU t k uu w → ∀ H', Same H H' → Q (.int k) H') ∧ ((∀ k ∈ kinds n, ¬ fitsU t k uu w) → ∀ H', Same H H' → Q .non H')
def spReadBy (K : PySem.W.Frag) : Sp := fun vs H Q _ => ∃ (a u p : Addr) (xs : List V) (b : Nat) (ts : List Int) (uu w : Fr), vs = [.ref a, .ref u, .ref p] ∧ SqL K H a xs ∧ PartsAt K H xs b ts ∧ Tms ts ∧ SqT K H u (frV uu) ∧ SqT K H p (frV w) ∧ Wid w ∧ UnitB uu ∧
  (∀ ks, FitsAll b ts uu w ks → ∀ (r : Addr) (H' : Hp), H r = none → Same H H' → H' r = some (.lst (ks.map V.int)) → Q (.ref r) H') ∧ ((∀ ks, ¬ FitsAll b ts uu w ks) → ∀ H', Same H H' → Q .non H')
def spLeastU (K : PySem.W.Frag) : Sp := fun vs H Q _ => ∃ (a p : Addr) (xs : List V) (b : Nat) (ts : List Int) (w : Fr), vs = [.ref a, .ref p] ∧ SqL K H a xs ∧ PartsAt K H xs b ts ∧ Tms ts ∧ SqT K H p (frV w) ∧ Wid w ∧
  ∀ (r : Addr) (us : List V) (H' : Hp), H r = none → Same H H' → H' r = some (.lst us) → FrAt H' us (unitsOf b ts w) → Q (.ref r) H'
/-- new rows -/
def RowsN (H H' : Hp) (xs : List V) (rs : List (List Int)) : Prop := xs.length = rs.length ∧ ∀ (i : Nat) (ks : List Int), rs[i]? = some ks → ∃ r : Addr, xs[i]? = some (.ref r) ∧ H r = none ∧ H' r = some (.lst (ks.map V.int))
def spAllowedR (K : PySem.W.Frag) : Sp := fun vs H Q _ => ∃ (a p : Addr) (xs : List V) (b : Nat) (ts : List Int) (w : Fr), vs = [.ref a, .ref p] ∧ SqL K H a xs ∧ PartsAt K H xs b ts ∧ Tms ts ∧ 0 < ts.length ∧ SqT K H p (frV w) ∧ Wid w ∧
  ∀ (r : Addr) (ys : List V) (rs : List (List Int)) (H' : Hp), H r = none → Same H H' → H' r = some (.lst ys) → RowsN H H' ys rs → AllBy b ts w rs → Q (.ref r) H'
def spCommon : Sp := fun vs H Q _ => ∃ (a : Addr) (xs : List V) (ws : List Fr), vs = [.ref a] ∧ H a = some (.lst xs) ∧ FrAt H xs ws ∧ (∀ f ∈ ws, 0 < f.2 ∧ f.2 ≤ 19998) ∧ ws.length ≤ 75 ∧
  ∀ (c : Int) (H' : Hp), 0 < c → c.natAbs < 2 ^ 1200 → (∀ f ∈ ws, f.2 ∣ c) → Same H H' → Q (.int c) H'
/-- new tuples (reading, width) -/
def ElsN (H H' : Hp) (vs : List V) (l : List El) : Prop := vs.length = l.length ∧ ∀ (i : Nat) (e : El), l[i]? = some e → ∃ T r q : Addr, vs[i]? = some (.ref T) ∧ H r = none ∧ H' T = some (.tup [.ref r, .ref q]) ∧ H' r = some (.lst (e.2.map V.int)) ∧ H' q = some (.tup (frV e.1))
theorem ElsN.same {H H1 H2 : Hp} {vs : List V} {l : List El} (h : ElsN H H1 vs l) (s : Same H1 H2) : ElsN H H2 vs l := ⟨h.1, fun i e he => by
  obtain ⟨T, r, q, a, n, b, c, d⟩ := h.2 i e he
  exact ⟨T, r, q, a, n, s _ _ b, s _ _ c, s _ _ d⟩⟩
/-- .. as seen from an older heap -/
theorem ElsN.old {H0 H H1 : Hp} {vs : List V} {l : List El} (h : ElsN H H1 vs l) (s : Same H0 H) : ElsN H0 H1 vs l := ⟨h.1, fun i e he => by
  obtain ⟨T, r, q, a, n, b, c, d⟩ := h.2 i e he
  exact ⟨T, r, q, a, s.free n, b, c, d⟩⟩
/-- all that the width allows, in order -/
structure OrdBy (b : Int) (ts : List Int) (w : Fr) (l : List El) : Prop where
  ord : l.Pairwise ltE
  le : l.length ≤ 75
  iff : ∀ e : El, e ∈ l ↔ Allowed b ts w e.2 ∧ e.1 = (widthOf ts e.2).1
def spInOrder (K : PySem.W.Frag) : Sp := fun vs H Q _ => ∃ (a p : Addr) (xs : List V) (b : Nat) (ts : List Int) (w : Fr), vs = [.ref a, .ref p] ∧ SqL K H a xs ∧ PartsAt K H xs b ts ∧ Tms ts ∧ 0 < ts.length ∧ SqT K H p (frV w) ∧ Wid w ∧
  ∀ (r : Addr) (ys : List V) (l : List El) (H' : Hp), H r = none → Same H H' → H' r = some (.lst ys) → ElsN H H' ys l → OrdBy b ts w l → Q (.ref r) H'
def spReadings (K : PySem.W.Frag) (C : Addr) : Sp := fun vs H Q _ => ∃ (x p la : Addr) (ts : List Int) (w : Fr), vs = [.ref x, .ref p] ∧ TapsAt C H x la ts ∧ Tps ts ∧ SqT K H p (frV w) ∧ Wid w ∧
  ∀ (r : Addr) (ys : List V) (l : List El) (H' : Hp), H r = none → Same H H' → H' r = some (.lst ys) → ElsN H H' ys l → OrdBy 0 ts w l → Q (.ref r) H'
def spBelow1 (C : Addr) : Sp := fun vs H Q _ => ∃ (x la : Addr) (ts : List Int), vs = [.ref x] ∧ TapsAt C H x la ts ∧ Tps ts ∧
  ∀ (r : Addr) (ys : List V) (l : List El) (H' : Hp), H r = none → Same H H' → H' r = some (.lst ys) → ElsN H H' ys l → OrdBy 0 ts wideW l → Q (.ref r) H'
def spNearest (C : Addr) : Sp := fun vs H Q _ => ∃ (x la : Addr) (ts : List Int), vs = [.ref x] ∧ TapsAt C H x la ts ∧ Tps ts ∧
  ∀ (T r q : Addr) (e : El) (l : List El) (H' : Hp), OrdBy 0 ts wideW (e :: l) → Same H H' → H r = none → H' T = some (.tup [.ref r, .ref q]) → H' r = some (.lst (e.2.map V.int)) → H' q = some (.tup (frV e.1)) → Q (.ref T) H'
def spNextW (C : Addr) : Sp := fun vs H Q _ => ∃ (x la : Addr) (ts : List Int), vs = [.ref x] ∧ TapsAt C H x la ts ∧ Tps ts ∧
  ∀ l, OrdBy 0 ts wideW l → (l.length < 2 → ∀ H', Same H H' → Q .non H') ∧ ∀ e0 e1 l', l = e0 :: e1 :: l' → ∀ (q : Addr) (H' : Hp), Same H H' → H' q = some (.tup (frV e1.1)) → Q (.ref q) H'
def spPieceEnd (K : PySem.W.Frag) : Sp := fun vs H Q _ => ∃ (a p : Addr) (ts : List Int) (b : Nat) (w : Fr), vs = [.ref a, .int (b : Int), .ref p] ∧ SqL K H a (ts.map V.int) ∧ Tms ts ∧ b < ts.length ∧ SqT K H p (frV w) ∧ Wid w ∧
  ∀ (e : Nat) (H' : Hp), b < e → e ≤ ts.length → (∃ ks, Allowed b (slice ts b e) w ks) → (e < ts.length → ∀ ks, ¬ Allowed b (slice ts b (e + 1)) w ks) → Same H H' → Q (.int (e : Int)) H'
/-- a piece, as long as can be, with its nearest reading -/
structure Piece (ts : List Int) (w : Fr) (b e : Nat) (ks : List Int) : Prop where
  lt : b < e
  le : e ≤ ts.length
  max : e < ts.length → ∀ ks, ¬ Allowed b (slice ts b (e + 1)) w ks
  near : ∃ (f : Fr) (l : List El), OrdBy b (slice ts b e) w ((f, ks) :: l)
inductive PiecesTo (ts : List Int) (w : Fr) : List (Nat × Nat × List Int) → Nat → Prop
  | nil : PiecesTo ts w [] 0
  | snoc {l : List (Nat × Nat × List Int)} {b e : Nat} {ks : List Int} : PiecesTo ts w l b → Piece ts w b e ks → PiecesTo ts w (l ++ [(b, e, ks)]) e
/-- new tuples (begin, end, reading) -/
def PcsN (H H' : Hp) (vs : List V) (l : List (Nat × Nat × List Int)) : Prop := vs.length = l.length ∧ ∀ (i : Nat) (e : Nat × Nat × List Int), l[i]? = some e → ∃ T r : Addr, vs[i]? = some (.ref T) ∧ H r = none ∧ H' T = some (.tup [.int (e.1 : Int), .int (e.2.1 : Int), .ref r]) ∧ H' r = some (.lst (e.2.2.map V.int))
def spPieces (K : PySem.W.Frag) (C : Addr) : Sp := fun vs H Q _ => ∃ (x p la : Addr) (ts : List Int) (w : Fr), vs = [.ref x, .ref p] ∧ TapsAt C H x la ts ∧ Tps ts ∧ SqT K H p (frV w) ∧ Wid w ∧
  ∀ (r : Addr) (ys : List V) (l : List (Nat × Nat × List Int)) (H' : Hp), H r = none → Same H H' → H' r = some (.lst ys) → PcsN H H' ys l → PiecesTo ts w l ts.length → Q (.ref r) H'
end KT
namespace KT
open PySem PySem.Spec PyProof.Rows L2
theorem hu20 {k : Nat} {A : Around} (h : Room k A) : A.units + 20 < cLine := by
  have := h.un
  omega
theorem lits {xs : List V} {n : Nat} (h : xs.length = n) (hn : n ≤ 1000000) : xs.length ≤ sizeLine := lz (by omega)
theorem iteP {c : Bool} {A B : Prop} (e : c = true) (h : A) : if c = true then A else B := by
  rw [if_pos e]
  exact h
theorem iteQ {c : Bool} {A B : Prop} (e : c = false) (h : B) : if c = true then A else B := by
  rw [if_neg (by rw [e]; decide)]
  exact h
theorem inN_mem {ys : List V} (h : V.non ∈ ys) : inV .non ys = true := by
  unfold inV
  rw [List.any_eq_true]
  exact ⟨_, h, rfl⟩
theorem inN_not {ys : List V} (h : V.non ∉ ys) : inV .non ys = false := by
  unfold inV
  rw [List.any_eq_false]
  intro y hy
  cases y <;> first | exact absurd hy h | exact fun z => by cases z
/-! ### rows as data -/
def rowD (ks : List Int) : PyData := .list (ks.map PyData.int)
theorem rows_can : ∀ rs : List (List Int), PyData.canLayAll0 (rs.map rowD) = true ∧ PyData.depthAll (rs.map rowD) ≤ 3
  | [] => by simp [PyData.canLayAll0, PyData.depthAll]
  | r :: rs => by
    obtain ⟨a, b⟩ := rows_can rs
    have c : (rowD r).canLay0 = true := canLay_intsL r
    have d : (rowD r).depth ≤ 3 := depth_intsL r
    simp only [List.map_cons, PyData.canLayAll0, PyData.depthAll, Bool.and_eq_true]
    exact ⟨⟨c, a⟩, Nat.max_le.mpr ⟨d, b⟩⟩
theorem rows_shaped (rs : List (List Int)) : SeqAt.shaped (.list (rs.map rowD)) = true := by
  obtain ⟨a, b⟩ := rows_can rs
  have h2 : PyData.depth (.list (rs.map rowD)) ≤ 64 := by
    simp only [PyData.depth]
    omega
  show (PyData.canLay0 (.list (rs.map rowD)) && decide (PyData.depth (.list (rs.map rowD)) ≤ 64)) = true
  rw [Bool.and_eq_true]
  exact ⟨by simp only [PyData.canLay0]; exact a, decide_eq_true h2⟩
theorem row_shaped (ks : List Int) : SeqAt.shaped (rowD ks) = true := by
  have c : (rowD ks).canLay0 = true := canLay_intsL ks
  have d : (rowD ks).depth ≤ 3 := depth_intsL ks
  show ((rowD ks).canLay0 && decide ((rowD ks).depth ≤ 64)) = true
  rw [Bool.and_eq_true]
  exact ⟨c, decide_eq_true (by omega)⟩
theorem rows_any (rs : List (List Int)) (ks : List Int) : ((rs.map rowD).any fun z => PyData.eqv z (rowD ks)) = decide (ks ∈ rs) := by
  induction rs with
  | nil => simp
  | cons r rs ih =>
    rw [List.map_cons, List.any_cons, ih]
    have : PyData.eqv (rowD r) (rowD ks) = decide (r = ks) := eqv_intsL r ks
    rw [this]
    by_cases e : r = ks
    · subst e
      simp
    · rw [decide_eq_false e, Bool.false_or]
      have : (ks ∈ r :: rs) ↔ ks ∈ rs := by
        rw [List.mem_cons]
        exact ⟨fun h => h.elim (fun z => absurd z.symm e) id, .inr⟩
      exact decide_eq_decide.mpr this.symm
theorem RowsN.dp {K : PySem.W.Frag} {H H' : Hp} : ∀ {xs : List V} {rs : List (List Int)}, RowsN H H' xs rs → DpAll K H' xs (rs.map rowD)
  | [], [], _ => .nil
  | [], r :: rs, h => by cases h.1
  | x :: xs, [], h => by cases h.1
  | x :: xs, r :: rs, h => by
    obtain ⟨a, e, n, g⟩ := h.2 0 r rfl
    cases e
    exact .cons (dp_ints (SqL.of g)) (RowsN.dp ⟨Nat.succ.inj h.1, fun i ks e => h.2 (i + 1) ks e⟩)
theorem RowsN.nil (H H' : Hp) : RowsN H H' [] [] := ⟨rfl, fun i ks e => by simp at e⟩
theorem RowsN.same {H H1 H2 : Hp} {xs : List V} {rs : List (List Int)} (h : RowsN H H1 xs rs) (s : Same H1 H2) : RowsN H H2 xs rs := ⟨h.1, fun i ks e => by
  obtain ⟨r, a, n, b⟩ := h.2 i ks e
  exact ⟨r, a, n, s _ _ b⟩⟩
theorem RowsN.snoc {H H1 : Hp} {xs : List V} {rs : List (List Int)} {r : Addr} {ks : List Int} (h : RowsN H H1 xs rs) (n : H r = none) (e : H1 r = some (.lst (ks.map V.int))) : RowsN H H1 (xs ++ [.ref r]) (rs ++ [ks]) := by
  refine ⟨by rw [List.length_append, List.length_append, h.1]; rfl, fun i u hu => ?_⟩
  by_cases hi : i < rs.length
  · rw [List.getElem?_append_left hi] at hu
    obtain ⟨r', g1, g2, g3⟩ := h.2 i u hu
    exact ⟨r', by rw [List.getElem?_append_left (by rw [h.1]; exact hi)]; exact g1, g2, g3⟩
  · have e5 : i = rs.length := by
      have := (List.getElem?_eq_some_iff.mp hu).1
      rw [List.length_append] at this
      simp at this
      omega
    subst e5
    rw [List.getElem?_append_right (Nat.le_refl _), Nat.sub_self] at hu
    cases hu
    exact ⟨r, by rw [← h.1, List.getElem?_append_right (Nat.le_refl _), Nat.sub_self]; rfl, n, e⟩
theorem take_succ {α : Type} {l : List α} {i : Nat} {a : α} (h : l[i]? = some a) : l.take (i + 1) = l.take i ++ [a] := by
  rw [List.take_add_one, h]
  rfl
/-- the units of the first times -/
def unitsTo (b : Int) (ts : List Int) (w : Fr) (n : Nat) : List Fr := (List.range n).flatMap fun (i : Nat) => (kinds (b + (i : Int))).map fun k => (at_ ts i * w.2, k * w.2 + w.1)
theorem unitsTo_succ (b : Int) (ts : List Int) (w : Fr) (n : Nat) : unitsTo b ts w (n + 1) = unitsTo b ts w n ++ (kinds (b + (n : Int))).map fun k => (at_ ts n * w.2, k * w.2 + w.1) := by
  unfold unitsTo
  rw [List.range_succ, List.flatMap_append]
  simp
theorem unitsTo_len (b : Int) (ts : List Int) (w : Fr) (n : Nat) : (unitsTo b ts w n).length ≤ 3 * n := by
  have h := flat_le (fun (i : Nat) => (kinds (b + (i : Int))).map fun k => (at_ ts i * w.2, k * w.2 + w.1)) 3 (fun i => by rw [List.length_map]; exact kinds_len3 _) (List.range n)
  rw [List.length_range] at h
  exact h
/-! ### in order -/
theorem ints_eq {xs : List V} {ts : List Int} (l : xs.length = ts.length) (h : ∀ (i : Nat) (y : V), xs[i]? = some y → y = .int (at_ ts i)) : xs = ts.map V.int := by
  apply List.ext_getElem?
  intro i
  by_cases c : i < xs.length
  · have e := List.getElem?_eq_getElem c
    rw [List.getElem?_map, get_at (by omega : i < ts.length), e, h i _ e]
    rfl
  · rw [List.getElem?_eq_none (by omega), List.getElem?_eq_none (by rw [List.length_map]; omega)]
def rankOf (c : Int) (f : Fr) : Int := f.1 * (c / f.2)
theorem rank_mul {c : Int} {f : Fr} (p : 0 < f.2) (d : f.2 ∣ c) : rankOf c f * f.2 = f.1 * c := by
  unfold rankOf
  rw [Int.mul_assoc, Int.ediv_mul_cancel d]
theorem rank_lt {c : Int} {f g : Fr} (c0 : 0 < c) (pf : 0 < f.2) (pg : 0 < g.2) (df : f.2 ∣ c) (dg : g.2 ∣ c) : rankOf c f < rankOf c g ↔ ltF f g := by
  have e1 : rankOf c f * (f.2 * g.2) = f.1 * g.2 * c := by
    rw [← Int.mul_assoc, rank_mul pf df, Int.mul_right_comm]
  have e2 : rankOf c g * (f.2 * g.2) = g.1 * f.2 * c := by
    rw [Int.mul_comm f.2 g.2, ← Int.mul_assoc, rank_mul pg dg, Int.mul_right_comm]
  have pp : 0 < f.2 * g.2 := Int.mul_pos pf pg
  unfold ltF
  rw [← Int.mul_lt_mul_right pp, e1, e2, Int.mul_lt_mul_right c0]
theorem rank_eq {c : Int} {f g : Fr} (c0 : 0 < c) (pf : WOk f) (pg : WOk g) (df : f.2 ∣ c) (dg : g.2 ∣ c) (e : rankOf c f = rankOf c g) : f = g := by
  have h1 : ¬ ltF f g := fun z => by
    have := (rank_lt c0 pf.b0 pg.b0 df dg).mpr z
    omega
  have h2 : ¬ ltF g f := fun z => by
    have := (rank_lt c0 pg.b0 pf.b0 dg df).mpr z
    omega
  rw [← pf.low, ← pg.low]
  exact low_eq pf.b0 pg.b0 (ltF.not h2) (ltF.not h1)
/-- the key of an entry, as it stands in the heap -/
def intOf : V → Int
  | .int i => i
  | _ => 0
def keyOf (H : Hp) : V → Int × List Int
  | .ref T => match H T with
    | some (.tup (.int n :: .ref r :: _)) => (n, match H r with
      | some (.lst l) => l.map intOf
      | _ => [])
    | _ => (0, [])
  | _ => (0, [])
theorem keyOf_eq {H : Hp} {T r : Addr} {n : Int} {ks : List Int} {rest : List V} (e : H T = some (.tup (.int n :: .ref r :: rest))) (e2 : H r = some (.lst (ks.map V.int))) : keyOf H (.ref T) = (n, ks) := by
  simp only [keyOf, e, e2]
  rw [List.map_map]
  have : (intOf ∘ V.int) = id := rfl
  rw [this, List.map_id]
/-- (rank, reading, width) -/
structure EntF (HB : Hp) (ts : List Int) (c : Int) (H : Hp) (v : V) (ks : List Int) (T r q : Addr) : Prop where
  v : v = .ref T
  t : H T = some (.tup [.int (rankOf c (widthOf ts ks).1), .ref r, .ref q])
  n : HB r = none
  r : H r = some (.lst (ks.map V.int))
  q : H q = some (.tup (frV (widthOf ts ks).1))
theorem EntF.same {HB : Hp} {ts : List Int} {c : Int} {H H' : Hp} {v : V} {ks : List Int} {T r q : Addr} (h : EntF HB ts c H v ks T r q) (s : Same H H') : EntF HB ts c H' v ks T r q := ⟨h.v, s _ _ h.t, h.n, s _ _ h.r, s _ _ h.q⟩
theorem EntF.key {HB : Hp} {ts : List Int} {c : Int} {H : Hp} {v : V} {ks : List Int} {T r q : Addr} (h : EntF HB ts c H v ks T r q) : keyOf H v = (rankOf c (widthOf ts ks).1, ks) := by
  rw [h.v]
  exact keyOf_eq h.t h.r
def elOf (ts : List Int) (ks : List Int) : El := ((widthOf ts ks).1, ks)
/-- sorted by the key is in order -/
theorem ord_of {b : Int} {ts : List Int} {w : Fr} {c : Int} {rs : List (List Int)} {HB H : Hp} {us ys : List V} (T : Tms ts) (pos : 0 < ts.length) (c0 : 0 < c) (cd : ∀ ks ∈ rs, (widthOf ts ks).1.2 ∣ c) (ab : AllBy b ts w rs) (lu : us.length = rs.length)
    (hu : ∀ (i : Nat) (v : V) (ks : List Int), us[i]? = some v → rs[i]? = some ks → ∃ T r q, EntF HB ts c H v ks T r q) (perm : ys.Perm us) (ord : ys.Pairwise fun x y => lexE (keyOf H y) (keyOf H x) = false) :
    OrdBy b ts w (ys.map fun v => elOf ts (keyOf H v).2) ∧ ∀ v ∈ ys, ∃ ks T r q, EntF HB ts c H v ks T r q ∧ ks ∈ rs := by
  have each : ∀ v ∈ us, ∃ (i : Nat) (ks : List Int) (T r q : Addr), us[i]? = some v ∧ rs[i]? = some ks ∧ EntF HB ts c H v ks T r q := fun v hv => by
    obtain ⟨i, hi, ei⟩ := List.getElem_of_mem hv
    have e1 : us[i]? = some v := by rw [List.getElem?_eq_getElem hi, ei]
    have e2 := List.getElem?_eq_getElem (show i < rs.length by omega)
    obtain ⟨T, r, q, E⟩ := hu i v _ e1 e2
    exact ⟨i, _, T, r, q, e1, e2, E⟩
  have each' : ∀ v ∈ ys, ∃ ks T r q, EntF HB ts c H v ks T r q ∧ ks ∈ rs := fun v hv => by
    obtain ⟨i, ks, T, r, q, _, e2, E⟩ := each v (perm.mem_iff.mp hv)
    exact ⟨ks, T, r, q, E, List.mem_of_getElem? e2⟩
  have ndu : (us.map fun v => (keyOf H v).2) = rs := by
    apply List.ext_getElem?
    intro i
    rw [List.getElem?_map]
    by_cases hi : i < us.length
    · have e1 := List.getElem?_eq_getElem hi
      have e2 := List.getElem?_eq_getElem (show i < rs.length by omega)
      obtain ⟨T, r, q, E⟩ := hu i _ _ e1 e2
      rw [e1, e2]
      show some (keyOf H us[i]).2 = _
      rw [E.key]
    · rw [List.getElem?_eq_none (by omega), List.getElem?_eq_none (by omega)]
      rfl
  have nd : (ys.map fun v => (keyOf H v).2).Nodup := by
    have p2 : (ys.map fun v => (keyOf H v).2).Perm rs := by
      have := perm.map fun v => (keyOf H v).2
      rw [ndu] at this
      exact this
    exact p2.nodup_iff.mpr ab.nd
  have wok : ∀ ks ∈ rs, WOk (widthOf ts ks).1 := fun ks h => by
    have a := (ab.iff ks).mp h
    exact width_ok (T.tr a.rd a.len) pos
  refine ⟨⟨?_, ?_, fun e => ?_⟩, each'⟩
  · rw [List.pairwise_map]
    have nd2 : ys.Pairwise fun x y => (keyOf H x).2 ≠ (keyOf H y).2 := List.pairwise_map.mp nd
    refine (ord.and nd2).imp_of_mem fun {x y} hx hy h => ?_
    obtain ⟨ks, T1, r1, q1, E1, m1⟩ := each' x hx
    obtain ⟨ls, T2, r2, q2, E2, m2⟩ := each' y hy
    obtain ⟨h1, h2⟩ := h
    rw [E1.key, E2.key] at h1 h2
    rw [E1.key, E2.key]
    have o1 := wok ks m1
    have o2 := wok ls m2
    unfold lexE at h1
    simp only at h1 h2 ⊢
    by_cases e : rankOf c (widthOf ts ls).1 = rankOf c (widthOf ts ks).1
    · rw [if_pos e] at h1
      have a1 := (ab.iff ks).mp m1
      have a2 := (ab.iff ls).mp m2
      refine .inr ⟨(rank_eq c0 o2 o1 (cd _ m2) (cd _ m1) e).symm, ?_⟩
      cases z : HT.lexLt ks ls with
      | true => exact z
      | false => exact absurd (lex_tri (a1.len.trans a2.len.symm) z h1) h2
    · rw [if_neg e] at h1
      have := of_decide_eq_false h1
      exact .inl ((rank_lt c0 o1.b0 o2.b0 (cd _ m1) (cd _ m2)).mp (by omega))
  · rw [List.length_map, perm.length_eq, lu]
    exact ab.le
  · rw [List.mem_map]
    constructor
    · rintro ⟨v, hv, rfl⟩
      obtain ⟨ks, T, r, q, E, m⟩ := each' v hv
      rw [E.key]
      exact ⟨(ab.iff ks).mp m, rfl⟩
    · rintro ⟨a, e1⟩
      have m := (ab.iff e.2).mpr a
      obtain ⟨i, hi, ei⟩ := List.getElem_of_mem m
      have e2 : rs[i]? = some e.2 := by rw [List.getElem?_eq_getElem hi, ei]
      have e3 := List.getElem?_eq_getElem (show i < us.length by omega)
      obtain ⟨T, r, q, E⟩ := hu i _ _ e3 e2
      refine ⟨_, perm.mem_iff.mpr (List.mem_of_getElem? e3), ?_⟩
      rw [E.key]
      exact Prod.ext e1.symm rfl
theorem nodup_at {α : Type} {l : List α} (n : l.Nodup) {i j : Nat} (hi : i < l.length) (hj : j < l.length) (e : l[i] = l[j]) : i = j := by
  rcases Nat.lt_trichotomy i j with h | h | h
  · exact absurd e (List.pairwise_iff_getElem.mp n i j hi hj h)
  · exact h
  · exact absurd e.symm (List.pairwise_iff_getElem.mp n j i hj hi h)
/-! ### there is a reading below 1 -/
theorem at_rep {n i : Nat} {z : Int} (h : i < n) : at_ (List.replicate n z) i = z := by
  refine at_get ?_
  rw [List.getElem?_replicate, if_pos h]
theorem ones_rdg (b : Int) (n : Nat) : Rdg b (List.replicate n 1) := fun i k e => by
  rw [List.getElem?_replicate] at e
  split at e
  · cases e
    exact kinds_one _
  · cases e
theorem ones_below {ts : List Int} (T : Tms ts) (pos : 0 < ts.length) : (widthOf ts (List.replicate ts.length 1)).1.1 < (widthOf ts (List.replicate ts.length 1)).1.2 := by
  have tr : TR ts (List.replicate ts.length 1) := T.tr (ones_rdg 0 _) (List.length_replicate ..)
  have ok := best_ok tr pos
  have below : (bestOf ts (List.replicate ts.length 1)).1.1 < (bestOf ts (List.replicate ts.length 1)).1.2 := by
    rcases best_in (ts := ts) (ks := List.replicate ts.length 1) with e | ⟨i, j, hi, hj, e⟩
    · rw [e]
      decide
    · rw [e]
      have a := tr.ti hi
      have c := tr.ti hj
      show askT _ _ i j < askB _ i j
      unfold askT askB
      rw [at_rep hi, at_rep hj]
      omega
  have h := (low_lt (t := (bestOf ts (List.replicate ts.length 1)).1.1) (t' := 1) (b' := 1) ok.pos (by decide)).mpr (by omega)
  have e1 : lowF 1 1 = (1, 1) := by decide
  rw [e1] at h
  show (lowF _ _).1 < (lowF _ _).2
  omega
theorem ones_allowed {b : Int} {ts : List Int} (T : Tms ts) (pos : 0 < ts.length) : Allowed b ts wideW (List.replicate ts.length 1) :=
  (allowed_iff T pos wide_wid).mpr ⟨ones_rdg b _, List.length_replicate .., (below_wide (width_ok (T.tr (ones_rdg b _) (List.length_replicate ..)) pos)).mpr (ones_below T pos)⟩
theorem some_reading {b : Int} {ts : List Int} {l : List El} (T : Tms ts) (pos : 0 < ts.length) (ob : OrdBy b ts wideW l) : ∃ e l', l = e :: l' := by
  cases l with
  | nil => exact absurd ((ob.iff ((widthOf ts (List.replicate ts.length 1)).1, List.replicate ts.length 1)).mpr ⟨ones_allowed T pos, rfl⟩) List.not_mem_nil
  | cons e l => exact ⟨e, l, rfl⟩
end KT
namespace KT
open PySem PySem.Spec PyProof.Rows L2
/-! ### there is one list in order -/
theorem ltE_asym {a b : El} (h : ltE a b) : ¬ ltE b a := by
  rcases h with h | ⟨e, h⟩
  · rintro (g | ⟨e, _⟩)
    · exact absurd g (Int.not_lt.mpr (Int.le_of_lt h))
    · rw [e] at h
      exact Int.lt_irrefl _ h
  · rintro (g | ⟨_, g⟩)
    · rw [e] at g
      exact Int.lt_irrefl _ g
    · rw [lex_asym h] at g
      cases g
theorem ord_uniq : ∀ {l m : List El}, l.Pairwise ltE → m.Pairwise ltE → (∀ e, e ∈ l ↔ e ∈ m) → l = m
  | [], [], _, _, _ => rfl
  | [], b :: m, _, _, h => absurd ((h b).mpr List.mem_cons_self) List.not_mem_nil
  | a :: l, [], _, _, h => absurd ((h a).mp List.mem_cons_self) List.not_mem_nil
  | a :: l, b :: m, hl, hm, h => by
    obtain ⟨l1, l2⟩ := List.pairwise_cons.mp hl
    obtain ⟨m1, m2⟩ := List.pairwise_cons.mp hm
    have e : a = b := by
      rcases List.mem_cons.mp ((h a).mp List.mem_cons_self) with e | ha
      · exact e
      · rcases List.mem_cons.mp ((h b).mpr List.mem_cons_self) with e | hb
        · exact e.symm
        · exact absurd (m1 a ha) (ltE_asym (l1 b hb))
    subst e
    have na : a ∉ l := fun z => ltE_irr _ (l1 a z)
    have nb : a ∉ m := fun z => ltE_irr _ (m1 a z)
    rw [ord_uniq l2 m2 fun e => ?_]
    constructor
    · intro he
      rcases List.mem_cons.mp ((h e).mp (List.mem_cons_of_mem _ he)) with rfl | z
      · exact absurd he na
      · exact z
    · intro he
      rcases List.mem_cons.mp ((h e).mpr (List.mem_cons_of_mem _ he)) with rfl | z
      · exact absurd he nb
      · exact z
theorem OrdBy.uniq {b : Int} {ts : List Int} {w : Fr} {l m : List El} (a : OrdBy b ts w l) (c : OrdBy b ts w m) : l = m := ord_uniq a.ord c.ord fun e => (a.iff e).trans (c.iff e).symm
/-! ### pieces -/
theorem one_allowed {b : Int} {ts : List Int} {w : Fr} (T : Tms ts) (W : Wid w) (h : ts.length = 1) : Allowed b ts w [1] := by
  refine ⟨fun i k e => ?_, h.symm, fun i j hi hj => ?_⟩
  · cases i with
    | zero =>
      cases e
      exact kinds_one _
    | succ i => simp at e
  · have hi' : i = 0 := by omega
    have hj' : j = 0 := by omega
    subst hi'
    subst hj'
    have := W.lo
    have t := T.all 0 _ (get_at (by omega))
    unfold leF askF askT askB
    simp only
    rw [Int.sub_self, Int.zero_mul]
    exact Int.mul_nonneg this (by omega)
/-- how far a slot is from n -/
def leftAt (i n : Nat) (σ : L2.St) : Nat := match σ[i]? with
  | some (some (.int k)) => n - k.toNat
  | _ => 0
theorem leftAt_of {i n k : Nat} {σ : L2.St} (h : σ[i]? = some (some (.int (k : Int)))) : leftAt i n σ = n - k := by
  unfold leftAt
  rw [h]
  rfl
/-- what is allowed stays so with fewer times -/
theorem Allowed.shorter {b e e' : Nat} {ts : List Int} {w : Fr} {ks : List Int} (he : e' ≤ e) (hb : b ≤ e') (hl : e ≤ ts.length) (a : Allowed b (slice ts b e) w ks) : Allowed b (slice ts b e') w (ks.take (e' - b)) := by
  have l1 := slice_len hl (Nat.le_trans hb he)
  have l2 := slice_len (Nat.le_trans he hl) hb
  have lk := a.len
  have at1 : ∀ i, i < e' - b → at_ (slice ts b e') i = at_ (slice ts b e) i := fun i hi => by rw [slice_at hi, slice_at (by omega)]
  have at2 : ∀ i, i < e' - b → at_ (ks.take (e' - b)) i = at_ ks i := fun i hi => by
    unfold at_
    rw [List.getD_eq_getElem?_getD, List.getD_eq_getElem?_getD, List.getElem?_take_of_lt hi]
  refine ⟨fun i k hk => ?_, by rw [List.length_take]; omega, fun i j hi hj => ?_⟩
  · by_cases c : i < e' - b
    · rw [List.getElem?_take_of_lt c] at hk
      exact a.rd i k hk
    · rw [List.getElem?_eq_none (by rw [List.length_take]; omega)] at hk
      cases hk
  · have h := a.no i j (by omega) (by omega)
    unfold askF askT askB at h ⊢
    rw [at1 i (by omega), at1 j (by omega), at2 i (by omega), at2 j (by omega)]
    exact h
theorem Piece.one {ts : List Int} {w : Fr} {b e e' : Nat} {ks ks' : List Int} (p : Piece ts w b e ks) (q : Piece ts w b e' ks') : e = e' ∧ ks = ks' := by
  have al : ∀ {e ks}, Piece ts w b e ks → Allowed b (slice ts b e) w ks := fun p => by
    obtain ⟨f, l, ob⟩ := p.near
    exact ((ob.iff (f, _)).mp List.mem_cons_self).1
  have ee : e = e' := by
    rcases Nat.lt_trichotomy e e' with h | h | h
    · have a := (al q).shorter (e' := e + 1) h (by have := p.lt; omega) q.le
      exact absurd a (p.max (by have := q.le; omega) _)
    · exact h
    · have a := (al p).shorter (e' := e' + 1) h (by have := q.lt; omega) p.le
      exact absurd a (q.max (by have := p.le; omega) _)
  subst ee
  obtain ⟨f, l, ob⟩ := p.near
  obtain ⟨g, m, ob'⟩ := q.near
  have h := ob.uniq ob'
  cases h
  exact ⟨rfl, rfl⟩
end KT

/-! What the laws over readings share. -/
namespace KT
open PySem PySem.Spec PyProof.Rows L2
def spLaw (K : PySem.W.Frag) : Sp := fun vs H Q _ => ∃ (a : Addr) (ns : List Int), vs = [.ref a] ∧ SqL K H a (ns.map V.int) ∧ ns.length ≤ 63 ∧ ∀ H', Q (.bl true) H'
theorem TapsAt.kp {C d : Addr} {H H' : Hp} {x l : Addr} {ts : List Int} (h : TapsAt C H x l ts) (k : Kp d H H') (nx : x ≠ d) (nl : l ≠ d) : TapsAt C H' x l ts := by
  obtain ⟨⟨dx, e1⟩, e2⟩ := h
  exact ⟨⟨dx, k _ _ nx e1⟩, k _ _ nl e2⟩
theorem sub_hid {D : Addr} {H1 H : Hp} (n : H1 D = none) (s : Same H1 H) : Same H1 (hid D H) := fun b o e => by
  rw [hid_ne (ne_of_none e n)]
  exact s _ _ e
theorem DpAll.snoc {K : PySem.W.Frag} {H : Hp} {v : V} {d : PyData} (h : Dp K H v d) : ∀ {vs : List V} {ds : List PyData}, DpAll K H vs ds → DpAll K H (vs ++ [v]) (ds ++ [d])
  | _, _, .nil => .cons h .nil
  | _, _, .cons a t => .cons a (DpAll.snoc h t)
/-! ### data of readings -/
def frD (f : Fr) : PyData := .tuple [.int f.1, .int f.2]
def elR (e : El) : PyData := .tuple [rowD e.2, frD e.1]
theorem dp_row {K : PySem.W.Frag} {H : Hp} {r : Addr} {ks : List Int} (h : SqL K H r (ks.map V.int)) : Dp K H (.ref r) (rowD ks) := dp_ints h
theorem dp_fr {K : PySem.W.Frag} {H : Hp} {p : Addr} {f : Fr} (h : SqT K H p (frV f)) : Dp K H (.ref p) (frD f) := .tup h (.cons (.int _) (.cons (.int _) .nil))
theorem dp_elR {K : PySem.W.Frag} {H : Hp} {T r q : Addr} {e : El} (t : SqT K H T [.ref r, .ref q]) (hr : Dp K H (.ref r) (rowD e.2)) (hq : Dp K H (.ref q) (frD e.1)) : Dp K H (.ref T) (elR e) := .tup t (.cons hr (.cons hq .nil))
theorem ElsN.dp {K : PySem.W.Frag} {H H' : Hp} : ∀ {vs : List V} {l : List El}, ElsN H H' vs l → DpAll K H' vs (l.map elR)
  | [], [], _ => .nil
  | [], r :: rs, h => by cases h.1
  | x :: xs, [], h => by cases h.1
  | x :: xs, e :: l, h => by
    obtain ⟨T, r, q, g1, _, g2, g3, g4⟩ := h.2 0 e rfl
    cases g1
    exact .cons (dp_elR (SqT.of g2) (dp_row (SqL.of g3)) (dp_fr (SqT.of g4))) (ElsN.dp ⟨Nat.succ.inj h.1, fun i ks e => h.2 (i + 1) ks e⟩)
theorem dok_int (n : Nat) (i : Int) : dOk (n + 1) (.int i) := True.intro
theorem dok_row {n : Nat} {ks : List Int} (h : ks.length ≤ 1000000) : dOk (n + 2) (rowD ks) := by
  refine ⟨by rw [List.length_map]; exact h, fun d hd => ?_⟩
  obtain ⟨i, _, rfl⟩ := List.mem_map.mp hd
  exact True.intro
theorem dok_fr (n : Nat) (f : Fr) : dOk (n + 2) (frD f) := by
  refine ⟨by show 2 ≤ 1000000; decide, fun d hd => ?_⟩
  simp only [List.mem_cons, List.not_mem_nil, or_false] at hd
  rcases hd with rfl | rfl <;> exact True.intro
theorem dok_el {n : Nat} {e : El} (h : e.2.length ≤ 1000000) : dOk (n + 3) (elR e) := by
  refine ⟨by show 2 ≤ 1000000; decide, fun d hd => ?_⟩
  simp only [List.mem_cons, List.not_mem_nil, or_false] at hd
  rcases hd with rfl | rfl
  · exact dok_row h
  · exact dok_fr _ _
theorem dok_els {n : Nat} {l : List El} (hl : l.length ≤ 1000000) (h : ∀ e ∈ l, e.2.length ≤ 1000000) : dOk (n + 4) (.list (l.map elR)) := by
  refine ⟨by rw [List.length_map]; exact hl, fun d hd => ?_⟩
  obtain ⟨e, he, rfl⟩ := List.mem_map.mp hd
  exact dok_el (h e he)
theorem below_of {f w : Fr} (h : WOk f) (W : Wid w) (z : leF f w) : f.1 < f.2 := by
  have p := W.lt
  have q := W.pos
  have b := h.b0
  have z' : f.1 * w.2 ≤ w.1 * f.2 := z
  have z2 : w.1 * f.2 < w.2 * f.2 := Int.mul_lt_mul_of_pos_right p b
  have z3 : f.1 * w.2 < f.2 * w.2 := by
    rw [Int.mul_comm f.2 w.2]
    exact Int.lt_of_le_of_lt z' z2
  exact Int.lt_of_mul_lt_mul_right z3 (Int.le_of_lt q)
/-- a width keeps it -/
def keepE (w : Fr) (e : El) : Bool := !decide (w.1 * e.1.2 < e.1.1 * w.2)
theorem keepE_iff {w : Fr} {e : El} : keepE w e = true ↔ leF e.1 w := by
  unfold keepE leF
  rw [Bool.not_eq_true', decide_eq_false_iff_not]
  exact Int.not_lt
end KT

/-! Own rules: lists walked while an error is handled. -/
namespace KT
open PySem PySem.Spec PyProof.Rows
theorem listEndHot {prog : Program} {w : World} {A : Around} {E : Value → Shared → Prop} {s : Shared} {it l x1 : Addr} {i : Nat} {items : Array Value} {Q : Option Value → Shared → Prop} (hot : HotX.HotAt A x1 s.heap) (hit : Heap.IsListIter s.heap it l i)
    (hl : Heap.IsList s.heap l items) (hx : items[i]? = none) (hQ : ∀ h' : Heap, (∀ (b : Addr) (o : Obj), b ≠ it → s.heap.get? b = some o → h'.get? b = some o) → Q none { heap := h', gens := s.gens, drawn := s.drawn, toks := s.toks, os := s.os }) :
    wpAny (model prog w) A (pyNext (Value.ref it)) Q E s := by
  obtain ⟨o, ho, hc, hd⟩ := id hit
  obtain ⟨ol, hol, _, nl, hdl⟩ := hl
  obtain ⟨hh, o1, vs1, h1, d1, c1⟩ := hot
  have nx : it ≠ x1 := fun z => by
    rw [← z, ho] at h1
    cases h1
    rw [hd] at d1
    cases d1
    cases c1
  refine wpAny_bind (wpAny_attempt (wpAny_callSpecial?_slot hit.typeIs slot_listiter_next (wpAny_call_entry slot_listiter_next hit.typeIs entry_listiter_next ?_ (args_listiter_next (Value.ref it)))))
  refine wpAny_bind ?_
  unfold slotArgs
  refine wpAny_ite_false rfl (wpAny_ite_false rfl (wpAny_pure ?_))
  refine wpAny_bind (wpAny_field ho hd rfl ?_)
  refine wpAny_ite_false rfl (wpAny_bind (wpAny_field ho hd rfl (wpAny_bind (wpAny_seqItems hol hdl ?_))))
  have e1 : items[Int.toNat (i : Int)]? = none := by
    rw [Int.toNat_natCast]
    exact hx
  show wpAny _ _ (match items[Int.toNat (i : Int)]? with | some x => _ | none => _) _ _ _
  rw [e1]
  refine wpAny_bind (wpAny_rule (wpAny_bind (wpAny_setField ho hd (by show 0 < 2; decide) ?_)))
  have h1' : (Heap.update s.heap it (Obj.mapFields fun x => Array.setIfInBounds x 0 Value.none)).get? x1 = some o1 := by
    rw [Heap.get?_update_other _ _ nx]
    exact h1
  refine wpAny_bind ?_
  unfold newExc
  refine wpAny_bind (wpAny_newObj_type (wpAny_bind (wpAny_of_eq rfl (wpAny_newObj_type ?_ ?_))) ?_)
  · refine HotX.raiseNew_hot ⟨hh, o1, vs1, Heap.get?_push_of_some _ (Heap.get?_push_of_some _ h1'), d1, c1⟩ (Nat.ne_of_lt (Heap.lt_size (Heap.get?_push_of_some _ h1'))) (Heap.get?_push_size _ rfl) rfl ?_ ?_
    · rw [Array.size_append]
      exact Nat.lt_of_lt_of_le (by show 2 < 6; decide) (Nat.le_add_right _ _)
    · refine wpAny_bind (wpAny_isInstance ⟨_, Heap.get?_update_self _ (Heap.get?_push_size _ rfl) rfl, rfl⟩ isSubtype_stop (wpAny_pure (hQ _ fun b u nb e => ?_)))
      have e0 : (Heap.update s.heap it (Obj.mapFields fun x => Array.setIfInBounds x 0 Value.none)).get? b = some u := by
        rw [Heap.get?_update_other _ _ nb.symm]
        exact e
      have e2 := Heap.get?_push_of_some { cls := Value.type "tuple", data := Data.seq #[] } e0
      rw [Heap.get?_update_other _ _ (Nat.ne_of_gt (Heap.lt_size e2))]
      exact Heap.get?_push_of_some _ e2
  · exact sizeOk_excFields _ _ _ _ _ _ _ _
  · exact Nat.zero_le _
theorem turn_listH {P : Program} {w : World} {K : PySem.W.Frag} {tg : Expr} (a it : Addr) : L2H.TurnH P w K tg (L2.Itl K a) [it] it fun i h => Heap.IsListIter h it a i where
  mem := List.mem_singleton.mpr rfl
  obj := (L2.turn_list (P := P) (w := w) (K := K) (tg := tg) a it).obj
  keep := (L2.turn_list (P := P) (w := w) (K := K) (tg := tg) a it).keep
  self := (L2.turn_list (P := P) (w := w) (K := K) (tg := tg) a it).self
  item := by
    intro X hP hw hK hc i pins s σ H E I hf st hg
    subst hP hw hK
    obtain ⟨xs, x, hq, hx⟩ := hg
    obtain ⟨its, rv, p, hz⟩ := I.list hq
    obtain ⟨u, hu, ru⟩ := L2.Vals.get rv hx
    obtain ⟨f0, f1, f2, f3, f4, f5⟩ := hf it (List.mem_singleton.mpr rfl)
    refine wpAny_pyNext_list_item st (PlainL.isList p) (by rw [List.getElem?_toArray]; exact hu) fun h' st' sb => ?_
    have I1 := L2.Inv.turned (t' := s.toks) I (fun b o hb e => (sb.right b hb).trans e) f0 f1 f3 f4 f5
    obtain ⟨o, e, c, d⟩ := id st'
    refine ⟨u, rfl, L2.go_of e c d (by decide) ⟨x, H, I1, ru, ⟨rfl, fun ys hy => ?_⟩, st', fun b hb => (hf b hb).1⟩⟩
    rw [L2.Inv.list_inj I hy hq]
    exact hx
  done := by
    intro X hP hw hK hc i pins s σ H E I hf st hg
    subst hP hw hK
    obtain ⟨xs, hq, hx⟩ := hg
    obtain ⟨its, rv, p, hz⟩ := I.list hq
    obtain ⟨f0, f1, f2, f3, f4, f5⟩ := hf it (List.mem_singleton.mpr rfl)
    have hl := L2.Vals.length rv
    obtain ⟨x1, hot⟩ := L2H.HotC.at hc I
    refine listEndHot hot st (PlainL.isList p) (by rw [List.getElem?_toArray]; exact List.getElem?_eq_none (by omega)) fun h' eb => ⟨rfl, L2.Inv.turned I (fun b o hb e => eb b o hb e) f0 f1 f3 f4 f5⟩
theorem pi_listH {X : L2.Cx} {tg l : Expr} {tl : L2.TE} (hl : L2.PE X l tl) : L2H.PIH X tg l (L2.iList X.K tl) where
  run := by
    intro pins s σ H R I h
    refine L2.thn (hl.run pins s σ H _ I h) fun v s1 ⟨x, H1, I1, r1, a, e, ⟨xs, hq⟩, q⟩ => ?_
    subst e
    cases r1
    obtain ⟨its, rv, p, hz⟩ := I1.list hq
    refine wpAny_pyIter_list (PlainL.isList p) ⟨s1.heap.objs.size, [s1.heap.objs.size], fun i h => Heap.IsListIter h s1.heap.objs.size a i, L2.Itl X.K a, H1, rfl, L2.Inv.kept I1 (fun b o e => Heap.get?_push_of_some _ e), turn_listH a _, ⟨_, Heap.get?_push_size s1.1 rfl, rfl, rfl⟩, fun b hb => ?_, q⟩
    rw [List.mem_singleton.mp hb]
    exact L2.Inv.fpOk I1 (Nat.le_refl _) (L2.HOk.fresh I1.hok (Nat.le_refl _))
end KT

/-! Own rules: list comprehensions and `all` while an error is handled. -/
namespace KT
open PySem PySem.Spec PyProof.Rows L2
/-- a comprehension's block that bears the pins of its def -/
abbrev blkH (X : Cx) (s : Shared) (H : Hp) (scope : Scope) (cenv : Env) (fp : List Addr) : Cx := { X.blk s H scope cenv fp with pn := X.pn }
theorem ok_blkH {X : Cx} {s : Shared} {H : Hp} {scope : Scope} {cenv : Env} {fp : List Addr} (o : (X.blk s H scope cenv fp).Ok) : (blkH X s H scope cenv fp).Ok :=
  ⟨o.mod, o.kind, o.glob, o.blt, o.above, o.inj, o.has, o.cab, o.hd, o.frames, o.stk, o.exf, o.bs, o.bsz, o.noex, o.exfs, o.funs, o.frf⟩
theorem hot_blk {X : Cx} {s : Shared} {H : Hp} {scope : Scope} {cenv : Env} {fp : List Addr} (h : L2H.HotC X) : L2H.HotC (blkH X s H scope cenv fp) := h
theorem start_blkH {X : Cx} {pins : List (Addr × Obj)} {σ : L2.St} {H : Hp} {s : Shared} {scope : Scope} {own : List (Str × Nat)} {fp : List Addr} (I : Inv X pins σ H s) (ok : BlkOk X.N X.env.scope scope own) (hN : X.N.Nodup) (hfp : ∀ b ∈ fp, FpOk X pins H b ∧ b < s.heap.objs.size) :
    Inv (blkH X s H scope (compEnvC scope (cellsFrom (s.heap.objs.size + 1) scope.names (cloFrom X.env.cells scope.names [])) s.heap.objs.size X.env) fp) [] (wipe σ (own.map (·.2))) H { s with heap := pushCells (s.heap.push { cls := .type "dict", data := .dict #[] }) scope.names } := by
  have B := block_start I ok hN hfp
  refine ⟨ok_blkH B.ok, B.os, B.bare, B.base, B.loc, B.cell, B.free, B.freeC, fun p hp => ?_, B.hok, B.len⟩
  have hp' : p ∈ X.pn := by simpa using (show p ∈ X.pn ++ [] from hp)
  obtain ⟨g1, g2, g3, g4, g5⟩ := I.pin p (List.mem_append_left _ hp')
  refine ⟨pushCells_keeps _ _ _ _ (Heap.get?_push_of_some _ g1), g2, Nat.ne_of_lt (Heap.lt_size g1), fun z => ?_, g5⟩
  rcases List.mem_cons.mp (I.stkSub p.1 z) with z | z
  · exact g3 z
  · exact g4 z
/-- the rules of a comprehension's parts, in the block's context -/
structure LcH (X : Cx) (tg elt : Expr) (ifs : List Expr) (scope : Scope) (g : TG) (tt : TT) (te : TE) : Prop where
  tg : ∀ (s : Shared) (H : Hp) (C : Addr) (cl : List (Str × Addr)) (fp : List Addr), PG (blkH X s H scope (compEnvC scope cl C X.env) fp) tg g
  ifs : ∀ (s : Shared) (H : Hp) (C : Addr) (cl : List (Str × Addr)) (fp : List Addr), PTs (blkH X s H scope (compEnvC scope cl C X.env) fp) ifs tt
  elt : ∀ (s : Shared) (H : Hp) (C : Addr) (cl : List (Str × Addr)) (fp : List Addr), PE (blkH X s H scope (compEnvC scope cl C X.env) fp) elt te
/-- the state between two turns -/
def LcSt (X : Cx) (s3 : Shared) (H3 : Hp) (scope : Scope) (ce : Env) (fp : List Addr) (σ : L2.St) (tn : Nat → Heap → Prop) (W : Nat → Nat → Hp → Prop) (n : Nat) (s : Shared) : Prop :=
  ∃ i H, Inv (blkH X s3 H3 scope ce fp) [] σ H s ∧ tn i s.heap ∧ (∀ b ∈ fp, H b = none) ∧ W i n H
theorem lc_turns {X : Cx} {s3 s4 : Shared} {H3 : Hp} {scope : Scope} {ce : Env} {fp : List Addr} {σ : L2.St} {tn : Nat → Heap → Prop} {W : Nat → Nat → Hp → Prop} {elt tg iter : Expr} {ifs : List Expr} {pos : Pos} {g : TG} {tt : TT} {te : TE} {J : It} {it D : Addr} {R : Result → Shared → Prop} {Qd : Hp → Prop} {m0 : Nat} {vs : List Nat}
    (hc : L2H.HotC X) (T : L2H.TurnH X.prog X.w X.K tg J fp it tn) (fpo : ∀ (H' : Hp) (s' : Shared) (σ' : L2.St), Inv (blkH X s3 H3 scope ce fp) [] σ' H' s' → (∀ b ∈ fp, H' b = none) → ∀ b ∈ fp, FpOk (blkH X s3 H3 scope ce fp) [] H' b)
    (pg : PG (blkH X s3 H3 scope ce fp) tg g) (pt : PTs (blkH X s3 H3 scope ce fp) ifs tt) (pe : PE (blkH X s3 H3 scope ce fp) elt te)
    (turn : ∀ i m H, W i m H → (J.stop i H ∧ Qd H) ∨ (J.go i H ∧ ∃ Nx : Hp → Prop, (∀ H', Nx H' → ∃ m', m' < m ∧ W (i + 1) m' H') ∧ ∀ x H', J.yld i H x H' → g x (wipe σ vs) H' fun σ2 H2 => wipe σ2 vs = wipe σ vs ∧ tt σ2 H2 fun b H3 =>
      if b = true then te σ2 H3 fun y H4 => ∃ acc, H4 D = some (.lst acc) ∧ acc.length < sizeLine ∧ Nx (upd H4 D (.lst (acc ++ [y]))) else Nx H3))
    (end_ : ∀ (s' : Shared) (H' : Hp), Inv (blkH X s3 H3 scope ce fp) [] (wipe σ vs) H' s' → Qd H' → R (.ok .next) s')
    (st0 : LcSt X s3 H3 scope ce fp (wipe σ vs) tn W m0 s4) :
    codeAny (model X.prog X.w) X.A (.compLoop (.ListComp elt [⟨tg, iter, ifs, 0⟩] scope pos) 0 (.ref it) (.ref D) ce) R s4 := by
  refine compLoop_any (LcSt X s3 H3 scope ce fp (wipe σ vs) tn W) ?_ m0 st0
  rintro n s5 ⟨i, H5, I5, st5, n5, w5⟩
  rcases turn i n H5 w5 with ⟨stop, qq⟩ | ⟨go, Nx, hNx, step⟩
  · refine thnF (T.done (blkH X s3 H3 scope ce fp) rfl rfl rfl hc i [] s5 _ H5 (fun _ _ => False) I5 (fpo _ _ _ I5 n5) st5 stop) fun r s6 ⟨hr, I6⟩ => ?_
    subst hr
    exact end_ s6 H5 I6 qq
  · refine thnF (T.item (blkH X s3 H3 scope ce fp) rfl rfl rfl hc i [] s5 _ H5 (fun _ _ => False) I5 (fpo _ _ _ I5 n5) st5 go) fun r s6 ⟨u, hr, h6⟩ => ?_
    subst hr
    refine thnF h6 fun _ s7 ⟨x, H7, I7, r7, y7, st7, n7⟩ => ?_
    have ob := T.obj _ _ st7
    have I8 := I7.pinned (fpo _ _ _ I7 n7) ob
    refine thnF (pg.run _ s7 _ H7 x u _ I8 r7 (step x H7 y7)) fun _ s8 ⟨σ8, H8, I9, hw8, q8⟩ => ?_
    refine thnF (pt.run _ s8 σ8 H8 _ I9 q8) fun b s9 ⟨H9, I10, q9⟩ => ?_
    have next : ∀ {s' : Shared} {H' : Hp}, Inv (blkH X s3 H3 scope ce fp) ([] ++ pinsAt fp s7.heap) σ8 H' s' → Nx H' → ∃ m, m < n ∧ LcSt X s3 H3 scope ce fp (wipe σ vs) tn W m s' := fun {s' H'} I' nx => by
      obtain ⟨m', hm, w'⟩ := hNx H' nx
      have keeps : ∀ b ∈ fp, ∀ o, s7.heap.get? b = some o → s'.heap.get? b = some o ∧ H' b = none := fun b hb o e => by
        obtain ⟨z1, z2, _⟩ := I'.pin (b, o) (List.mem_append_right _ (List.mem_append_right _ (mem_pinsAt hb e)))
        exact ⟨z1, z2⟩
      refine ⟨m', hm, i + 1, H', ?_, T.keep _ _ _ st7 fun b hb o e => (keeps b hb o e).1, fun b hb => ?_, w'⟩
      · refine (I'.unpinned (pins := [])).weak ?_ fun j v e => ?_
        · rw [← hw8, wipe_length]
        · rw [← hw8] at e
          exact (wipe_some e).1
      · obtain ⟨o, e, _⟩ := ob b hb
        exact (keeps b hb o e).2
    cases b with
    | false =>
      rw [if_neg (by decide)] at q9
      rw [if_neg (by decide)]
      exact next I10 q9
    | true =>
      rw [if_pos rfl] at q9
      rw [if_pos rfl]
      refine thnF (pe.run _ s9 σ8 H9 _ I10 q9) fun z s10 ⟨yv, H10, I11, r10, acc, hD, hz, nx⟩ => ?_
      exact app_ok (X := blkH X s3 H3 scope ce fp) I11 hD hz r10 fun s11 I12 => next I12 nx
theorem lc_coreH {X : Cx} {pins : List (Addr × Obj)} {s : Shared} {σ : L2.St} {H : Hp} {Q : VK} {elt tg iter : Expr} {ifs : List Expr} {scope : Scope} {own : List (Str × Nat)} {pos pos' : Pos} {wi : TI} {g : TG} {tt : TT} {te : TE} {use : Option (Value → Sem Unit)} {Qf : Value → Shared → Prop}
    (hc : L2H.HotC X) (hN : X.N.Nodup) (I : Inv X pins σ H s) (hi : L2H.PIH X tg iter wi) (ok : BlkOk X.N X.env.scope scope own) (B : LcH X tg elt ifs scope g tt te) (hs : ∀ x, foldedSetIterable iter X.env x = pure x)
    (h : tLc wi g tt te (own.map (·.2)) σ H Q)
    (hRR : ∀ D C s' m H', Inv X pins σ H' s' → Q (.ref D) H' → s'.heap.Ns C m → FpOk X pins H' C → compPost (model X.prog X.w) X.A X.xe use Qf (.ref D) C (.ok .next) s') :
    wpAny (model X.prog X.w) X.A (comprehension (.ListComp elt [⟨tg, iter, ifs, 0⟩] scope pos) scope X.env pos' (newList []) false (eval iter X.env) use) Qf X.xe s := by
  have caps : ∀ y ∈ scope.names, y.2 = .free → ∃ c, X.env.cells.lookup y.1 = some c := fun y hy e => I.ok.has _ ((ok.free y hy e).imp id id)
  refine wpAny_comprehension_free (use := use) rfl hs (closure_ok caps) ok.kind (fun y hy e => by rw [ok.uniq y hy, e]) (thn (hi.run pins s σ H _ I h) fun xv s1 hx => thn hx fun itv s2 h2 => ?_)
  obtain ⟨it, fp, tn, J, H2, e, I2, T, st2, f2, q⟩ := h2
  subst e
  refine wpAny_newObj_type (newEnv_comp ?_) (by show 0 ≤ sizeLine; decide)
  obtain ⟨D, hD⟩ : ∃ D, s2.heap.objs.size = D := ⟨_, rfl⟩
  rw [hD]
  have nD : H2 D = none := I2.hok.fresh (Nat.le_of_eq hD)
  obtain ⟨W, ⟨m0, w0⟩, turn⟩ := q D nD
  obtain ⟨s3, hs3⟩ : ∃ s3 : Shared, ({ s2 with heap := s2.heap.push { cls := .type "list", data := .seq ([] : List Value).toArray } } : Shared) = s3 := ⟨_, rfl⟩
  have h3 : s3.heap = s2.heap.push { cls := .type "list", data := .seq ([] : List Value).toArray } := by rw [← hs3]
  have I3 : Inv X pins σ (upd H2 D (.lst [])) s3 := by
    rw [← hs3]
    refine I2.laid (t' := s2.toks) (fun b o e => Heap.get?_push_of_some _ e) (Nat.le_of_eq hD) ⟨Nat.zero_le _, [], 0, .nil, ?_⟩
    rw [← hD]
    exact Heap.get?_push_size _ rfl
  have f3 : ∀ b ∈ fp, FpOk X pins (upd H2 D (.lst [])) b ∧ b < s3.heap.objs.size := fun b hb => by
    obtain ⟨o, e, _⟩ := T.obj _ _ st2 b hb
    have lt := Heap.lt_size e
    obtain ⟨z1, z2⟩ := f2 b hb
    refine ⟨⟨?_, z2⟩, by rw [h3, Heap.size_push]; exact Nat.lt_succ_of_lt lt⟩
    rw [upd_ne (by rw [← hD]; exact Nat.ne_of_lt lt)]
    exact z1
  have st3 : tn 0 s3.heap := T.keep _ _ _ st2 fun b _ o e => by rw [h3]; exact Heap.get?_push_of_some _ e
  have I4 := start_blkH I3 ok hN f3
  have pg := B.tg s3 (upd H2 D (.lst [])) s3.heap.objs.size (cellsFrom (s3.heap.objs.size + 1) scope.names (cloFrom X.env.cells scope.names [])) fp
  have pt := B.ifs s3 (upd H2 D (.lst [])) s3.heap.objs.size (cellsFrom (s3.heap.objs.size + 1) scope.names (cloFrom X.env.cells scope.names [])) fp
  have pe := B.elt s3 (upd H2 D (.lst [])) s3.heap.objs.size (cellsFrom (s3.heap.objs.size + 1) scope.names (cloFrom X.env.cells scope.names [])) fp
  have hce : (compEnvC scope (cellsFrom (s3.heap.objs.size + 1) scope.names (cloFrom X.env.cells scope.names [])) s3.heap.objs.size X.env).locals = s3.heap.objs.size := rfl
  have goal : codeAny (model X.prog X.w) X.A (.compLoop (.ListComp elt [⟨tg, iter, ifs, 0⟩] scope pos) 0 (.ref it) (.ref D) (compEnvC scope (cellsFrom (s3.heap.objs.size + 1) scope.names (cloFrom X.env.cells scope.names [])) s3.heap.objs.size X.env))
      (compPost (model X.prog X.w) X.A X.xe use Qf (.ref D) s3.heap.objs.size) { s3 with heap := pushCells (s3.heap.push { cls := .type "dict", data := .dict #[] }) scope.names } := by
    refine lc_turns hc T (fun H' s' σ' I' hn b hb => ⟨hn b hb, (I'.ok.exf b hb).1, I'.ok.exfs b hb, .inl hb, fun x c e => (I'.ok.exf b hb).2 x c e, fun p hp => ?_⟩) pg pt pe turn (fun s' H' I6 qq => ?_)
      ⟨0, _, I4, T.keep _ _ _ st3 fun b _ o e => pushCells_keeps _ _ _ _ (Heap.get?_push_of_some _ e), fun b hb => (f3 b hb).1.1, w0⟩
    · have hp' : p ∈ X.pn := by simpa using (show p ∈ X.pn ++ [] from hp)
      exact (f3 b hb).1.2.2.2.2.2 p (List.mem_append_left _ hp')
    · have I7 : Inv X pins σ H' s' := I3.call' (ch := fp) I6.os I6.base I6.hok I6.bare fun b hb => by
        obtain ⟨z0, z1, z2, z3, z4, z5⟩ := (f3 b hb).1
        exact ⟨z3, z1, z4, z5⟩
      obtain ⟨m, hn, _⟩ := I6.loc
      exact hRR D s3.heap.objs.size s' m H' I7 qq hn (I3.fpOk (Nat.le_refl _) I6.free)
  have st4 : tn 0 ({ s3 with heap := pushCells (s3.heap.push { cls := .type "dict", data := .dict #[] }) scope.names } : Shared).heap := T.keep _ _ _ st3 fun b _ o e => pushCells_keeps _ _ _ _ (Heap.get?_push_of_some _ e)
  subst hs3
  exact codeAny_compStart_list goal (T.self X.A 0 _ _ _ st4 goal)
/-- as a value -/
theorem pe_lcH {X : Cx} {elt tg iter : Expr} {ifs : List Expr} {scope : Scope} {own : List (Str × Nat)} {pos : Pos} {wi : TI} {g : TG} {tt : TT} {te : TE} (hc : L2H.HotC X) (hN : X.N.Nodup) (hi : L2H.PIH X tg iter wi) (ok : BlkOk X.N X.env.scope scope own)
    (B : LcH X tg elt ifs scope g tt te) (hs : ∀ x, foldedSetIterable iter X.env x = pure x := by intro _; rfl) : PE X (.ListComp elt [⟨tg, iter, ifs, 0⟩] scope pos) (tLc wi g tt te (own.map (·.2))) := by
  refine ⟨fun pins s σ H Q I h => ?_⟩
  rw [eval_ListComp]
  refine lc_coreH hc hN I hi ok B hs h fun D C s' m H' I' q hn f => ⟨m, hn, fun h'' sb => ?_⟩
  obtain ⟨f0, f1, f2, f3, f4, f5⟩ := f
  exact ⟨.ref D, H', I'.turned (t' := s'.toks) (fun b o hb e => (sb.2 b hb).trans e) f0 f1 f3 f4 f5, rfl, q⟩
/-! ### all -/
theorem walks_hot {prog : Program} {w : World} {A : Around} {I ax x1 : Addr} (hne : ax ≠ I) (hx : x1 ≠ I) (items : Array Value) :
    Walks prog w A I [I, ax, x1] [I] items.size (fun i v => items[i]? = some v) (fun i h => h.IsListIter I ax i ∧ h.IsList ax items ∧ HotX.HotAt A x1 h) where
  sub := fun b hb => by
    rw [List.mem_singleton.mp hb]
    exact List.mem_cons_self
  frame := fun _ _ _ st hk => by
    obtain ⟨a, b, c, o, vs, d, e⟩ := st
    exact ⟨a.at fun o e => hk I (by simp) o e, b.at fun o e => hk ax (by simp) o e, c, o, vs, hk x1 (by simp) _ d, e⟩
  item := fun i s Q E hi st hQ => by
    obtain ⟨a, b, c, o, vs, d, e⟩ := st
    refine wpAny_pyNext_list_item a b (x := items[i]) (by simp [hi]) fun h' hit' hs' => ?_
    exact hQ _ h' s.toks (by simp [hi]) ⟨hit', b.extBut hs'.extBut hne, c, o, vs, (hs'.2 x1 hx).trans d, e⟩ fun b o hb e => hs'.extBut b o (fun h => hb (by simp [h])) e
  done := fun s Q E st hQ => by
    obtain ⟨a, b, c⟩ := st
    exact listEndHot c a b (by simp) fun h' he' => hQ h' s.toks fun b o hb e => he' b o (fun h => hb (by simp [h])) e
  self := fun _ _ _ _ st hQ => wpAny_pyIter_listiter st.1 hQ
theorem cr_allH {X : Cx} {K : PySem.W.Frag} (hc : L2H.HotC X) (hK : X.K = K) : CallR X (.builtin "all") (rAll K) := by
  subst hK
  intro pins s σ H vs us Q I r h
  obtain ⟨a, bs, rfl, hs, q⟩ := h
  obtain ⟨its, rv, hl, _⟩ := I.list hs
  rw [Vals.ref1 r]
  have hb := rv.bls
  obtain ⟨x1, hot⟩ := hc.at I
  obtain ⟨g1, o, vs, g2, g3⟩ := hot
  refine call_all_walk (iter_any hl.isList fun s₂ e2 st hne => ?_)
  subst e2
  have hx1 : x1 ≠ s.heap.objs.size := Nat.ne_of_lt (Heap.lt_size g2)
  refine ⟨_, _, _, _, _, _, _, rfl, walks_hot (A := X.A.in1) hne hx1 its.toArray, ⟨st.1, st.2, g1, o, vs, Heap.get?_push_of_some _ g2, g3⟩, truth_bools hb, fun h' tk hk => ?_⟩
  refine ⟨.bl _, H, I.kept fun b o eo => hk b o (fun hmem => ?_) (Heap.get?_push_of_some _ eo), ?_, q⟩
  · rcases List.mem_cons.mp hmem with e1 | hmem
    · exact absurd (e1 ▸ Heap.lt_size eo) (Nat.lt_irrefl _)
    · cases hmem
  · show Value.bool _ = Value.bool _
    rw [← L2.all_range, hb, List.size_toArray, List.length_map]
end KT

/-! Own rules: defs called while the error p is handled; the error asked there; errors with an own __init__. -/
namespace KT
open PySem PySem.Spec PyProof.Rows L2
/-- p is the error that is handled -/
def HotP (X : Cx) (p : Addr × Obj) : Prop := L2H.Hot1 X.A p ∧ p ∈ X.pn
theorem HotP.hot {X : Cx} {p : Addr × Obj} (h : HotP X p) : L2H.HotC X := ⟨p, h.1, h.2⟩
/-- what a def promises where p is handled -/
structure FnP (P : Program) (w : World) (K : PySem.W.Frag) (mg : Str → Option Value) (base : Heap) (p : Addr × Obj) (k : Nat) (f : Addr) (fd : FuncData) (ps : List Str) (sp : Sp) : Prop where
  len : ∀ vs H Q E, sp vs H Q E → vs.length = ps.length
  run : ∀ (A : Around) (outer : List Env) (s : Shared) (H : Hp) (args : Args) (us : List Value) (vs : List V) (Q : VK) (E : XK), L2H.RoomH k A → L2H.Hot1 A p → L2H.PinOk outer H s p → Env0 P w K mg base A outer s H → BindsTo s fd args (ps.zip us) → Vals vs us → sp vs H Q E →
    codeAny (model P w) A (.call (.ref f) args) (CR CX0 outer P w H s Q E) s
theorem fn_ofP {P : Program} {w : World} {K : PySem.W.Frag} {mg : Str → Option Value} {base : Heap} {p : Addr × Obj} {k : Nat} {f : Addr} {x qual : Str} {params : Arguments} {body : List Stmt} {scope : Scope} {dvs : List V} {kws : List (Str × V)} {fd : FuncData} {N ps : List Str} {sp : Sp}
    (F : FunD K x qual params body scope dvs kws f fd) (S : FnScope N ps scope) (len : ∀ vs H Q E, sp vs H Q E → vs.length = ps.length)
    (hbody : ∀ (cdv : Value) (A : Around) (outer : List Env) (s : Shared) (H : Hp) (vs : List V) (Q : VK) (E : XK), L2H.Hot1 A p → L2H.RoomH k (A.deeper (envOfC qual scope s.heap.objs.size f cdv)) → sp vs H Q E →
      ∃ t, PSs (L2H.cxH CX0 P w K mg base N qual scope f cdv A outer s H E p) body t ∧ t { nx := fun _ H' => Q .non H', rt := Q } (L2.start N vs) H) : FnP P w K mg base p (k + 1) f fd ps sp := by
  obtain ⟨oc, od, dV, kV, doc, pm, an, cdv, ct, osl, rfl, lk, hcd, _, _⟩ := F.ex
  refine ⟨len, fun A outer s H args us vs Q E hr hot pin e0 hb r hsp => ?_⟩
  have keep : ∀ b o, base.get? b = some o → s.heap.get? b = some o := fun b o e => (e0.bs b o e).1
  have kin : K.In s.heap := e0.mod.kin.keeps keep
  have lim : s.heap.NoLimit := e0.mod.nolimit.keeps keep
  have hl := len _ _ _ _ hsp
  have kinds : ∀ y ∈ ps.zip us, scope.names.lookup y.1 = some .local ∨ (scope.names.lookup y.1 = some .cell ∧ ((cellsFrom (s.heap.objs.size + 1) scope.names []).lookup y.1).isSome = true) := by
    rintro ⟨n, v⟩ hy
    rcases S.par n (List.of_mem_zip hy).1 with c | c
    · exact .inl c
    · exact .inr ⟨c, PySem.W.cellsFrom_some _ _ _ (.inl c)⟩
  refine codeAny_call_function hr.depth (kin _ _ lk) rfl S.co S.gen rfl (PySem.W.codeRec_of kin hcd) (hb _ _ _ _ (wpAny_newFunctionEnv_cells S.kind kinds fun env he s1 x => ?_))
  subst he
  refine ⟨lim.keeps x.toInCall.keep, codeAny_func ?_⟩
  obtain ⟨t, ht, q⟩ := hbody cdv A outer s H vs Q E hot (hr.deeper _) hsp
  refine wpAny_mono (ht.run [] s1 (L2.start N vs) H _ (L2H.inv_startH S pin e0 hl r x) q) (fun fl s' hs => ?_) fun e s' hs => hs
  cases fl with
  | ret u =>
    obtain ⟨v, σ', H', J, rv, q⟩ := hs
    exact ⟨v, H', J.os, J.bare, J.base, J.hok, rv, q⟩
  | next =>
    obtain ⟨σ', H', J, q⟩ := hs
    exact ⟨V.non, H', J.os, J.bare, J.base, J.hok, rfl, q⟩
  | brk =>
    obtain ⟨_, _, _, q⟩ := hs
    exact False.elim q
  | cont =>
    obtain ⟨_, _, _, q⟩ := hs
    exact False.elim q
structure KDefP (P : Program) (w : World) (K : PySem.W.Frag) (mg : Str → Option Value) (base : Heap) (p : Addr × Obj) (k : Nat) (x : Str) (ps : List Str) (sp : Sp) : Prop where
  ex : ∃ (f : Addr) (fd : FuncData), mg x = some (.ref f) ∧ PySem.W.keepIn K (.ref f) = true ∧ Binds K fd ps [] ∧ FnP P w K mg base p k f fd ps sp
theorem Src.okP {P : Program} {w : World} {K : PySem.W.Frag} {mg : Str → Option Value} {base : Heap} {p : Addr × Obj} {x : Str} {st : Stmt} {N ps : List Str} {k : Nat} {sp : Sp} (S : Src K mg x st) (sc : FnScope N ps (defScope st))
    (hb : ∀ (kV doc pm : Value) (an : Option Addr) (cdv ct : Value) (us : List Value), us.length = ps.length → bindArgs (PySem.W.fnOf x x (defArgs st) (defBody st) (defScope st) .none kV doc pm an cdv ct) ⟨us, []⟩ = pure (ps.zip us))
    (len : ∀ vs H Q E, sp vs H Q E → vs.length = ps.length)
    (hbody : ∀ (f : Addr) (cdv : Value) (A : Around) (outer : List Env) (s : Shared) (H : Hp) (vs : List V) (Q : VK) (E : XK), L2H.Hot1 A p → L2H.RoomH k (A.deeper (envOfC x (defScope st) s.heap.objs.size f cdv)) → sp vs H Q E →
      ∃ t, PSs (L2H.cxH CX0 P w K mg base N x (defScope st) f cdv A outer s H E p) (defBody st) t ∧ t { nx := fun _ H' => Q .non H', rt := Q } (start N vs) H) : KDefP P w K mg base p (k + 1) x ps sp := by
  obtain ⟨f, fd, hm, F⟩ := S.ex
  exact ⟨f, fd, hm, F.kp, F.bindsN hb, fn_ofP F sc len fun cdv A outer s H vs Q E hot hr h => hbody f cdv A outer s H vs Q E hot hr h⟩
theorem KDefP.none {P : Program} {w : World} {K : PySem.W.Frag} {mg : Str → Option Value} {base : Heap} {p : Addr × Obj} {x : Str} {st : Stmt} {ps : List Str} {sp : Sp} (S : Src K mg x st)
    (hb : ∀ (kV doc pm : Value) (an : Option Addr) (cdv ct : Value) (us : List Value), us.length = ps.length → bindArgs (PySem.W.fnOf x x (defArgs st) (defBody st) (defScope st) .none kV doc pm an cdv ct) ⟨us, []⟩ = pure (ps.zip us))
    (no : ∀ vs H Q E, ¬ sp vs H Q E) : KDefP P w K mg base p 0 x ps sp := by
  obtain ⟨f, fd, hm, F⟩ := S.ex
  exact ⟨f, fd, hm, F.kp, F.bindsN hb, fun vs H Q E h => (no _ _ _ _ h).elim, fun _ _ _ _ _ _ _ _ _ _ _ _ _ _ _ h => (no _ _ _ _ h).elim⟩
theorem pe_callP {X : Cx} {pe : Addr × Obj} {k : Nat} {x : Str} {ps : List Str} {sp : Sp} {e : Expr} {es : List Expr} {t : TA} {p pos : Pos} (D : KDefP X.prog X.w X.K X.mg X.base pe k x ps sp) (hp : HotP X pe) (hr : L2H.RoomH k X.A) (hg : Gl X x) (ha : PA X (e :: es) t) (hdb : (x == ("__debug__" : Str)) = false := by decide)
    (he : starEach (e :: es) X.env = (false, eval e X.env) :: starEach es X.env := by rfl) (hpl : (backTo pos (starEach es X.env)).any (·.1) = false := by rfl) :
    PE X (.Call (.Name x p) (e :: es) [] pos) (tCallS sp (fun _ => E0) t) := by
  obtain ⟨f, fd, hm, hk, hb, F⟩ := D.ex
  refine ⟨fun pins s σ H Q I h => ?_⟩
  refine wpAny_Call_Name_kw (ld_glob I hg hm ?_ hdb)
  refine PySem.W.callWith_K (h₀ := X.base) I.ok.mod.kin hk (thn (ha.run pos pins s σ H _ I h) fun us s1 ⟨vs, H1, I1, r, q⟩ => ⟨I1.kIn, ?_⟩) he hpl
  have P1 := I1.pin pe (List.mem_append_left _ hp.2)
  have pin : L2H.PinOk X.stack H1 s1 pe := ⟨P1.1, P1.2.1, fun hm => (List.mem_cons.mp (I1.stkSub pe.1 hm)).elim P1.2.2.1 P1.2.2.2.1, P1.2.2.2.2⟩
  have b := hb s1 us I1.kIn (by rw [List.append_nil, ← r.length]; exact F.len _ _ _ _ q)
  rw [List.append_nil] at b
  refine wpAny_call (codeAny_mono (F.run X.A X.stack s1 H1 ⟨us, []⟩ us vs Q _ hr hp.1 pin I1.env0 b r q) fun r s' hq => ?_)
  cases r with
  | error e => exact False.elim hq
  | ok fl =>
    cases fl with
    | ret u => exact I1.after hq
    | next => exact False.elim hq
    | brk => exact False.elim hq
    | cont => exact False.elim hq
theorem unitsH {k : Nat} {A : Around} (h : L2H.RoomH k A) : A.units + 64 < cLine := by
  have := h.un
  omega
end KT

/-! Own rules: isinstance of the handled error, whether it has fields or not. -/
namespace KT
open PySem PySem.Spec PySem.Calls PyProof.Rows PySem.W
theorem find_class {K : Frag} {C : Addr} {od : Option Obj} {name : Str} {a g : Value} (hc : (clsIn K C).isSome = true) (ha : findIn K (.ref C) name = some (some a)) (hg : specialIn K a "__get__" = some (some g)) (ht : takesIn K a = some true) : findObj K C od name = some (.bind g a) := by
  obtain ⟨cd, hc⟩ := Option.isSome_iff_exists.mp hc
  unfold findObj
  rw [hc, Option.bind_some, ha, Option.bind_some]
  simp [hg, ht]
/-- e.__class__, whatever fields e has -/
theorem class_exc {prog : Program} {w : World} {A : Around} {E : Value → Shared → Prop} {s : Shared} {K : Frag} {x D : Addr} {ox : Obj} {od : Option Obj} {Q : Option Value → Shared → Prop} (C : L2.ExcC K D) (X : K.In s.heap) (I : InstAt s.heap x ox D od)
    (h : Q (some (.ref D)) { s with toks := s.toks + 1 }) : wpAny (model prog w) A (getAttr? (.ref x) "__class__") Q E s := by
  have hf : findObj K D od "__class__" = some (.bind (.builtin "getset_descriptor.__get__") (.builtin "object.__class__")) := find_class (by obtain ⟨cd, hc, _⟩ := any_some C.hd; rw [hc]; rfl) C.ha C.hn C.ht
  obtain ⟨hp, g, d, t, os⟩ := s
  have ty := I.type (M := model prog w)
  have ga := looks_findIn (M := model prog w) X C.hg
  have gt := looks_findIn (M := model prog w) X C.hk
  have fi := looks_find (M := model prog w) X I hf
  have sub : Looks (model prog w) hp (isInstance (.ref x) (.type "BaseException")) true := ty.andThen (looks_subIn X C.hs)
  unfold getAttr? getAttrBy? getAttrBy
  refine wpAny_bind (wpAny_mkText (wpAny_bind (wpAny_attempt (wpAny_holding (wpAny_bind (ty.at (wpAny_bind (ga.at ?_))))))))
  show wpAny _ _ (if (onTheHeap (Value.ref D) && Value.builtin "BaseException.__getattribute__" == Value.builtin "object.__getattribute__") = true then _ else _) _ _ _
  rw [if_neg (show ¬ (onTheHeap (Value.ref D) && Value.builtin "BaseException.__getattribute__" == Value.builtin "object.__getattribute__") = true by rw [Bool.and_eq_true]; exact fun z => absurd z.2 (by decide +kernel))]
  unfold getAttrByItsOwn hookBefore
  refine wpAny_bind ?_
  rw [if_pos (show onTheHeap (Value.ref D) = true from rfl)]
  refine gt.at (wpAny_bind (wpAny_attempt (wpAny_holding ?_)))
  unfold callGetattribute
  rw [if_neg (show ¬ (false && onTheHeap (Value.builtin "BaseException.__getattribute__")) = true by decide +kernel)]
  unfold boundAndCalled
  rw [PySem.F.excAttr_ValueError.ga.bind (.ref x)]
  refine wpAny_bind (wpAny_pure ?_)
  show wpAny _ _ (call (.builtin "BaseException.__getattribute__") [.ref x, .str "__class__" t]) _ _ _
  refine wpAny_call (codeAny_call_builtin PySem.F.excAttr_ValueError.ga.plain PySem.F.entry_bexc_ga ?_)
  refine @check_slot (model prog w) _ _ ⟨hp, g, d, t + 1, os⟩ "BaseException.__getattribute__" "BaseException" "__getattribute__" (.ref x) [.str "__class__" t] [] _ (by decide +kernel) (by decide +kernel) sub (PySem.F.args_bexc_ga (.ref x) (.str "__class__" t)) ?_
  unfold Builtin.«object.__getattribute__»
  refine wpAny_bind (wpAny_of_eq (a := ((Value.ref x : Value), [Value.str "__class__" t])) (by first | rfl | (simp only [slotArgs]; rfl)) ?_)
  refine wpAny_bind (wpAny_pure (wpAny_bind (ty.at (wpAny_bind (fi.at ?_)))))
  show wpAny _ _ (holding [Value.builtin "object.__class__"] (call (.builtin "getset_descriptor.__get__") [.builtin "object.__class__", .ref x, .ref D]) >>= ret) _ _ _
  refine wpAny_bind (wpAny_holding (wpAny_call (class_get (s := ⟨hp, g, d, t + 1, os⟩) (ox := ox) (od := od) X I C.hm (wpAny_pure ?_))))
  show wpAny _ _ (handedOut (.ref D)) _ _ _
  rw [handedOut_of (v := .ref D) rfl]
  first
    | exact wpAny_pure (wpAny_pure h)
    | exact wpAny_pure h
    | exact wpAny_pure (wpAny_bind (wpAny_pure (wpAny_pure h)))
theorem kit_exc {K : Frag} {x D : Addr} {ox : Obj} (C : L2.ExcC K D) : KitX K (.ref x) (.ref D) (fun h => ∃ od, InstAt h x ox D od) where
  ty := fun _ _ _ ⟨_, I⟩ => I.type
  it := fun _ _ X _ => by
    obtain ⟨cd, hc, _⟩ := any_some C.hd
    unfold clsIn at hc
    split at hc
    · rename_i ho
      intro A' Q' E' s' k q
      unfold isType loadHead
      exact wpAny_bind (wpAny_loadPart (k _ _ (X _ _ ho)) (wpAny_pure q))
    · cases hc
  ne := fun h tp dd its n sl X htp => by
    obtain ⟨cd, hc, _⟩ := any_some C.hd
    refine Bool.eq_false_iff.mpr fun q => ?_
    obtain rfl : D = tp := Value.ref.inj (beq_iff_eq.mp q)
    unfold clsIn at hc
    split at hc
    · rename_i ho
      have z := (X _ _ ho).symm.trans htp
      cases z
    · cases hc
  ca := fun X ⟨_, I⟩ k => class_exc C X I k
end KT
namespace KT
open PySem PySem.Spec PyProof.Rows L2
/-- the dict of an error stands -/
def XdAt (H : Hp) (d : Option Addr) : Prop := d = none ∨ ∃ (dx : Addr) (fs : List (Str × V)), d = some dx ∧ H dx = some (.xd fs)
theorem XdAt.same {H H' : Hp} {d : Option Addr} (h : XdAt H d) (s : Same H H') : XdAt H' d := h.imp id fun ⟨dx, fs, e, g⟩ => ⟨dx, fs, e, s _ _ g⟩
def rIsN (K : PySem.W.Frag) (D a : Addr) (d : Option Addr) : List V → Hp → VK → Prop := fun xs H Q => ∃ (c : V) (cv : Value) (b : Bool), xs = [.ref a, c] ∧ (∀ u, RelV c u → u = cv) ∧ XdAt H d ∧ PySem.W.kitOne K (.ref D) cv = some b ∧ Q (.bl b) H
theorem call_isN {X : Cx} {K : PySem.W.Frag} {a D : Addr} {oe : Obj} {d : Option Addr} (hp : (a, oe) ∈ X.pn) (hK : X.K = K) (C : ExcC K D) (hz : Zc (.ref D) d oe) (hf : ∃ vs, oe.data = .fields vs) : CallR X (.builtin "isinstance") (rIsN K D a d) := by
  subst hK
  intro pins s σ H xs us Q I r h
  obtain ⟨c, cv, b, rfl, hcv, xd, e, q⟩ := h
  cases r with
  | cons rx rr =>
    cases rr with
    | cons rt rr =>
      cases rr
      cases rx
      have ec := hcv _ rt
      subst ec
      obtain ⟨hget, _⟩ := I.pin (a, oe) (List.mem_append.mpr (.inl hp))
      obtain ⟨vs, hv⟩ := hf
      have J : ∃ od, PySem.W.InstAt s.heap a oe D od := by
        obtain ⟨oc, od, oda, osl⟩ := oe
        obtain ⟨h1, h2⟩ := hz
        dsimp only at h1 h2 hv
        subst h1 h2 hv
        rcases xd with rfl | ⟨dx, fs, rfl, g⟩
        · exact ⟨none, hget, rfl, rfl, trivial⟩
        · obtain ⟨mA, ⟨o, es, ep, ho, hr⟩, _⟩ := (show ObjOk X.prog X.w H s.heap dx (.xd fs) from I.hok dx _ g)
          exact ⟨some o, hget, rfl, rfl, ho⟩
      exact PySem.W.kia_one (kit_exc C) I.kIn J e (fun z => nomatch z) fun tk => ⟨.bl b, H, I.kept (t' := tk) fun _ _ z => z, rfl, q⟩
theorem hotP {X : Cx} {p : Addr × Obj} (h : L2H.Hot1 X.A p) (hm : X.pn = [p]) : HotP X p := ⟨h, by rw [hm]; exact List.mem_singleton.mpr rfl⟩
theorem hotC {X : Cx} {p : Addr × Obj} (h : L2H.Hot1 X.A p) (hm : X.pn = [p]) : L2H.HotC X := (hotP h hm).hot
theorem pi_listHK {X : Cx} {K : PySem.W.Frag} {tg l : Expr} {tl : TE} (h : X.K = K) (hl : PE X l tl) : L2H.PIH X tg l (iList K tl) := by subst h; exact pi_listH hl
end KT

/-! Own rules: an own error class that is made by its own __init__, which calls its base's __init__ by the base's name. -/
namespace KT
open PySem PySem.Spec PyProof.Rows L2
/-- the class at T inherits ValueError's __init__ -/
structure InhI (K : PySem.W.Frag) (T : Addr) : Prop where
  ga : PySem.W.specialIn K (.ref T) "__getattribute__" = some (some (.builtin "type.__getattribute__"))
  ty : PySem.W.typeIn K (.ref T) = some (.type "type")
  rd : PySem.W.readsIn K T (.type "type") = true
  fi : PySem.W.findCls K (.ref T) (.type "type") "__init__" = some (.val (.builtin "ValueError.__init__"))
def inhB (K : PySem.W.Frag) (T : Addr) : Bool := decide (PySem.W.specialIn K (.ref T) "__getattribute__" = some (some (.builtin "type.__getattribute__"))) && (decide (PySem.W.typeIn K (.ref T) = some (.type "type")) && (PySem.W.readsIn K T (.type "type") &&
  (match PySem.W.findCls K (.ref T) (.type "type") "__init__" with
    | some (.val (.builtin z)) => decide (z = "ValueError.__init__")
    | _ => false)))
theorem inhB_ok {K : PySem.W.Frag} {T : Addr} (h : inhB K T = true) : InhI K T := by
  unfold inhB at h
  simp only [Bool.and_eq_true] at h
  obtain ⟨h1, h2, h3, h4⟩ := h
  refine ⟨of_decide_eq_true h1, of_decide_eq_true h2, h3, ?_⟩
  split at h4
  · next z e =>
    rw [e, of_decide_eq_true h4]
  · cases h4
theorem pe_binit {X : Cx} {K : PySem.W.Frag} {x : Str} {T : Addr} {pl : Sem Bool} {e : Expr} {es : List Expr} {ta : TA} {p1 p2 pos : Pos} (hK : X.K = K) (hg : Gl X x) (hm : X.mg x = some (.ref T)) (B : InhI K T) (ha : PA X (e :: es) ta) (hdb : (x == ("__debug__" : Str)) = false := by decide)
    (hc : eval (.Call (.Attribute (.Name x p1) "__init__" p2) (e :: es) [] pos) X.env = (do
      let ov ← eval (.Name x p1) X.env
      standAt p2.atName
      let (f, first) ← holding [ov] (getMethod ov "__init__" pl)
      callWith pos f first (backTo pos (starEach (e :: es) X.env)) (backToKw pos (keywordEach [] X.env))) := by rfl)
    (he : starEach (e :: es) X.env = (false, eval e X.env) :: starEach es X.env := by rfl) (hpl : (backTo pos (starEach es X.env)).any (·.1) = false := by rfl) :
    PE X (.Call (.Attribute (.Name x p1) "__init__" p2) (e :: es) [] pos) (tVeI K ta) := by
  subst hK
  refine ⟨fun pins s σ H Q I h => ?_⟩
  refine PySem.W.methodCall_KW (ld_glob I hg hm ?_ hdb) hc
  obtain ⟨m, fr⟩ := I.fr
  refine PySem.W.method_of_cls fr I.ok.mod.kin B.ga (PySem.W.cls_val fr I.ok.mod.kin B.ty B.rd B.fi (by decide +kernel) ?_)
  show wpAny _ _ (callWith pos (Value.builtin "ValueError.__init__") [] (backTo pos (starEach (e :: es) X.env)) []) _ _ _
  refine PyProof.Rows.callWith_method1 (thn (ha.run pos pins _ σ H _ (I.tok _) h) fun us s1 ⟨vs, H1, I1, r1, a, C, ws, ev, hl, T, ea, q⟩ => ?_) he hpl
  subst ev
  cases r1 with
  | @cons _ u0 _ ur ra rw' =>
    obtain rfl : u0 = Value.ref a := ra
    exact oinit_ok T I1 ea (by rw [← Paired.length rw', sizeLine_eq]; omega) fun s' J => ⟨.non, H1, J, rfl, q⟩
/-- an own error, made; its context is None -/
theorem pmk_oexN {X : Cx} {x : Str} {e : Expr} {es : List Expr} {ta : TA} {p pos : Pos} {C fI : Addr} {k : Nat} {fd : FuncData} {ps : List Str} {sp : Sp} (T : OexC X.K C) (iC : PySem.W.findIn X.K (.ref C) "__init__" = some (some (.ref fI))) (tI : PySem.W.typeIn X.K (.ref fI) = some (.type "function"))
    (F1 : FnOk X.prog X.w X.K X.mg X.base CX0 k fI fd ps sp) (hr : Room (k + 1) X.A) (hb : Binds X.K fd ps []) (hg : Gl X x) (hm : X.mg x = some (.ref C)) (ha : PA X (e :: es) ta)
    (hdb : (x == ("__debug__" : Str)) = false := by decide) (he : starEach (e :: es) X.env = (false, eval e X.env) :: starEach es X.env := by rfl) (hpl : (backTo pos (starEach es X.env)).any (·.1) = false := by rfl) :
    L2N.PMk X (.Call (.Name x p) (e :: es) [] pos) (tMkO C sp [] ta) := by
  intro pins s σ H Q I h
  obtain ⟨nm, q, N, bs, bm, sn, sub, ab, col, dd, k0, k1, k2, k3, k5, hC, hbm⟩ := T.cls
  refine wpAny_Call_Name_kw (ld_glob I hg hm ?_ hdb)
  refine PySem.W.callWith_K (h₀ := X.base) I.ok.mod.kin T.kC (thn (ha.run pos pins s σ H _ I h) fun us s1 ⟨vs, H1, I1, r1, hz, q1⟩ => ⟨I1.kIn, ?_⟩) he hpl
  show wpAny _ _ (call (.ref C) us) _ _ _
  obtain ⟨hp, g, dr, tk, os⟩ := s1
  have le : hp.objs.size ≤ hp.objs.size + 1 := Nat.le_succ _
  have sp1 := q1 (hp.objs.size + 1) (I1.hok.fresh le)
  have kk : ∀ b o, hp.get? b = some o → ((hp.push (PySem.W.kdv_tup us)).push (PySem.HandSPX.excO C hp.objs.size)).get? b = some o := fun b o e => Heap.get?_push_of_some _ (Heap.get?_push_of_some _ e)
  have at1 : ((hp.push (PySem.W.kdv_tup us)).push (PySem.HandSPX.excO C hp.objs.size)).get? (hp.objs.size + 1) = some (PySem.HandSPX.excO C hp.objs.size) := by heap_get
  have I2 : Inv X pins σ (upd H1 (hp.objs.size + 1) (exo (hp.objs.size + 1) C none)) ⟨(hp.push (PySem.W.kdv_tup us)).push (PySem.HandSPX.excO C hp.objs.size), g, dr, tk, os⟩ := I1.laid (t' := tk) kk le (exo_ok at1)
  have r2 : Vals (V.ref (hp.objs.size + 1) :: (vs ++ [])) (Value.ref (hp.objs.size + 1) :: (us ++ [])) := .cons rfl (r1.append .nil)
  have hl : (Value.ref (hp.objs.size + 1) :: us ++ []).length = ps.length := by
    have e := r2.length
    rw [F1.len _ _ _ _ sp1] at e
    exact e.symm
  have few : us.length ≤ sizeLine := by
    rw [← Paired.length r1, sizeLine_eq]
    omega
  have bi := hb _ (Value.ref (hp.objs.size + 1) :: us) I2.kIn hl
  rw [List.cons_append] at bi
  refine wpAny_call (PySem.HandSPX.call_own F.excBase_ValueError (fun Y => PySem.HandSPX.refsVE_contains Y bm hbm) (I1.kIn _ _ hC) (PySem.W.looks_findIn I1.kIn iC) (fun self => PySem.W.bind_fn I1.kIn self tI) few
    (codeAny_mono (F1.run _ X.stack _ _ ⟨Value.ref (hp.objs.size + 1) :: us, []⟩ (Value.ref (hp.objs.size + 1) :: (us ++ [])) _ _ (fun _ _ _ => False) (hr.make C us []) (I2.env0.make C us []) bi r2 sp1) fun r s' hq => ?_))
  cases r with
  | error er => exact False.elim hq
  | ok fl =>
    cases fl with
    | ret u =>
      obtain ⟨v, H2, os2, bare2, un2, hok2, rv, ev, d, fs, ea, ed, hd1, q2⟩ := hq
      subst ev
      obtain ⟨h2, g2, d2, t2, os'⟩ := s'
      obtain ⟨t0, G, J, kG, ge, hoe, na⟩ := mk_end0 (d2 := d2) (t2 := t2) I1 le kk un2 hok2 os2 bare2 ea ed hd1
      exact ⟨rv, _, _, _, ⟨G, g2, d2, t2, os'⟩, _, .ref C, some d, rfl, J, kG, ge, hoe, ⟨rfl, rfl, fun vs z => by cases z; rfl⟩, rfl, rfl, na, rfl, bare2, raises_own T.exC T.tyC, q2⟩
    | next => exact False.elim hq
    | brk => exact False.elim hq
    | cont => exact False.elim hq
end KT

/-! Own rules: defs that raise, objects whose making raises. -/
namespace KT
open PySem PySem.Spec PyProof.Rows L2
theorem takes_noN {X : Cx} : L2N.Takes X (fun _ _ _ _ => False) := fun _ _ ⟨_, _, _, _, _, _, _, _, _, _, _, _, _, _, _, _, w⟩ => w.elim
/-- making an own error of the class x, at C, keeps sp -/
structure KExc (P : Program) (w : World) (K : PySem.W.Frag) (mg : Str → Option Value) (base : Heap) (C : Addr) (k : Nat) (x : Str) (ps : List Str) (sp : Sp) : Prop where
  ex : ∃ (fI : Addr) (fd : FuncData), mg x = some (.ref C) ∧ OexC K C ∧ PySem.W.findIn K (.ref C) "__init__" = some (some (.ref fI)) ∧ PySem.W.typeIn K (.ref fI) = some (.type "function") ∧ Binds K fd ps [] ∧ FnOk P w K mg base CX0 k fI fd ps sp
theorem pmk_D {X : Cx} {x : Str} {C : Addr} {k : Nat} {ps : List Str} {sp : Sp} {e : Expr} {es : List Expr} {ta : TA} {p pos : Pos} (D : KExc X.prog X.w X.K X.mg X.base C k x ps sp) (hr : Room (k + 1) X.A) (hg : Gl X x) (ha : PA X (e :: es) ta)
    (hdb : (x == ("__debug__" : Str)) = false := by decide) (he : starEach (e :: es) X.env = (false, eval e X.env) :: starEach es X.env := by rfl) (hpl : (backTo pos (starEach es X.env)).any (·.1) = false := by rfl) :
    L2N.PMk X (.Call (.Name x p) (e :: es) [] pos) (tMkO C sp [] ta) := by
  obtain ⟨fI, fd, hm, T, iC, tI, hb, F⟩ := D.ex
  exact pmk_oexN T iC tI F hr hb hg hm ha hdb he hpl
/-- a def that may raise -/
theorem Src.okX {P : Program} {w : World} {K : PySem.W.Frag} {mg : Str → Option Value} {base : Heap} {x : Str} {st : Stmt} {N ps : List Str} {k : Nat} {sp : Sp} (S : Src K mg x st) (sc : FnScope N ps (defScope st))
    (hb : ∀ (kV doc pm : Value) (an : Option Addr) (cdv ct : Value) (us : List Value), us.length = ps.length → bindArgs (PySem.W.fnOf x x (defArgs st) (defBody st) (defScope st) .none kV doc pm an cdv ct) ⟨us, []⟩ = pure (ps.zip us))
    (len : ∀ vs H Q E, sp vs H Q E → vs.length = ps.length)
    (hbody : ∀ (f : Addr) (cdv : Value) (A : Around) (outer : List Env) (s : Shared) (H : Hp) (vs : List V) (Q : VK) (E : XK), Room k (A.deeper (envOfC x (defScope st) s.heap.objs.size f cdv)) → sp vs H Q E →
      ∃ t, PSs (cxOf (L2N.CX P w) P w K mg base N x (defScope st) f cdv A outer s H E) (defBody st) t ∧ t { nx := fun _ H' => Q .non H', rt := Q } (start N vs) H) : KDef P w K mg base (L2N.CX P w) (k + 1) x ps sp := by
  obtain ⟨f, fd, hm, F⟩ := S.ex
  exact ⟨f, fd, hm, F.kp, F.bindsN hb, F.ok sc len fun cdv A outer s H vs Q E hr h => hbody f cdv A outer s H vs Q E hr h⟩
theorem pe_callX {X : Cx} {W : WX} {k : Nat} {x : Str} {ps : List Str} {sp : Sp} {e : Expr} {es : List Expr} {t : TA} {p pos : Pos} (D : KDef X.prog X.w X.K X.mg X.base (L2N.CX X.prog X.w) k x ps sp) (tk : L2N.Takes X W) (hr : Room k X.A) (hg : Gl X x) (ha : PA X (e :: es) t) (hdb : (x == ("__debug__" : Str)) = false := by decide)
    (he : starEach (e :: es) X.env = (false, eval e X.env) :: starEach es X.env := by rfl) (hpl : (backTo pos (starEach es X.env)).any (·.1) = false := by rfl) :
    PE X (.Call (.Name x p) (e :: es) [] pos) (tCallS sp (WE W) t) := by
  obtain ⟨f, fd, hm, hk, hb, F⟩ := D.ex
  exact pe_callS F hr hg hm hk hb (fun σ => L2N.passAt tk σ) ha hdb he hpl
/-- making an instance, where that may raise -/
def tMakeS (C : Addr) (sp : Sp) (E : L2.St → XK) (t : TA) : TE := fun σ H Q => t σ H fun vs H1 => ∀ x dx, H1 x = none → H1 dx = none → dx ≠ x →
  sp (.ref x :: vs) (upd (upd H1 dx (.own x)) x (.ins C dx [])) (fun v H2 => v = .non ∧ Q (.ref x) H2) (E σ)
theorem pe_makeX {X : Cx} {W : WX} {k : Nat} {C : Addr} {x : Str} {ps : List Str} {sp : Sp} {e : Expr} {es : List Expr} {t : TA} {p pos : Pos} (D : KMake X.prog X.w X.K X.mg X.base (L2N.CX X.prog X.w) C k x ps sp) (tk : L2N.Takes X W) (hr : Room (k + 1) X.A) (hg : Gl X x) (ha : PA X (e :: es) t) (hdb : (x == ("__debug__" : Str)) = false := by decide)
    (he : starEach (e :: es) X.env = (false, eval e X.env) :: starEach es X.env := by rfl) (hpl : (backTo pos (starEach es X.env)).any (·.1) = false := by rfl) :
    PE X (.Call (.Name x p) (e :: es) [] pos) (tMakeS C sp (WE W) t) := by
  obtain ⟨f, fd, hm, M, hb, F⟩ := D.ex
  refine ⟨fun pins s σ H Q I h => ?_⟩
  refine wpAny_Call_Name_kw (ld_glob I hg hm ?_ hdb)
  refine PySem.W.callWith_K (h₀ := X.base) I.ok.mod.kin M.kp (thn (ha.run pos pins s σ H _ I h) fun us s1 ⟨vs, H1, I1, r, q⟩ => ⟨I1.kIn, ?_⟩) he hpl
  have sp1 := q (s1.heap.objs.size + 1) s1.heap.objs.size (I1.hok.fresh (Nat.le_succ _)) (I1.hok.fresh (Nat.le_refl _)) (Nat.ne_of_lt (Nat.lt_succ_self _))
  have I2 := Inv.made (C := C) I1
  have r2 : Vals (V.ref (s1.heap.objs.size + 1) :: vs) (Value.ref (s1.heap.objs.size + 1) :: us) := .cons rfl r
  have hl : (Value.ref (s1.heap.objs.size + 1) :: us).length = ps.length := by
    have e := r2.length
    rw [F.len _ _ _ _ sp1] at e
    exact e.symm
  have bi := hb _ (Value.ref (s1.heap.objs.size + 1) :: us) I2.kIn (by rw [List.append_nil]; exact hl)
  rw [List.append_nil] at bi
  show wpAny _ _ (call (.ref C) us) _ _ _
  refine wpAny_call (make_map (f := f) I1.kIn M.makes M.init (beq_iff_eq.mp M.fn) (codeAny_mono (F.run _ X.stack _ _ ⟨Value.ref (s1.heap.objs.size + 1) :: us, []⟩ _ _ _ _ (hr.make C us []) (I2.env0.make C us []) bi r2 sp1) fun r s' hq => ?_))
  cases r with
  | error e => exact L2N.passAt tk σ _ _ _ e s' I2 hq
  | ok fl =>
    cases fl with
    | ret u =>
      obtain ⟨v, H', I3, rv, ev, q3⟩ := I2.after hq
      subst ev
      exact ⟨rv, ⟨V.ref (s1.heap.objs.size + 1), H', I3, rfl, q3⟩⟩
    | next => exact False.elim hq
    | brk => exact False.elim hq
    | cont => exact False.elim hq
theorem ps_ostK {X : Cx} {K : PySem.W.Frag} {o e : Expr} {f : Str} {to te : TE} {p' pos : Pos} (h : X.K = K) (ho : PE X o to) (he : PE X e te) (hs : swapsWith e (some (.Attribute o f p')) pos.line X.env = pure false := by rfl) : PS X (.Assign [.Attribute o f p'] e pos) (tOst K f to te) := by subst h; exact ps_ost ho he hs
/-! ### the promise of an __init__ that keeps a place and a word -/
def atF (i : Int) (why : Str) : List (Str × V) := [("why", .str why), ("at", .int i)]
def spBadInit (K : PySem.W.Frag) (C : Addr) : Sp := fun vs H Q _ => ∃ (a : Addr) (i : Nat) (why : Str), vs = [.ref a, .int (i : Int), .str why] ∧ H a = some (exo a C none) ∧ i ≤ 30 ∧ why.length ≤ 100 ∧
  ∀ d, H d = none → d ≠ a → Q .non (upd (upd (upd H d (exd d [("at", .int (i : Int))])) a (exo a C (some d))) d (exd d (atF i why)))
/-- where times are first wrong -/
def BadAt (ns : List Int) (i : Nat) (why : Str) : Prop :=
  (why = ("many" : Str) ∧ i = 0 ∧ (25 < ns.length ∨ ns.length % 2 = 0)) ∨
  (why = ("time" : Str) ∧ ns.length ≤ 25 ∧ ns.length % 2 = 1 ∧ (∃ z, ns[i]? = some z ∧ (z < 1 ∨ 9999 < z)) ∧ ∀ (j : Nat) (z : Int), j < i → ns[j]? = some z → 1 ≤ z ∧ z ≤ 9999)
def spCheckX (K : PySem.W.Frag) (B : Addr) : Sp := fun vs H Q E => ∃ (a : Addr) (ns : List Int), vs = [.ref a] ∧ SqL K H a (ns.map V.int) ∧ ns.length ≤ 1000 ∧
  ((Tps ns ∧ ∀ H', Same H H' → Q .non H') ∨ ∃ (i : Nat) (why : Str), BadAt ns i why ∧ ∀ (d : Addr) (H' : Hp), H' d = some (.xd (atF i why)) → E (.ref B) (some d) H')
def spTapsX (K : PySem.W.Frag) (C B : Addr) : Sp := fun vs H Q E => ∃ (x a dx : Addr) (ns : List Int), vs = [.ref x, .ref a] ∧ H x = some (.ins C dx []) ∧ SqL K H a (ns.map V.int) ∧ ns.length ≤ 1000 ∧
  ((Tps ns ∧ ∀ (l : Addr) (H' : Hp), H l = none → (∀ b o, b ≠ x → H b = some o → H' b = some o) → TapsAt C H' x l ns → Q .non H') ∨ ∃ (i : Nat) (why : Str), BadAt ns i why ∧ ∀ (d : Addr) (H' : Hp), H' d = some (.xd (atF i why)) → E (.ref B) (some d) H')
theorem nat_text : ∀ i : Nat, i ≤ 30 → (((toString (i : Int) : String) : Str)).length ≤ 10 := by
  intro i hi
  have h : ∀ j : Fin 31, (((toString ((j.val : Nat) : Int) : String) : Str)).length ≤ 10 := by decide +kernel
  exact h ⟨i, by omega⟩
theorem bad_made {K : PySem.W.Frag} {B : Addr} {H1 : Hp} {i : Nat} {why : Str} {E : XK} (hi : i ≤ 30) (hw : why.length ≤ 100) (hE : ∀ (d : Addr) (H' : Hp), H' d = some (.xd (atF i why)) → E (.ref B) (some d) H') : ∀ a, H1 a = none →
    spBadInit K B [.ref a, .int (i : Int), .str why] (upd H1 a (exo a B none)) (fun v H2 => v = .non ∧ ∃ (d : Addr) (fs : List (Str × V)), H2 a = some (exo a B (some d)) ∧ H2 d = some (exd d fs) ∧ H1 d = none ∧ E (.ref B) (some d) (upd (del H2 a) d (.xd fs))) (fun _ _ _ => False) := fun a na => by
  refine ⟨a, i, why, rfl, upd_same, hi, hw, fun d nd dne => ⟨rfl, d, atF i why, ?_, upd_same, ?_, hE d _ upd_same⟩⟩
  · rw [upd_ne dne.symm, upd_same]
  · rw [upd_ne dne] at nd
    exact nd
/-- the rest of an except suite, where the error's class is known -/
theorem pss_when {X : Cx} {b : List Stmt} {t : TS} {c : Prop} (h : c → PSs X b t) : PSs X b (fun D σ H => c ∧ t D σ H) := ⟨fun pins s σ H D I q => (h q.1).run pins s σ H D I q.2⟩
theorem hotS {X : Cx} {a : Addr} {oe : Obj} {cls : Value} {d : Option Addr} {pn : List (Addr × Obj)} (hz : L2N.Zn cls d oe) (hf : ∃ vs, oe.data = .fields vs) : HotP (X.suite a ((a, oe) :: pn)) (a, oe) := by
  obtain ⟨vs, e⟩ := hf
  exact ⟨⟨rfl, vs, e, hz.2.2 vs e⟩, List.mem_cons_self⟩
theorem roomS {k : Nat} {A : Around} {h : Option Value} (r : Room k A) : L2H.RoomH k (A.mark h) := L2H.roomH_mark r h
end KT

/-! What the written part must say of an own error class, as one Boolean. -/
namespace KT
open PySem PySem.Spec PyProof.Rows L2
def oexObj (C : Addr) : Obj → Bool
  | ⟨.type t, _, .cls cd, sl⟩ => decide (t = "type") && (match cd.mro, sl.toList with
    | .ref C' :: bm, [_, _, _, _, some (.builtin n), _] => decide (C' = C) && (decide (n = "ValueError.__new__") && (!cd.hasDel && (cd.hasDict && PySem.HandSPX.refsVE bm)))
    | _, _ => false)
  | _ => false
def oexB (K : PySem.W.Frag) (C : Addr) : Bool := (match K.lookup C with
    | some o => oexObj C o
    | none => false) && (decide (PySem.W.findIn K (.ref C) "__setattr__" = some (some (.builtin "object.__setattr__"))) && (decide (PySem.W.subIn K (.ref C) (.type "BaseException") = some true) && (decide (PySem.W.typeIn K (.ref C) = some (.type "type")) && PySem.W.keepIn K (.ref C))))
theorem oexObj_ok {C : Addr} {o : Obj} (h : oexObj C o = true) : ∃ nm q N bs bm sn sub ab col dd k0 k1 k2 k3 k5, o = excClassObj nm q C N bs bm true sn sub ab col dd k0 k1 k2 k3 k5 "ValueError.__new__" ∧ PySem.HandSPX.refsVE bm = true := by
  unfold oexObj at h
  split at h
  · rename_i t dd cd sl
    rw [Bool.and_eq_true] at h
    obtain ⟨ht, h⟩ := h
    obtain rfl := of_decide_eq_true ht
    split at h
    · rename_i C' bm k0 k1 k2 k3 n k5 hm hs
      simp only [Bool.and_eq_true, Bool.not_eq_true'] at h
      obtain ⟨h1, h2, h3, h4, h5⟩ := h
      obtain rfl := of_decide_eq_true h1
      obtain rfl := of_decide_eq_true h2
      obtain ⟨nm, bs, mro, ns, qn, hd, sn, sub, ab, col, del⟩ := cd
      dsimp only at hm h3 h4
      subst hm h3 h4
      have hsl : sl = #[k0, k1, k2, k3, some (.builtin "ValueError.__new__"), k5] := by
        obtain ⟨l⟩ := sl
        simp only at hs
        rw [hs]
      subst hsl
      exact ⟨nm, qn, ns, bs, bm, sn, sub, ab, col, dd, k0, k1, k2, k3, k5, rfl, h5⟩
    · cases h
  · cases h
theorem oexB_ok {K : PySem.W.Frag} {C : Addr} (h : oexB K C = true) : OexC K C := by
  unfold oexB at h
  simp only [Bool.and_eq_true] at h
  obtain ⟨h1, h2, h3, h4, h5⟩ := h
  refine ⟨?_, of_decide_eq_true h2, of_decide_eq_true h3, of_decide_eq_true h4, h5⟩
  cases hl : K.lookup C with
  | none =>
    rw [hl] at h1
    cases h1
  | some o =>
    rw [hl] at h1
    obtain ⟨nm, q, N, bs, bm, sn, sub, ab, col, dd, k0, k1, k2, k3, k5, e, r⟩ := oexObj_ok h1
    exact ⟨nm, q, N, bs, bm, sn, sub, ab, col, dd, k0, k1, k2, k3, k5, by rw [e], r⟩
def excB (K : PySem.W.Frag) (D : Addr) : Bool := decide (PySem.W.findIn K (.ref D) "__getattribute__" = some (some (.builtin "BaseException.__getattribute__"))) && (decide (PySem.W.findIn K (.ref D) "__getattr__" = some none) && (decide (PySem.W.subIn K (.ref D) (.type "BaseException") = some true) &&
  (PySem.W.hasDictIn K D && (decide (PySem.W.findIn K (.ref D) "__class__" = some (some (.builtin "object.__class__"))) && (decide (PySem.W.specialIn K (.builtin "object.__class__") "__get__" = some (some (.builtin "getset_descriptor.__get__"))) &&
  (decide (PySem.W.takesIn K (.builtin "object.__class__") = some true) && decide (PySem.W.mroIn K D (.type "object") = some true)))))))
theorem excB_ok {K : PySem.W.Frag} {D : Addr} (h : excB K D = true) : ExcC K D := by
  unfold excB at h
  simp only [Bool.and_eq_true] at h
  obtain ⟨h1, h2, h3, h4, h5, h6, h7, h8⟩ := h
  exact ⟨of_decide_eq_true h1, of_decide_eq_true h2, of_decide_eq_true h3, h4, of_decide_eq_true h5, of_decide_eq_true h6, of_decide_eq_true h7, of_decide_eq_true h8⟩
def kitB (K : PySem.W.Frag) (D : Addr) (c : Value) (b : Bool) : Bool := decide (PySem.W.kitOne K (.ref D) c = some b)
theorem kitB_ok {K : PySem.W.Frag} {D : Addr} {c : Value} {b : Bool} (h : kitB K D c b = true) : PySem.W.kitOne K (.ref D) c = some b := of_decide_eq_true h
end KT

/-! A head that sees the interpreter's own statics too (a class's attribute is read by its name). -/
namespace KT
open PySem PySem.Spec PyProof.Rows L2
def asS (g : Addr → Option Obj) (n : Nat) : List Addr := He.asD g n ++ [cStatics]
def obsS (n : Nat) (fa : List He.Fa) (fn : List He.DefD) (ex : PySem.W.Frag → Bool) (g : Addr → Option Obj) : He.AlD × Bool := (He.obsD fa fn (He.frG g (asS g n)), ex (He.frG g (asS g n)))
def hookS (n : Nat) (fa : List He.Fa) (fn : List He.DefD) (ex : PySem.W.Frag → Bool) : PySem.W.Hook where
  α := He.AlD × Bool
  obs := fun s => obsS n fa fn ex s.heap.get?
  val := fun _ => (He.valD fn, true)
  says := fun _ h => ∃ K : PySem.W.Frag, K.In h ∧ He.SaysD fa fn K ∧ ex K = true
  of := fun _ _ e => ⟨_, He.frG_in, congrArg Prod.fst e, congrArg Prod.snd e⟩
  keeps := fun _ _ _ ⟨K, hK, c⟩ k => ⟨K, PySem.W.Frag.In.keeps hK k, c⟩
theorem obsS_eq {n : Nat} {fa : List He.Fa} {fn : List He.DefD} {ex : PySem.W.Frag → Bool} {g : Addr → Option Obj} {s : Shared} (h : ∀ a, g a = s.heap.get? a) : obsS n fa fn ex g = (hookS n fa fn ex).obs s := by
  have e : g = s.heap.get? := funext h
  rw [e] <;> rfl
end KT

/-! Pieces: ways to cut. -/
namespace KT
open PySem PySem.Spec PyProof.Rows L2
/-! ### at most so many readings -/
theorem found_exists {b : Int} {ts : List Int} {w : Fr} (W : Wid w) : ∀ us : List Fr, (∀ u ∈ us, 0 < u.1) → ∃ rs, FoundBy b ts w us rs := by
  intro us h
  have key : ∀ n, n ≤ us.length → ∃ rs, FoundBy b ts w (us.take n) rs := by
    intro n
    induction n with
    | zero => exact fun _ => ⟨[], FoundBy.nil b ts w⟩
    | succ n ih =>
      intro hn
      obtain ⟨rs, f⟩ := ih (by omega)
      have eu := List.getElem?_eq_getElem (show n < us.length by omega)
      rw [take_succ eu]
      have hu := h _ (List.getElem_mem (show n < us.length by omega))
      by_cases c : ∃ ks, FitsAll b ts us[n] w ks
      · obtain ⟨ks, c⟩ := c
        by_cases m : ks ∈ rs
        · exact ⟨rs, f.old W hu c m⟩
        · exact ⟨_, f.new W hu c m⟩
      · exact ⟨rs, f.none fun ks z => c ⟨ks, z⟩⟩
  have := key us.length (Nat.le_refl _)
  rw [List.take_length] at this
  exact this
theorem all_exists {b : Int} {ts : List Int} {w : Fr} (T : Tms ts) (pos : 0 < ts.length) (W : Wid w) : ∃ rs, AllBy b ts w rs := by
  obtain ⟨rs, f⟩ := found_exists (b := b) (ts := ts) W (unitsOf b ts w) fun u hu => (unit_pos T W hu).1.1
  exact ⟨rs, f.all T pos W⟩
theorem OrdBy.of {b : Int} {ts : List Int} {w : Fr} {l : List El} (T : Tms ts) (pos : 0 < ts.length) (W : Wid w) (ord : l.Pairwise ltE) (iff : ∀ e : El, e ∈ l ↔ Allowed b ts w e.2 ∧ e.1 = (widthOf ts e.2).1) : OrdBy b ts w l := by
  obtain ⟨rs, a⟩ := all_exists (b := b) T pos W
  refine ⟨ord, ?_, iff⟩
  have nd : (l.map fun e => e.2).Nodup := by
    refine List.pairwise_map.mpr (ord.imp_of_mem fun {x y} hx hy h z => ?_)
    have e1 := ((iff x).mp hx).2
    have e2 := ((iff y).mp hy).2
    have : x = y := Prod.ext (by rw [e1, e2, z]) z
    subst this
    exact ltE_irr _ h
  have pm : (l.map fun e => e.2).Perm rs := (List.perm_ext_iff_of_nodup nd a.nd).mpr fun ks => by
    rw [List.mem_map, a.iff]
    constructor
    · rintro ⟨e, he, rfl⟩
      exact ((iff e).mp he).1
    · intro h
      exact ⟨((widthOf ts ks).1, ks), (iff _).mpr ⟨h, rfl⟩, rfl⟩
  have := pm.length_eq
  rw [List.length_map] at this
  rw [this]
  exact a.le
/-! ### cuts -/
theorem Allowed.sub {b e b' e' : Nat} {ts : List Int} {w : Fr} {ks : List Int} (h1 : b ≤ b') (h2 : b' ≤ e') (h3 : e' ≤ e) (hl : e ≤ ts.length) (a : Allowed b (slice ts b e) w ks) (ev : (b' - b) % 1 = 0) : Allowed b' (slice ts b' e') w (slice ks (b' - b) (e' - b)) := by
  have l1 := slice_len hl (by omega : b ≤ e)
  have l2 := slice_len (ts := ts) (b := b') (e := e') (by omega) h2
  have lk := a.len
  have l3 : (slice ks (b' - b) (e' - b)).length = e' - b' := by
    rw [slice_len (by omega) (by omega)]
    omega
  have at1 : ∀ i, i < e' - b' → at_ (slice ts b' e') i = at_ (slice ts b e) (b' - b + i) := fun i hi => by
    rw [slice_at hi, slice_at (by omega), ← Nat.add_assoc, Nat.add_sub_cancel' h1]
  have at2 : ∀ i, i < e' - b' → at_ (slice ks (b' - b) (e' - b)) i = at_ ks (b' - b + i) := fun i hi => slice_at (by omega)
  refine ⟨fun i k hk => ?_, by rw [l3, l2], fun i j hi hj => ?_⟩
  · have hi : i < e' - b' := by
      rw [← l3]
      exact (List.getElem?_eq_some_iff.mp hk).1
    have e1 := at_get hk
    rw [at2 i hi] at e1
    have := a.rd.at (i := b' - b + i) (by omega)
    rw [e1] at this
    have e2 : ((b : Int) + ((b' - b + i : Nat) : Int)) = (b' : Int) + (i : Int) := by omega
    rw [e2] at this
    exact this
  · have h := a.no (b' - b + i) (b' - b + j) (by omega) (by omega)
    unfold askF askT askB at h ⊢
    rw [at1 i (by omega), at1 j (by omega), at2 i (by omega), at2 j (by omega)]
    exact h
inductive Cut (ts : List Int) (w : Fr) : Nat → Nat → Prop
  | zero : Cut ts w 0 0
  | step {k b e : Nat} : Cut ts w k b → b < e → e ≤ ts.length → (∃ ks, Allowed b (slice ts b e) w ks) → Cut ts w (k + 1) e
structure IsMin (ts : List Int) (w : Fr) (e m : Nat) : Prop where
  cut : Cut ts w m e
  le : ∀ k, Cut ts w k e → m ≤ k
theorem Piece.al {ts : List Int} {w : Fr} {b e : Nat} {ks : List Int} (p : Piece ts w b e ks) : Allowed b (slice ts b e) w ks := by
  obtain ⟨f, l, ob⟩ := p.near
  exact ((ob.iff (f, _)).mp List.mem_cons_self).1
theorem PiecesTo.le {ts : List Int} {w : Fr} {L : List (Nat × Nat × List Int)} {b : Nat} (h : PiecesTo ts w L b) : b ≤ ts.length := by
  cases h with
  | nil => exact Nat.zero_le _
  | snoc h p => exact p.le
theorem PiecesTo.cut {ts : List Int} {w : Fr} {L : List (Nat × Nat × List Int)} {b : Nat} (h : PiecesTo ts w L b) : Cut ts w L.length b := by
  induction h with
  | nil => exact .zero
  | snoc h p ih =>
    rw [List.length_append]
    exact .step ih p.lt p.le ⟨_, p.al⟩
theorem PiecesTo.far {ts : List Int} {w : Fr} {L : List (Nat × Nat × List Int)} {b : Nat} (h : PiecesTo ts w L b) : ∀ {k e : Nat}, Cut ts w k e → k ≤ L.length → e ≤ b := by
  induction h with
  | nil =>
    intro k e c hk
    cases c with
    | zero => exact Nat.le_refl _
    | step c _ _ _ => exact absurd hk (by simp)
  | @snoc l b e ks h p ih =>
    intro k e1 c hk
    rw [List.length_append] at hk
    cases c with
    | zero => exact Nat.zero_le _
    | @step k b1 _ c h1 h2 h3 =>
      have hb := ih c (by simp at hk; exact hk)
      rcases Nat.lt_or_ge e e1 with g | g
      · obtain ⟨ms, a⟩ := h3
        have := p.lt
        exact absurd (a.sub (b' := b) (e' := e + 1) hb (by omega) g h2 (Nat.mod_one _)) (p.max (by omega) _)
      · exact g
theorem PiecesTo.min {ts : List Int} {w : Fr} {L : List (Nat × Nat × List Int)} {m : Nat} (h : PiecesTo ts w L ts.length) (pos : 0 < ts.length) (i : IsMin ts w ts.length m) : L.length = m := by
  refine Nat.le_antisymm ?_ (i.le _ h.cut)
  rcases Nat.lt_or_ge m L.length with g | g
  · have ic := i.cut
    generalize ts.length = n at h ic
    cases h with
    | nil => exact absurd g (by simp)
    | snoc h p =>
      rw [List.length_append] at g
      have := h.far ic (by simp at g; omega)
      have := p.lt
      omega
  · exact g
/-- there is one such list of pieces -/
theorem PiecesTo.at {ts : List Int} {w : Fr} {L : List (Nat × Nat × List Int)} {b : Nat} (h : PiecesTo ts w L b) : ∀ {M : List (Nat × Nat × List Int)} {c : Nat}, PiecesTo ts w M c → M.length = L.length → M = L ∧ c = b := by
  induction h with
  | nil =>
    intro M c g e
    cases g with
    | nil => exact ⟨rfl, rfl⟩
    | snoc g p => simp at e
  | snoc h p ih =>
    intro M c g e
    cases g with
    | nil => simp at e
    | snoc g q =>
      rw [List.length_append, List.length_append] at e
      obtain ⟨rfl, rfl⟩ := ih g (by simp at e; exact e)
      obtain ⟨rfl, rfl⟩ := p.one q
      exact ⟨rfl, rfl⟩
theorem PiecesTo.uniq {ts : List Int} {w : Fr} {L M : List (Nat × Nat × List Int)} (h : PiecesTo ts w L ts.length) (g : PiecesTo ts w M ts.length) : L = M := by
  have key : ∀ {n : Nat} {L M : List (Nat × Nat × List Int)}, PiecesTo ts w L n → PiecesTo ts w M n → ¬ L.length < M.length := fun {n L M} h g z => by
    cases g with
    | nil => simp at z
    | snoc g p =>
      rw [List.length_append] at z
      have := g.far h.cut (by simp at z; omega)
      have := p.lt
      omega
  have a := key h g
  have c := key g h
  exact (g.at h (by omega)).1
/-! ### data, promises -/
def pcD (e : Nat × Nat × List Int) : PyData := .tuple [.int (e.1 : Int), .int (e.2.1 : Int), rowD e.2.2]
theorem PcsN.dp {K : PySem.W.Frag} {H H' : Hp} : ∀ {vs : List V} {l : List (Nat × Nat × List Int)}, PcsN H H' vs l → DpAll K H' vs (l.map pcD)
  | [], [], _ => .nil
  | [], r :: rs, h => by cases h.1
  | x :: xs, [], h => by cases h.1
  | x :: xs, e :: l, h => by
    obtain ⟨T, r, g1, _, g2, g3⟩ := h.2 0 e rfl
    cases g1
    exact .cons (.tup (SqT.of g2) (.cons (.int _) (.cons (.int _) (.cons (dp_row (SqL.of g3)) .nil)))) (PcsN.dp ⟨Nat.succ.inj h.1, fun i ks e => h.2 (i + 1) ks e⟩)
theorem dok_pcs {l : List (Nat × Nat × List Int)} (hl : l.length ≤ 1000000) (h : ∀ e ∈ l, e.2.2.length ≤ 1000000) : dOk 4 (.list (l.map pcD)) := by
  refine ⟨by rw [List.length_map]; exact hl, fun d hd => ?_⟩
  obtain ⟨e, he, rfl⟩ := List.mem_map.mp hd
  refine ⟨by show 3 ≤ 1000000; decide, fun d hd => ?_⟩
  simp only [List.mem_cons, List.not_mem_nil, or_false] at hd
  rcases hd with rfl | rfl | rfl
  · exact True.intro
  · exact True.intro
  · exact dok_row (h e he)
theorem PiecesTo.lens {ts : List Int} {w : Fr} {L : List (Nat × Nat × List Int)} {b : Nat} (h : PiecesTo ts w L b) : L.length ≤ b ∧ ∀ e ∈ L, e.2.2.length ≤ ts.length := by
  induction h with
  | nil => exact ⟨Nat.le_refl _, fun e he => absurd he List.not_mem_nil⟩
  | snoc h p ih =>
    refine ⟨by rw [List.length_append]; have := p.lt; have := ih.1; simp; omega, fun e he => ?_⟩
    rcases List.mem_append.mp he with he | he
    · exact ih.2 e he
    · rw [List.mem_singleton.mp he]
      have h1 := p.al.len
      rw [slice_len p.le (Nat.le_of_lt p.lt)] at h1
      have h2 := p.le
      show List.length _ ≤ _
      rw [h1]
      omega
theorem cut_slice (ts : List Int) {b e : Nat} (hb : b ≤ e) (he : e ≤ ts.length) : cutV (ts.map V.int) (some (b : Int)) (some (e : Int)) = (slice ts b e).map V.int := by
  unfold cutV slice
  rw [HT.sIx_nat, HT.sIx_nat, List.length_map, Nat.min_eq_left he, Nat.min_eq_left (Nat.le_trans hb he), List.map_take, List.map_drop]
def spPiecesL (K : PySem.W.Frag) : Sp := fun vs H Q _ => ∃ (a p : Addr) (ts : List Int) (w : Fr), vs = [.ref a, .ref p] ∧ SqL K H a (ts.map V.int) ∧ Tms ts ∧ ts.length ≤ 7 ∧ SqT K H p (frV w) ∧ Wid w ∧
  ∀ (r : Addr) (ys : List V) (l : List (Nat × Nat × List Int)) (H' : Hp), Same H H' → H' r = some (.lst ys) → DpAll K H' ys (l.map pcD) → PiecesTo ts w l ts.length → Q (.ref r) H'
def spFewest (K : PySem.W.Frag) : Sp := fun vs H Q _ => ∃ (a p : Addr) (ts : List Int) (w : Fr), vs = [.ref a, .ref p] ∧ SqL K H a (ts.map V.int) ∧ Tms ts ∧ ts.length ≤ 7 ∧ SqT K H p (frV w) ∧ Wid w ∧
  ∀ (m : Nat) (H' : Hp), Same H H' → IsMin ts w ts.length m → Q (.int (m : Int)) H'
def natV (n : Nat) : V := .int (n : Int)
theorem natV_map (ns : List Nat) : ns.map natV = (ns.map fun (n : Nat) => (n : Int)).map V.int := by
  rw [List.map_map]
  rfl
theorem atI_neg {α : Type} {xs : List α} {n : Nat} {v : α} (h : xs.length = n + 1) (e : xs[n]? = some v) : atI xs (-1) = some v := by
  have e2 : xs = xs.take n ++ [v] := by
    have := take_succ e
    rw [← h, List.take_length] at this
    exact this
  rw [e2]
  exact atI_last _ _
end KT

/-! There are at most 38 readings below 1. -/
namespace KT
open PySem PySem.Spec PyProof.Rows L2
theorem fits_mono {n t k l : Int} {u v w : Fr} (W : Wid w) (hk : k ∈ kinds n) (hl : l ∈ kinds n) (u1 : 0 < u.1) (u2 : 0 < u.2) (v1 : 0 < v.1) (v2 : 0 < v.2) (uv : leF u v) (a : fitsU t k u w) (b : fitsU t l v w) : l ≤ k := by
  rcases Int.lt_or_le k l with h | h
  · exfalso
    have far := kind_far hk hl h
    have p := W.pos
    have lt := W.lt
    -- (l w2 - w1) v1 u2 <= t w2 v2 u2 <= (k w2 + w1) u1 v2 <= (k w2 + w1) v1 u2
    have h1 : (l * w.2 - w.1) * v.1 * u.2 ≤ t * w.2 * v.2 * u.2 := Int.mul_le_mul_of_nonneg_right b.1 (Int.le_of_lt u2)
    have h2 : t * w.2 * u.2 * v.2 ≤ (k * w.2 + w.1) * u.1 * v.2 := Int.mul_le_mul_of_nonneg_right a.2 (Int.le_of_lt v2)
    have k0 : 0 ≤ k * w.2 + w.1 := by
      have := W.lo
      rcases kinds_le hk with e | e | e <;> rw [e] <;> omega
    have h3 : (k * w.2 + w.1) * (u.1 * v.2) ≤ (k * w.2 + w.1) * (v.1 * u.2) := Int.mul_le_mul_of_nonneg_left uv k0
    have e1 : t * w.2 * v.2 * u.2 = t * w.2 * u.2 * v.2 := Int.mul_right_comm ..
    have h4 : (l * w.2 - w.1) * (v.1 * u.2) ≤ (k * w.2 + w.1) * (v.1 * u.2) := by
      rw [Int.mul_assoc] at h1 h2
      rw [Int.mul_assoc (t * w.2)] at h1
      rw [Int.mul_assoc (k * w.2 + w.1)] at h2
      have : t * w.2 * (v.2 * u.2) = t * w.2 * (u.2 * v.2) := by rw [Int.mul_comm v.2 u.2]
      omega
    have h5 := Int.le_of_mul_le_mul_right h4 (Int.mul_pos v1 u2)
    have h6 : (k + 2) * w.2 ≤ l * w.2 := Int.mul_le_mul_of_nonneg_right far (Int.le_of_lt p)
    rw [Int.add_mul] at h6
    omega
  · exact h
def rk (k : Int) : Nat := if k = 1 then 0 else if k = 3 then 1 else 2
def sumR : List Int → Nat
  | [] => 0
  | k :: ks => rk k + sumR ks
theorem rk_mono {n k l : Int} (hk : k ∈ kinds n) (hl : l ∈ kinds n) (h : l ≤ k) : rk l ≤ rk k ∧ (rk l = rk k → k = l) := by
  rcases kinds_le hk with rfl | rfl | rfl <;> rcases kinds_le hl with rfl | rfl | rfl <;> first | (exfalso; omega) | decide
theorem sumR_mono : ∀ {a b : List Int} {o : Int}, Rdg o a → Rdg o b → a.length = b.length → (∀ (i : Nat) (x y : Int), a[i]? = some x → b[i]? = some y → y ≤ x) → sumR b ≤ sumR a ∧ (sumR b = sumR a → a = b)
  | [], [], _, _, _, _, _ => ⟨Nat.le_refl _, fun _ => rfl⟩
  | [], _ :: _, _, _, _, h, _ => by cases h
  | _ :: _, [], _, _, _, h, _ => by cases h
  | x :: a, y :: b, o, ra, rb, l, h => by
    have tl : ∀ {c : List Int} {z : Int}, Rdg o (z :: c) → Rdg (o + 1) c := fun r i k e => by
      have := r (i + 1) k e
      have e2 : o + ((i + 1 : Nat) : Int) = o + 1 + (i : Int) := by omega
      rw [e2] at this
      exact this
    obtain ⟨i1, i2⟩ := sumR_mono (tl ra) (tl rb) (Nat.succ.inj l) fun i x y e f => h (i + 1) x y e f
    have kx := ra 0 x rfl
    have ky := rb 0 y rfl
    obtain ⟨j1, j2⟩ := rk_mono kx ky (h 0 x y rfl rfl)
    refine ⟨Nat.add_le_add j1 i1, fun e => ?_⟩
    have e : rk y + sumR b = rk x + sumR a := e
    rw [j2 (by omega), i2 (by omega)]
theorem rk_cap {n k : Int} (h : k ∈ kinds n) : (rk k : Int) ≤ 1 + n % 2 := by
  rcases par n with e | e
  · rw [kinds_even e] at h
    rw [e]
    simp at h
    rcases h with rfl | rfl <;> decide
  · rw [e]
    rcases kinds_le h with rfl | rfl | rfl <;> decide
theorem sumR_cap : ∀ {a : List Int} {o : Int}, Rdg o a → (sumR a : Int) ≤ a.length + (a.length + o % 2) / 2
  | [], o, _ => by
    show (0 : Int) ≤ 0 + (0 + o % 2) / 2
    omega
  | x :: a, o, r => by
    have tl : Rdg (o + 1) a := fun i k e => by
      have := r (i + 1) k e
      have e2 : o + ((i + 1 : Nat) : Int) = o + 1 + (i : Int) := by omega
      rw [e2] at this
      exact this
    have ih := sumR_cap tl
    have c := rk_cap (r 0 x rfl)
    have e0 : o + ((0 : Nat) : Int) = o := by omega
    rw [e0] at c
    show ((rk x + sumR a : Nat) : Int) ≤ ((a.length + 1 : Nat) : Int) + (((a.length + 1 : Nat) : Int) + o % 2) / 2
    omega
theorem nodup_below : ∀ (n : Nat) (l : List Nat), l.Nodup → (∀ x ∈ l, x < n) → l.length ≤ n
  | 0, l, _, h => by
    cases l with
    | nil => exact Nat.le_refl _
    | cons a l => exact absurd (h a List.mem_cons_self) (Nat.not_lt_zero a)
  | n + 1, l, nd, h => by
    by_cases m : n ∈ l
    · have h1 : (l.erase n).length ≤ n := nodup_below n _ (nd.erase n) fun x hx => by
        have hne := (List.Nodup.mem_erase_iff nd).mp hx
        have := h x hne.2
        have := hne.1
        omega
      rw [List.length_erase_of_mem m] at h1
      omega
    · have h1 : l.length ≤ n := nodup_below n _ nd fun x hx => by
        have := h x hx
        have : x ≠ n := fun z => m (z ▸ hx)
        omega
      omega
theorem at_most {ts : List Int} {w : Fr} {rs : List (List Int)} (T : Tms ts) (pos : 0 < ts.length) (W : Wid w) (nd : rs.Nodup) (h : ∀ ks ∈ rs, Allowed 0 ts w ks) : rs.length ≤ 38 := by
  have key : ∀ ks ∈ rs, ∀ ls ∈ rs, sumR ks = sumR ls → ks = ls := by
    have half : ∀ {ks ls : List Int} {u v : Fr}, FitsAll 0 ts u w ks → FitsAll 0 ts v w ls → 0 < u.1 → 0 < u.2 → 0 < v.1 → 0 < v.2 → leF u v → sumR ks = sumR ls → ks = ls := fun {ks ls u v} a b u1 u2 v1 v2 uv e => by
      refine (sumR_mono a.rd b.rd (a.len.trans b.len.symm) fun i x y ex ey => ?_).2 e.symm
      have hi : i < ts.length := by
        rw [← a.len]
        exact (List.getElem?_eq_some_iff.mp ex).1
      have f1 := a.fit i hi
      have f2 := b.fit i hi
      rw [at_get ex] at f1
      rw [at_get ey] at f2
      exact fits_mono W (a.rd i x ex) (b.rd i y ey) u1 u2 v1 v2 uv f1 f2
    intro ks hk ls hl e
    obtain ⟨i, hi, a⟩ := (h ks hk).unit T pos W
    obtain ⟨j, hj, b⟩ := (h ls hl).unit T pos W
    obtain ⟨⟨u1, _⟩, u2, _⟩ := unit_pos T W (low_mem (w := w) a.rd a.len hi)
    obtain ⟨⟨v1, _⟩, v2, _⟩ := unit_pos T W (low_mem (w := w) b.rd b.len hj)
    by_cases c : leF (lowU ts ks w i) (lowU ts ls w j)
    · exact half a b u1 u2 v1 v2 c e
    · exact (half b a v1 v2 u1 u2 (Int.le_of_lt (Int.not_le.mp c)) e.symm).symm
  have nd2 : (rs.map sumR).Nodup := by
    refine List.pairwise_map.mpr (nd.imp_of_mem fun {x y} hx hy hne e => hne (key x hx y hy e))
  have := nodup_below 38 _ nd2 fun x hx => by
    obtain ⟨ks, hk, rfl⟩ := List.mem_map.mp hx
    have a := h ks hk
    have c := sumR_cap a.rd
    have l := a.len
    have le := T.le
    omega
  rw [List.length_map] at this
  exact this
end KT
/-! Rows made by the dice. -/
namespace KT
open PySem PySem.Spec PyProof.Rows L2
theorem kp_hid {d : Addr} {H H' : Hp} (k : Kp d H H') : Same (hid d H) (hid d H') := fun b o h => by
  obtain ⟨n, e⟩ := hid_some h
  rw [hid_ne n]
  exact k _ _ n e
theorem Kp.free' {d p : Addr} {H H' : Hp} (k : Kp d H H') (n : p ≠ d) (h : H' p = none) : H p = none := by
  cases e : H p with
  | none => rfl
  | some u =>
    rw [k p u n e] at h
    cases h
/-- a comprehension that draws: what is told of each item holds of the heap without the new list and the dice -/
theorem lc_hd {J : It} {n : Nat} {G : Hp → Prop} {Y : Nat → Hp → V → Hp → Prop} {g : TG} {te : TE} {vs : List Nat} {σ : L2.St} {H1 : Hp} {D d : Addr} {Qd : Hp → Prop} (w : Walk J n G Y) (Pe : Nat → V → Hp → Prop) (mono : ∀ i v H H', Same H H' → Pe i v H → Pe i v H') (hd1 : Dice H1 d) (nD : H1 D = none) (hn : n ≤ 1000000) (hG : ∀ H, Kp d H1 H → G H)
    (hs : ∀ i x H H' (acc : List V) (k : V → Hp → Prop), i < n → Kp d H1 H → Dice H d → H D = some (.lst acc) → acc.length = i → Y i H x H' → (∀ y H4, Kp d H H4 → Dice H4 d → Pe i y (hid D (hid d H4)) → k y H4) →
      g x (wipe σ vs) H' fun σ2 H2 => wipe σ2 vs = wipe σ vs ∧ te σ2 H2 k)
    (hd : ∀ H xs, Kp d H1 H → Dice H d → H D = some (.lst xs) → xs.length = n → (∀ i y, xs[i]? = some y → Pe i y (hid D (hid d H))) → Qd H) :
    ∃ W : Nat → Nat → Hp → Prop, (∃ m, W 0 m (upd H1 D (.lst []))) ∧ ∀ i m H, W i m H →
      (J.stop i H ∧ Qd H) ∨ (J.go i H ∧ ∃ Nx : Hp → Prop, (∀ H', Nx H' → ∃ m', m' < m ∧ W (i + 1) m' H') ∧ ∀ x H', J.yld i H x H' → g x (wipe σ vs) H' fun σ2 H2 => wipe σ2 vs = wipe σ vs ∧ tYes σ2 H2 fun b H3 =>
        if b = true then te σ2 H3 fun y H4 => ∃ acc, H4 D = some (.lst acc) ∧ acc.length < sizeLine ∧ Nx (upd H4 D (.lst (acc ++ [y]))) else Nx H3) := by
  have nDd : D ≠ d := hd1.ne nD
  have hh : ∀ {H : Hp} {o : HO}, hid D (hid d (upd H D o)) = hid D (hid d H) := fun {H o} => by
    funext b
    unfold hid
    by_cases e : b = D
    · rw [if_pos e, if_pos e]
    · rw [if_neg e, if_neg e]
      by_cases e2 : b = d
      · rw [if_pos e2, if_pos e2]
      · rw [if_neg e2, if_neg e2, upd_ne e]
  refine lc_it w (tt := tYes) (fun i H => ∃ xs, Kp d H1 H ∧ Dice H d ∧ H D = some (.lst xs) ∧ xs.length = i ∧ ∀ i y, xs[i]? = some y → Pe i y (hid D (hid d H))) ⟨[], (Kp.refl d H1).put nD, hd1.put nDd, upd_same, rfl, fun i y h => by simp at h⟩ (fun i H _ ⟨_, s, _⟩ => hG H s) ?_ fun H ⟨xs, s, dd, e, l, q⟩ => hd H xs s dd e l q
  rintro i x H H' hi ⟨xs, s, dd, e, l, q⟩ y
  refine hs i x H H' xs _ hi s dd e l y fun z H4 s4 d4 p4 => ⟨xs, s4 _ _ nDd e, lz' (by omega), xs ++ [z], (s.trans s4).put nD, d4.put nDd, upd_same, by rw [List.length_append, l]; rfl, fun j u hu => ?_⟩
  rw [hh]
  by_cases hj : j < xs.length
  · rw [List.getElem?_append_left hj] at hu
    exact mono j u _ _ (same_hid (kp_hid s4)) (q j u hu)
  · have e5 : j = i := by
      have := (List.getElem?_eq_some_iff.mp hu).1
      rw [List.length_append] at this
      simp at this
      omega
    subst e5
    rw [← l, List.getElem?_append_right (Nat.le_refl _), Nat.sub_self] at hu
    cases hu
    exact l ▸ p4
/-- some row of so many numbers -/
def RowOk (n : Nat) (H : Hp) (y : V) : Prop := ∃ (r : Addr) (ks : List Int), y = .ref r ∧ H r = some (.lst (ks.map V.int)) ∧ Rdg 0 ks ∧ ks.length = n
theorem RowOk.same {n : Nat} {H H' : Hp} {y : V} (h : RowOk n H y) (s : Same H H') : RowOk n H' y := by
  obtain ⟨r, ks, a, b, c⟩ := h
  exact ⟨r, ks, a, s _ _ b, c⟩
/-- the first place of a number -/
theorem idx_of {m : Int} : ∀ {ns : List Int}, m ∈ ns → ∃ j, j < ns.length ∧ (ns.map V.int)[j]? = some (V.int m) ∧ ∀ (i : Nat) (z : V), i < j → (ns.map V.int)[i]? = some z → eqV z (V.int m) = false
  | [], h => absurd h List.not_mem_nil
  | a :: ns, h => by
    by_cases e : a = m
    · subst e
      exact ⟨0, by show 0 < ns.length + 1; omega, rfl, fun i z hi => absurd hi (Nat.not_lt_zero i)⟩
    · obtain ⟨j, h1, h2, h3⟩ := idx_of (ns := ns) (by
        rcases List.mem_cons.mp h with h | h
        · exact absurd h.symm e
        · exact h)
      refine ⟨j + 1, by show j + 1 < ns.length + 1; omega, h2, fun i z hi hz => ?_⟩
      cases i with
      | zero =>
        cases hz
        show (a == m) = false
        simpa using e
      | succ i => exact h3 i z (by omega) hz
theorem flat_ints (ns : List Int) : (ns.map V.int).all flatV = true := by
  rw [List.all_eq_true]
  intro y hy
  obtain ⟨i, _, rfl⟩ := List.mem_map.mp hy
  rfl
theorem int_self (m : Int) : eqV (V.int m) (V.int m) = true := by
  show (m == m) = true
  simp
theorem kinds_pos (n : Int) : 0 < (kinds n).length := by
  rcases par n with e | e
  · rw [kinds_even e]; decide
  · rw [kinds_odd e]; decide
/-- one number of a reading another one -/
theorem Rdg.swap {ks : List Int} {i : Nat} {k : Int} (r : Rdg 0 ks) (hi : i < ks.length) (hk : k ∈ kinds (i : Int)) : Rdg 0 (ks.take i ++ [k] ++ ks.drop (i + 1)) ∧ (ks.take i ++ [k] ++ ks.drop (i + 1)).length = ks.length := by
  have l1 : (ks.take i ++ [k]).length = i + 1 := by
    rw [List.length_append, List.length_take]
    show min i ks.length + 1 = i + 1
    omega
  have l2 : (ks.take i).length = i := by
    rw [List.length_take]
    omega
  refine ⟨fun j z e => ?_, ?_⟩
  · by_cases c : j < i + 1
    · rw [List.getElem?_append_left (by omega)] at e
      by_cases c2 : j < i
      · rw [List.getElem?_append_left (by omega), List.getElem?_take_of_lt c2] at e
        exact r j z e
      · have : j = i := by omega
        subst this
        rw [List.getElem?_append_right (by omega), l2, Nat.sub_self] at e
        cases e
        rw [Int.zero_add]
        exact hk
    · rw [List.getElem?_append_right (by omega), l1, List.getElem?_drop, Nat.add_sub_cancel' (by omega)] at e
      exact r j z e
  · rw [List.length_append, l1, List.length_drop]
    omega
theorem cut_to (xs : List V) {i : Nat} (h : i ≤ xs.length) : cutV xs none (some (i : Int)) = xs.take i := by
  unfold cutV
  rw [HT.sIx_none, HT.sIx_nat, Nat.min_eq_left h, List.drop_zero, Nat.sub_zero]
theorem cut_fromN (xs : List V) {i : Nat} (h : i ≤ xs.length) : cutV xs (some (i : Int)) none = xs.drop i := by
  unfold cutV
  rw [HT.sIx_nat, HT.sIx_none, Nat.min_eq_left h]
  exact List.take_of_length_le (by rw [List.length_drop]; omega)
def spOthers (K : PySem.W.Frag) : Sp := fun vs H Q _ => ∃ (d a b : Addr) (ts ks : List Int), vs = [.ref d, .ref a, .ref b] ∧ Dice H d ∧ a ≠ d ∧ b ≠ d ∧ SqL K H a (ts.map V.int) ∧ SqL K H b (ks.map V.int) ∧ Tps ts ∧ Rdg 0 ks ∧ ks.length = ts.length ∧
  ∀ (p : Addr) (xs : List V) (H' : Hp), H p = none → H' p = some (.lst xs) → (∀ y ∈ xs, RowOk ts.length H' y) → Dice H' d → Kp d H H' → Q (.ref p) H'
/-! ### comparing fractions, readings as data -/
theorem eqv_fr (f g : Fr) : PyData.eqv (frD f) (frD g) = decide (f = g) := by
  unfold frD
  simp only [PyData.eqv, PyData.eqvAll]
  by_cases h1 : f.1 = g.1
  · by_cases h2 : f.2 = g.2
    · rw [decide_eq_true (Prod.ext h1 h2)]
      simp [h1, h2]
    · rw [decide_eq_false (fun z => h2 (by rw [z]))]
      simp [h2]
  · rw [decide_eq_false (fun z => h1 (by rw [z]))]
    simp [h1]
theorem shaped_fr (f : Fr) : SeqAt.shaped (frD f) = true := shaped_pair f
theorem eqv_el (e : El) : PyData.eqv (elR e) (elR e) = true := by
  have h1 : PyData.eqv (rowD e.2) (rowD e.2) = true := by
    have := eqv_intsL e.2 e.2
    rw [decide_eq_true rfl] at this
    exact this
  have h2 : PyData.eqv (frD e.1) (frD e.1) = true := by
    rw [eqv_fr]
    exact decide_eq_true rfl
  unfold elR
  simp only [PyData.eqv, PyData.eqvAll, Bool.and_true, Bool.and_eq_true]
  exact ⟨h1, h2⟩
theorem shaped_el (e : El) : SeqAt.shaped (elR e) = true := by
  have c1 : (rowD e.2).canLay0 = true := canLay_intsL e.2
  have d1 : (rowD e.2).depth ≤ 3 := depth_intsL e.2
  have c2 : (frD e.1).canLay0 = true := by simp [frD, PyData.canLay0, PyData.canLayAll0]
  have d2 : (frD e.1).depth ≤ 3 := by simp [frD, PyData.depth, PyData.depthAll]
  have h2 : (elR e).depth ≤ 64 := by
    simp only [elR, PyData.depth, PyData.depthAll]
    have d1' : PyData.depth (rowD e.2) ≤ 3 := d1
    have d2' : PyData.depth (frD e.1) ≤ 3 := d2
    generalize PyData.depth (rowD e.2) = a at *
    generalize PyData.depth (frD e.1) = b at *
    simp only [Nat.max_def]
    split <;> (try split) <;> omega
  show ((elR e).canLay0 && decide ((elR e).depth ≤ 64)) = true
  rw [Bool.and_eq_true]
  refine ⟨?_, decide_eq_true h2⟩
  simp only [elR, PyData.canLay0, PyData.canLayAll0, Bool.and_eq_true]
  exact ⟨c1, c2, True.intro⟩
theorem wide_other : Wid (99999, 100000) := ⟨by decide, by decide, by decide, by decide⟩
theorem ord_other {ts : List Int} {l : List El} (T : Tms ts) (pos : 0 < ts.length) (ob : OrdBy 0 ts (99999, 100000) l) : OrdBy 0 ts wideW l := by
  refine ⟨ob.ord, ob.le, fun e => (ob.iff e).trans (and_congr_left fun _ => ?_)⟩
  rw [allowed_iff T pos wide_other, allowed_iff T pos wide_wid]
  refine and_congr_right fun r => and_congr_right fun hl => ?_
  have o := width_ok (T.tr r hl) pos
  exact (below_other o wide_other (by decide)).trans (below_wide o).symm
theorem ord_few {ts : List Int} {w : Fr} {l : List El} (T : Tms ts) (pos : 0 < ts.length) (W : Wid w) (ob : OrdBy 0 ts w l) : l.length ≤ 38 := by
  have nd : (l.map fun e => e.2).Nodup := by
    refine List.pairwise_map.mpr (ob.ord.imp_of_mem fun {x y} hx hy h z => ?_)
    have e1 := ((ob.iff x).mp hx).2
    have e2 := ((ob.iff y).mp hy).2
    have : x = y := Prod.ext (by rw [e1, e2, z]) z
    subst this
    exact ltE_irr _ h
  have := at_most T pos W nd fun ks hk => by
    obtain ⟨e, he, rfl⟩ := List.mem_map.mp hk
    exact ((ob.iff e).mp he).1
  rw [List.length_map] at this
  exact this
/-- no other reading is nearer -/
theorem near_least {ts ks : List Int} {e : El} {l : List El} (T : Tms ts) (pos : 0 < ts.length) (ob : OrdBy 0 ts wideW (e :: l)) (r : Rdg 0 ks) (hl : ks.length = ts.length) : ¬ ltF (widthOf ts ks).1 e.1 ∧ ((widthOf ts ks).1 = e.1 → HT.lexLt ks e.2 = false) := by
  have o := width_ok (T.tr r hl) pos
  have ae := (ob.iff e).mp List.mem_cons_self
  have oe := width_ok (T.tr ae.1.rd ae.1.len) pos
  rw [← ae.2] at oe
  have be := (below_wide oe).mp (by
    have := ae.1.width T pos wide_wid
    rw [← ae.2] at this
    exact this)
  by_cases c : (widthOf ts ks).1.1 < (widthOf ts ks).1.2
  · have m : ((widthOf ts ks).1, ks) ∈ e :: l := (ob.iff _).mpr ⟨(allowed_iff T pos wide_wid).mpr ⟨r, hl, (below_wide o).mpr c⟩, rfl⟩
    rcases List.mem_cons.mp m with h | h
    · have h1 : (widthOf ts ks).1 = e.1 := congrArg Prod.fst h
      have h2 : ks = e.2 := congrArg Prod.snd h
      refine ⟨fun z => ?_, fun _ => ?_⟩
      · rw [h1] at z
        exact Int.lt_irrefl _ z
      · rw [h2]
        exact lex_irr _
    · have lt := (List.pairwise_cons.mp ob.ord).1 _ h
      refine ⟨fun z => ltE_asym lt (.inl z), fun z => ?_⟩
      cases h3 : HT.lexLt ks e.2 with
      | false => rfl
      | true => exact absurd (.inr ⟨z, h3⟩) (ltE_asym lt)
  · have no : ¬ ltF (widthOf ts ks).1 e.1 := by
      intro z
      have b0 := o.b0
      have z : (widthOf ts ks).1.1 * e.1.2 < e.1.1 * (widthOf ts ks).1.2 := z
      have h1 : (widthOf ts ks).1.2 * e.1.2 ≤ (widthOf ts ks).1.1 * e.1.2 := Int.mul_le_mul_of_nonneg_right (by omega) (Int.le_of_lt oe.b0)
      have h2 : e.1.1 * (widthOf ts ks).1.2 ≤ e.1.2 * (widthOf ts ks).1.2 := Int.mul_le_mul_of_nonneg_right (by omega) (Int.le_of_lt b0)
      rw [Int.mul_comm e.1.2] at h2
      omega
    refine ⟨no, fun z => ?_⟩
    rw [z] at c
    exact absurd be c
end KT

/-! Own rules: a >= b of lists of whole numbers; names unpacked from a list; a list backwards. -/
namespace KT
open PySem PySem.Spec PyProof.Rows L2
theorem rcIntGe {prog : Program} {w : World} {A : Around} {E : Value → Shared → Prop} {s : Shared} {a b : Int} {t u : Tok} {Q : Value → Shared → Prop} (h : Q (Value.bool (decide (b ≤ a))) s) : wpAny (model prog w) A (richCompare CmpOp.GtE (Value.int a t) (Value.int b u)) Q E s :=
  richCompare_gives (typeIs_int s a t) (typeIs_int s b u) F.slot_int_ge F.entry_int_ge (F.args_int_ge_2 _ _) (gives_int_ge a b t u) (fun x => nomatch x) h rfl
theorem geLoop (l b : Addr) (items items2 : Array Value) (n n2 : Nat) (dd dd2 : Option Addr) (sl sl2 : Array (Option Value)) (ns ms : List Int) (hi : IntsAre items.toList ns) (hj : IntsAre items2.toList ms) :
    ∀ (k i : Nat), ns.length - i = k → i ≤ ns.length → i ≤ ms.length →
      Meets (Builtin.«list.__eq__.loop» { pos := [Value.ref l, Value.ref b, rawInt (i : Int), rawInt 5] }) fun A R s =>
        s.heap.get? l = some { cls := Value.type "list", dict := dd, data := Data.seq items n, slots := sl } ∧ s.heap.get? b = some { cls := Value.type "list", dict := dd2, data := Data.seq items2 n2, slots := sl2 } ∧
          R (Except.ok (Flow.ret (Value.bool (!HT.lexLt (ns.drop i) (ms.drop i))))) s := by
  intro k
  induction k with
  | zero =>
    intro i hk hn hm prog w A R s h
    cases s
    obtain ⟨hl, hb, h⟩ := h
    refine wpAny_bind (wpAny_bind (wpAny_bind (wpAny_load' hl (wpAny_pure (wpAny_pure (wpAny_bind (wpAny_bind (wpAny_bind (wpAny_load' hb (wpAny_pure (wpAny_pure ?_)))))))))))
    have e1 : items[Int.toNat (i : Int)]? = none := by
      rw [Int.toNat_natCast]
      exact at_none hi (by omega)

    rw [e1]
    refine wpAny_bind (wpAny_bind (wpAny_bind (wpAny_load' hl (wpAny_pure (wpAny_pure (wpAny_bind (wpAny_bind (wpAny_bind (wpAny_load' hb (wpAny_pure (wpAny_pure (wpAny_pure ?_))))))))))))
    refine Eq.mp (congrArg (fun v => R (Except.ok (Flow.ret v)) _) ?_) h
    have z1 := IntsAre.length hi
    have z2 := IntsAre.length hj
    rw [Array.length_toList] at z1 z2
    show Value.bool _ = Value.bool (decide (items2.size ≤ items.size))
    rw [List.drop_eq_nil_of_le (by omega : ns.length ≤ i)]
    by_cases c : i < ms.length
    · rw [List.drop_eq_getElem_cons c, HT.lexLt_nil_cons, decide_eq_false (by omega)]
      rfl
    · rw [List.drop_eq_nil_of_le (by omega : ms.length ≤ i), HT.lexLt_nil_nil, decide_eq_true (by omega)]
      rfl
  | succ k ih =>
    intro i hk hn hm prog w A R s h
    have hin : i < ns.length := by omega
    cases s
    obtain ⟨hl, hb, h⟩ := h
    refine wpAny_bind (wpAny_bind (wpAny_bind (wpAny_load' hl (wpAny_pure (wpAny_pure (wpAny_bind (wpAny_bind (wpAny_bind (wpAny_load' hb (wpAny_pure (wpAny_pure ?_)))))))))))
    obtain ⟨t, e1⟩ := at_ints hi hin
    have e1' : items[Int.toNat (i : Int)]? = some (Value.int ns[i] t) := by
      rw [Int.toNat_natCast]
      exact e1
    rw [e1']
    by_cases c : i < ms.length
    · obtain ⟨t2, e2⟩ := at_ints hj c
      have e2' : items2[Int.toNat (i : Int)]? = some (Value.int ms[i] t2) := by
        rw [Int.toNat_natCast]
        exact e2
      rw [e2']
      refine wpAny_bind (wpAny_eqBool_int ?_)
      rw [List.drop_eq_getElem_cons hin, List.drop_eq_getElem_cons c, HT.lexLt_cons] at h
      by_cases q : ns[i] = ms[i]
      · rw [if_pos q] at h
        refine wpAny_ite_true (by rw [q]; exact decide_eq_true (beq_self_eq_true _)) (wpAny_pure ?_)
        refine ⟨plainId_quiet MeetsSeq3.plain_eq_loop _, codeAny_builtin MeetsSeq3.entry_eq_loop ?_⟩
        rw [Around.under_plainId MeetsSeq3.plain_eq_loop]
        exact ih (i + 1) (by omega) (by omega) (by omega) prog w A R _ ⟨hl, hb, h⟩
      · rw [if_neg q] at h
        have zz : (!decide (ns[i] < ms[i])) = decide (ms[i] ≤ ns[i]) := by
          by_cases h1 : ns[i] < ms[i]
          · rw [decide_eq_true h1, decide_eq_false (by omega)]
            rfl
          · rw [decide_eq_false h1, decide_eq_true (by omega)]
            rfl
        rw [zz] at h
        refine wpAny_ite_false (by rw [beq_eq_false_iff_ne.mpr q]; rfl) ?_
        refine wpAny_bind (wpAny_bind (wpAny_bind (wpAny_load' hl (wpAny_pure (wpAny_pure (wpAny_bind (wpAny_bind (wpAny_bind (wpAny_load' hb (wpAny_pure (wpAny_pure ?_)))))))))))
        rw [e1', e2']
        refine wpAny_bind (rcIntGe (wpAny_pure ?_))
        exact h
    · have e2' : items2[Int.toNat (i : Int)]? = none := by
        rw [Int.toNat_natCast]
        exact at_none hj c
      rw [e2']
      refine wpAny_bind (wpAny_bind (wpAny_bind (wpAny_load' hl (wpAny_pure (wpAny_pure (wpAny_bind (wpAny_bind (wpAny_bind (wpAny_load' hb (wpAny_pure (wpAny_pure (wpAny_pure ?_))))))))))))
      refine Eq.mp (congrArg (fun v => R (Except.ok (Flow.ret v)) _) ?_) h
      have z1 := IntsAre.length hi
      have z2 := IntsAre.length hj
      rw [Array.length_toList] at z1 z2
      show Value.bool _ = Value.bool (decide (items2.size ≤ items.size))
      rw [List.drop_eq_getElem_cons hin, List.drop_eq_nil_of_le (by omega : ms.length ≤ i), HT.lexLt_cons_nil, decide_eq_true (by omega)]
      rfl
theorem geMeets (l b : Addr) (items items2 : Array Value) (n n2 : Nat) (dd dd2 : Option Addr) (sl sl2 : Array (Option Value)) (ns ms : List Int) (hi : IntsAre items.toList ns) (hj : IntsAre items2.toList ms) :
    Meets (Builtin.«list.__ge__» { pos := [Value.ref l, Value.ref b] }) fun A R s =>
      s.heap.get? l = some { cls := Value.type "list", dict := dd, data := Data.seq items n, slots := sl } ∧ s.heap.get? b = some { cls := Value.type "list", dict := dd2, data := Data.seq items2 n2, slots := sl2 } ∧
        R (Except.ok (Flow.ret (Value.bool (!HT.lexLt ns ms)))) s := by
  intro prog w A R s h
  cases s
  obtain ⟨hl, hb, h⟩ := h
  have f2 := AutoSeq1.sub_list_list
  refine wpAny_bind ?_
  unfold slotArgs
  refine wpAny_ite_false rfl (wpAny_ite_false rfl (wpAny_pure ?_))
  refine wpAny_bind ?_
  unfold isInstance
  refine wpAny_bind ?_
  unfold PySem.typeOf
  refine wpAny_bind (wpAny_loadPart' hb (wpAny_pure (wpAny_of_eq f2 (wpAny_ite_false rfl ?_))))
  refine wpAny_pure ⟨plainId_quiet MeetsSeq3.plain_eq_loop _, codeAny_builtin MeetsSeq3.entry_eq_loop ?_⟩
  rw [Around.under_plainId MeetsSeq3.plain_eq_loop]
  exact geLoop l b items items2 n n2 dd dd2 sl sl2 ns ms hi hj (ns.length - 0) 0 rfl (Nat.zero_le _) (Nat.zero_le _) prog w A R _ ⟨hl, hb, h⟩
theorem geLst {prog : Program} {w : World} {A : Around} {E : Value → Shared → Prop} {s : Shared} {a b : Addr} {its its2 : Array Value} {ns ms : List Int} {Q : Value → Shared → Prop} (p1 : PlainL s.heap a its) (p2 : PlainL s.heap b its2)
    (i1 : IntsAre its.toList ns) (i2 : IntsAre its2.toList ms) (hu : A.units < cLine) (h : Q (Value.bool (!HT.lexLt ns ms)) s) : wpAny (model prog w) A (compareOp CmpOp.GtE (Value.ref a) (Value.ref b)) Q E s := by
  obtain ⟨⟨c1, dd, data, sl⟩, n, ho, hc, hdn, hd⟩ := p1
  obtain ⟨⟨c2, dd2, data2, sl2⟩, n2, ho2, hc2, hdn2, hd2⟩ := p2
  simp only at hc hd hc2 hd2
  subst hc hd hc2 hd2
  have this : (Value.bool (!HT.lexLt ns ms) ≠ Value.notImplemented ∧ Q (Value.bool (!HT.lexLt ns ms)) s) := by
    refine ⟨?_, h⟩
    intro z
    cases z
  have t1 : s.TypeIs (Value.ref a) "list" := ⟨_, ho, rfl⟩
  have t2 : s.TypeIs (Value.ref b) "list" := ⟨_, ho2, rfl⟩
  have m := geMeets a b its its2 n n2 dd dd2 sl sl2 ns ms i1 i2
  show wpAny (model prog w) A (richCompare CmpOp.GtE (Value.ref a) (Value.ref b)) Q E s
  refine richCompare_meets_room (op := CmpOp.GtE) t1 t2 F.slot_list_ge F.entry_list_ge (F.args_list_ge_2 (Value.ref a) (Value.ref b)) m ?_ hu
  refine ⟨ho, ho2, ?_⟩
  exact this
/-- a >= b, lists of whole numbers -/
def rGeL (K : PySem.W.Frag) : R2 := fun x y H Q => ∃ (a b : Addr) (ns ms : List Int), x = .ref a ∧ y = .ref b ∧ SqL K H a (ns.map V.int) ∧ SqL K H b (ms.map V.int) ∧ Q (.bl (!HT.lexLt ns ms)) H
theorem op_geL {X : Cx} {K : PySem.W.Frag} (hu : X.A.units < cLine) (hK : X.K = K) : OpR X (compareOp CmpOp.GtE) (rGeL K) := by
  subst hK
  intro pins s σ H x y v u Q I rx ry h
  obtain ⟨a, b, ns, ms, rfl, rfl, ha, hb, q⟩ := h
  cases rx
  cases ry
  obtain ⟨its, r1, p1, _⟩ := I.list ha
  obtain ⟨its2, r2, p2, _⟩ := I.list hb
  exact geLst p1 p2 (L2.intsAre_of r1) (L2.intsAre_of r2) hu ⟨V.bl (!HT.lexLt ns ms), H, I, rfl, q⟩
theorem pg_lstK {X : Cx} {K : PySem.W.Frag} {es : List Expr} {k : Nat} {pos : Pos} {t : TGs} {n : Nat} (hK : X.K = K) (hc : X.calm = true) (h : PGs X es t)
    (hn : (assignEach es X.env).length = n := by rfl) (hst : (assignEach es X.env).findIdx? (·.1) = none := by rfl) : PG X (.Tuple es k pos) (gLst K n t) := by subst hK; exact pg_lst hc h hn hst
theorem pe_revLK {X : Cx} {K : PySem.W.Frag} {e : Expr} {te : TE} {k : Nat} {p1 p2 p3 pos : Pos} (hK : X.K = K) (he : PE X e te) : PE X (.Subscript e (.Slice none none (some (.UnaryOp .USub (.Constant (.int 1) k p1) p2)) p3) pos) (tRevL K te) := by subst hK; exact pe_revL he
end KT

/-! Times longer, times turned round. -/
namespace KT
open PySem PySem.Spec PyProof.Rows L2
theorem width_same {ts ts' ks ks' : List Int} (t1 : TR ts ks) (t2 : TR ts' ks') (p1 : 0 < ts.length) (p2 : 0 < ts'.length) (h : ∀ w : Fr, 0 ≤ w.1 → 0 < w.2 → ((∀ i j, i < ts.length → j < ts.length → leF (askF ts ks i j) w) ↔ ∀ i j, i < ts'.length → j < ts'.length → leF (askF ts' ks' i j) w)) : (widthOf ts ks).1 = (widthOf ts' ks').1 := by
  have o1 := width_ok t1 p1
  have o2 := width_ok t2 p2
  have key : ∀ w : Fr, 0 ≤ w.1 → 0 < w.2 → (leF (widthOf ts ks).1 w ↔ leF (widthOf ts' ks').1 w) := fun w a b => (no_iff t1 p1 a b).symm.trans ((h w a b).trans (no_iff t2 p2 a b))
  have a := (key _ o2.t0 o2.b0).mpr (leF.refl _)
  have b := (key _ o1.t0 o1.b0).mp (leF.refl _)
  rw [← o1.low, ← o2.low]
  exact low_eq o1.b0 o2.b0 a b
theorem at_map {f : Int → Int} {ts : List Int} {i : Nat} (h : i < ts.length) : at_ (ts.map f) i = f (at_ ts i) := by
  refine at_get ?_
  rw [List.getElem?_map, get_at h]
  rfl
theorem longer_ask {ts ks : List Int} {c : Int} (hc : 0 < c) {w : Fr} {i j : Nat} (hi : i < ts.length) (hj : j < ts.length) : leF (askF (ts.map (· * c)) ks i j) w ↔ leF (askF ts ks i j) w := by
  unfold leF askF askT askB
  simp only
  rw [at_map hi, at_map hj]
  generalize at_ ts i = s
  generalize at_ ts j = t
  generalize at_ ks i = k
  generalize at_ ks j = l
  have e1 : (s * c * l - t * c * k) * w.2 = (s * l - t * k) * w.2 * c := by
    rw [Int.mul_right_comm s c l, Int.mul_right_comm t c k, ← Int.sub_mul, Int.mul_right_comm]
  have e2 : w.1 * (s * c + t * c) = w.1 * (s + t) * c := by
    rw [← Int.add_mul, Int.mul_assoc]
  rw [e1, e2]
  constructor
  · exact fun h => Int.le_of_mul_le_mul_right h hc
  · exact fun h => Int.mul_le_mul_of_nonneg_right h (Int.le_of_lt hc)
theorem Allowed.longer {ts ks : List Int} {c : Int} (hc : 0 < c) {w : Fr} : Allowed 0 (ts.map (· * c)) w ks ↔ Allowed 0 ts w ks := by
  constructor
  · intro a
    have l := a.len
    rw [List.length_map] at l
    exact ⟨a.rd, l, fun i j hi hj => (longer_ask hc hi hj).mp (a.no i j (by rw [List.length_map]; exact hi) (by rw [List.length_map]; exact hj))⟩
  · intro a
    refine ⟨a.rd, by rw [List.length_map]; exact a.len, fun i j hi hj => ?_⟩
    rw [List.length_map] at hi hj
    exact (longer_ask hc hi hj).mpr (a.no i j hi hj)
theorem width_longer {ts ks : List Int} {c : Int} (hc : 0 < c) (T : Tms ts) (T' : Tms (ts.map (· * c))) (pos : 0 < ts.length) (r : Rdg 0 ks) (l : ks.length = ts.length) : (widthOf (ts.map (· * c)) ks).1 = (widthOf ts ks).1 := by
  refine width_same (T'.tr r (by rw [List.length_map]; exact l)) (T.tr r l) (by rw [List.length_map]; exact pos) pos fun w _ _ => ?_
  constructor
  · exact fun h i j hi hj => (longer_ask hc hi hj).mp (h i j (by rw [List.length_map]; exact hi) (by rw [List.length_map]; exact hj))
  · intro h i j hi hj
    rw [List.length_map] at hi hj
    exact (longer_ask hc hi hj).mpr (h i j hi hj)
theorem OrdBy.longer {ts : List Int} {c : Int} (hc : 0 < c) (T : Tms ts) (T' : Tms (ts.map (· * c))) (pos : 0 < ts.length) {w : Fr} {l : List El} (ob : OrdBy 0 (ts.map (· * c)) w l) : OrdBy 0 ts w l := by
  refine ⟨ob.ord, ob.le, fun e => (ob.iff e).trans ?_⟩
  constructor
  · rintro ⟨a, e1⟩
    have a' := (Allowed.longer hc).mp a
    exact ⟨a', by rw [e1, width_longer hc T T' pos a'.rd a'.len]⟩
  · rintro ⟨a, e1⟩
    exact ⟨(Allowed.longer hc).mpr a, by rw [e1, width_longer hc T T' pos a.rd a.len]⟩
/-! ### turned round -/
theorem at_rev {ts : List Int} {i : Nat} (h : i < ts.length) : at_ ts.reverse i = at_ ts (ts.length - 1 - i) := by
  refine at_get ?_
  rw [List.getElem?_reverse h]
  exact get_at (by omega)
theorem rev_rdg {ks : List Int} (r : Rdg 0 ks) (odd : ks.length % 2 = 1) : Rdg 0 ks.reverse := fun i k e => by
  have hi : i < ks.length := by
    rw [← List.length_reverse]
    exact (List.getElem?_eq_some_iff.mp e).1
  rw [List.getElem?_reverse hi] at e
  have := r _ k e
  rcases par (0 + (i : Int)) with p | p
  · rw [kinds_even p]
    rw [kinds_even (by omega)] at this
    exact this
  · rw [kinds_odd p]
    rw [kinds_odd (by omega)] at this
    exact this
theorem rev_ask {ts ks : List Int} (l : ks.length = ts.length) {i j : Nat} (hi : i < ts.length) (hj : j < ts.length) : askF ts.reverse ks.reverse i j = askF ts ks (ts.length - 1 - i) (ts.length - 1 - j) := by
  unfold askF askT askB
  rw [at_rev hi, at_rev hj, at_rev (by omega : i < ks.length), at_rev (by omega : j < ks.length), l]
theorem Allowed.turned {ts ks : List Int} {w : Fr} (odd : ts.length % 2 = 1) (a : Allowed 0 ts w ks) : Allowed 0 ts.reverse w ks.reverse := by
  refine ⟨rev_rdg a.rd (by rw [a.len]; exact odd), by rw [List.length_reverse, List.length_reverse]; exact a.len, fun i j hi hj => ?_⟩
  rw [List.length_reverse] at hi hj
  rw [rev_ask a.len hi hj]
  exact a.no _ _ (by omega) (by omega)
theorem Tms.rev {ts : List Int} (T : Tms ts) : Tms ts.reverse := ⟨by rw [List.length_reverse]; exact T.le, fun i t e => by
  have hi : i < ts.length := by
    rw [← List.length_reverse]
    exact (List.getElem?_eq_some_iff.mp e).1
  rw [List.getElem?_reverse hi] at e
  exact T.all _ t e⟩
theorem width_turned {ts ks : List Int} (T : Tms ts) (pos : 0 < ts.length) (odd : ts.length % 2 = 1) (r : Rdg 0 ks) (l : ks.length = ts.length) : (widthOf ts.reverse ks.reverse).1 = (widthOf ts ks).1 := by
  refine width_same (T.rev.tr (rev_rdg r (by rw [l]; exact odd)) (by rw [List.length_reverse, List.length_reverse]; exact l)) (T.tr r l) (by rw [List.length_reverse]; exact pos) pos fun w _ _ => ?_
  constructor
  · intro h i j hi hj
    have := h (ts.length - 1 - i) (ts.length - 1 - j) (by rw [List.length_reverse]; omega) (by rw [List.length_reverse]; omega)
    rw [rev_ask l (by omega) (by omega)] at this
    have e1 : ts.length - 1 - (ts.length - 1 - i) = i := by omega
    have e2 : ts.length - 1 - (ts.length - 1 - j) = j := by omega
    rw [e1, e2] at this
    exact this
  · intro h i j hi hj
    rw [List.length_reverse] at hi hj
    rw [rev_ask l hi hj]
    exact h _ _ (by omega) (by omega)
/-- the turned one of a pair -/
def revE (e : El) : El := (e.1, e.2.reverse)
theorem turned_in {ts : List Int} {w : Fr} {l m : List El} (T : Tms ts) (pos : 0 < ts.length) (odd : ts.length % 2 = 1) (ob : OrdBy 0 ts w l) (om : OrdBy 0 ts.reverse w m) : ∀ e ∈ m, revE e ∈ l := fun e he => by
  obtain ⟨a, e1⟩ := (om.iff e).mp he
  have lr : ts.reverse.length = ts.length := List.length_reverse
  have a' := a.turned (by rw [lr]; exact odd)
  rw [List.reverse_reverse] at a'
  refine (ob.iff _).mpr ⟨a', ?_⟩
  show e.1 = (widthOf ts e.2.reverse).1
  rw [e1]
  have := width_turned T.rev (by rw [lr]; exact pos) (by rw [lr]; exact odd) a.rd a.len
  rw [List.reverse_reverse] at this
  exact this.symm
theorem turned_len {ts : List Int} {w : Fr} {l m : List El} (T : Tms ts) (pos : 0 < ts.length) (odd : ts.length % 2 = 1) (ob : OrdBy 0 ts w l) (om : OrdBy 0 ts.reverse w m) : m.length = l.length := by
  have lr : ts.reverse.length = ts.length := List.length_reverse
  have nd : ∀ {ts : List Int} {l : List El}, OrdBy 0 ts w l → l.Nodup := fun ob => ob.ord.imp fun h z => by
    subst z
    exact ltE_irr _ h
  have inj : ∀ {a b : El}, revE a = revE b → a = b := fun {a b} h => by
    have h1 : (revE a).1 = (revE b).1 := congrArg Prod.fst h
    have h2 : (revE a).2 = (revE b).2 := congrArg Prod.snd h
    exact Prod.ext h1 (List.reverse_inj.mp h2)
  have p : (m.map revE).Perm l := by
    refine (List.perm_ext_iff_of_nodup (List.pairwise_map.mpr ((nd om).imp fun h z => h (inj z))) (nd ob)).mpr fun e => ?_
    rw [List.mem_map]
    constructor
    · rintro ⟨x, hx, rfl⟩
      exact turned_in T pos odd ob om x hx
    · intro he
      have ob' : OrdBy 0 ts.reverse.reverse w l := by
        rw [List.reverse_reverse]
        exact ob
      have := turned_in T.rev (by rw [lr]; exact pos) (by rw [lr]; exact odd) om ob' e he
      refine ⟨revE e, this, ?_⟩
      unfold revE
      rw [List.reverse_reverse]
  have := p.length_eq
  rw [List.length_map] at this
  exact this
/-! ### one piece -/
theorem one_piece {ts ks : List Int} {w : Fr} {e : El} {l : List El} (T : Tms ts) (pos : 0 < ts.length) (W : Wid w) (al : Allowed 0 ts w ks) (ob : OrdBy 0 ts wideW (e :: l)) : PiecesTo ts w [(0, ts.length, e.2)] ts.length := by
  have ha := (ob.iff e).mp List.mem_cons_self
  have o := width_ok (T.tr ha.1.rd ha.1.len) pos
  rw [← ha.2] at o
  have ok := width_ok (T.tr al.rd al.len) pos
  have nl := (near_least T pos ob al.rd al.len).1
  have hw := al.width T pos W
  have ew : leF e.1 w := leF.trans o.b0 ok.b0 W.pos (ltF.not nl) hw
  refine PiecesTo.snoc (l := []) .nil ⟨pos, Nat.le_refl _, fun h => absurd h (Nat.lt_irrefl _), ?_⟩
  rw [slice_all]
  -- the list by w
  have hl : ((e :: l).filter (keepE w)) = e :: l.filter (keepE w) := List.filter_cons_of_pos (keepE_iff.mpr ew)
  refine ⟨e.1, l.filter (keepE w), ?_⟩
  show OrdBy 0 ts w (e :: l.filter (keepE w))
  rw [← hl]
  refine OrdBy.of T pos W (ob.ord.filter _) fun x => ?_
  rw [List.mem_filter, ob.iff, keepE_iff]
  constructor
  · rintro ⟨⟨a, e1⟩, h⟩
    exact ⟨(allowed_iff T pos W).mpr ⟨a.rd, a.len, by rw [← e1]; exact h⟩, e1⟩
  · rintro ⟨a, e1⟩
    have ow := width_ok (T.tr a.rd a.len) pos
    have h := a.width T pos W
    exact ⟨⟨(allowed_iff T pos wide_wid).mpr ⟨a.rd, a.len, (below_wide ow).mpr (below_of ow W h)⟩, e1⟩, by rw [e1]; exact h⟩
/-! ### lists of pairs as data -/
theorem els_any {l : List El} {e : El} (h : e ∈ l) : ((l.map elR).any fun z => PyData.eqv z (elR e)) = true := by
  rw [List.any_eq_true]
  exact ⟨elR e, List.mem_map.mpr ⟨e, h, rfl⟩, eqv_el e⟩
theorem els_can : ∀ l : List El, PyData.canLayAll0 (l.map elR) = true ∧ PyData.depthAll (l.map elR) ≤ 60
  | [] => by simp [PyData.canLayAll0, PyData.depthAll]
  | e :: l => by
    obtain ⟨a, b⟩ := els_can l
    have c1 : (rowD e.2).canLay0 = true := canLay_intsL e.2
    have d1 : PyData.depth (rowD e.2) ≤ 3 := depth_intsL e.2
    have c2 : (frD e.1).canLay0 = true := by simp [frD, PyData.canLay0, PyData.canLayAll0]
    have d2 : PyData.depth (frD e.1) ≤ 3 := by simp [frD, PyData.depth, PyData.depthAll]
    have c3 : (elR e).canLay0 = true := by
      simp only [elR, PyData.canLay0, PyData.canLayAll0, Bool.and_eq_true]
      exact ⟨c1, c2, True.intro⟩
    have d3 : PyData.depth (elR e) ≤ 60 := by
      simp only [elR, PyData.depth, PyData.depthAll]
      generalize PyData.depth (rowD e.2) = x at *
      generalize PyData.depth (frD e.1) = y at *
      simp only [Nat.max_def]
      split <;> (try split) <;> omega
    simp only [List.map_cons, PyData.canLayAll0, PyData.depthAll, Bool.and_eq_true]
    exact ⟨⟨c3, a⟩, Nat.max_le.mpr ⟨d3, b⟩⟩
theorem els_shapedR (l : List El) : SeqAt.shaped (.list (l.map elR)) = true := by
  obtain ⟨a, b⟩ := els_can l
  have h2 : PyData.depth (.list (l.map elR)) ≤ 64 := by
    simp only [PyData.depth]
    omega
  show (PyData.canLay0 (.list (l.map elR)) && decide (PyData.depth (.list (l.map elR)) ≤ 64)) = true
  rw [Bool.and_eq_true]
  exact ⟨by simp only [PyData.canLay0]; exact a, decide_eq_true h2⟩
theorem nil_shaped : SeqAt.shaped (.list []) = true := by simp [SeqAt.shaped, PyData.canLay0, PyData.canLayAll0, PyData.depth, PyData.depthAll]
theorem nil_eqv : PyData.eqv (.list []) (.list []) = true := by simp [PyData.eqv, PyData.eqvAll]
end KT

/-! A dict with keys that are tuples of numbers; a reading that is a list or a tuple. -/
namespace KT
open PySem PySem.Spec PyProof.Rows L2
theorem hu1 {k : Nat} {A : Around} (h : Room k A) : A.units + 1 < cLine := by
  have := h.un
  omega
def rTupQ (K : PySem.W.Frag) : List V → Hp → VK → Prop := fun xs H Q => ∃ p ys, xs = [.ref p] ∧ ((SqL K H p ys ∧ ∀ l, H l = none → Q (.ref l) (upd H l (.tup ys))) ∨ (SqT K H p ys ∧ Q (.ref p) H))
theorem call_tuple_ofK {X : Cx} {K : PySem.W.Frag} (h : X.K = K) : CallR X (.type "tuple") (rTupQ K) := by subst h; exact call_tuple_of
def intK (i : Int) : Key := .inl i
theorem intK_map (ks : List Int) : (ks.map intK).map kV = ks.map V.int := by
  rw [List.map_map]
  rfl
theorem mem_put {κ : Type} [DecidableEq κ] {kvs : List (κ × V)} {k j : κ} {v : V} : ∀ {y : V}, (j, y) ∈ putK kvs k v → j = k ∨ ∃ y, (j, y) ∈ kvs := by
  intro y h
  unfold putK at h
  split at h
  · obtain ⟨⟨a, b⟩, h1, h2⟩ := List.mem_map.mp h
    simp only at h2
    split at h2
    · next e =>
      cases h2
      exact .inl e
    · cases h2
      exact .inr ⟨_, h1⟩
  · rcases List.mem_append.mp h with h | h
    · exact .inr ⟨_, h⟩
    · cases List.mem_singleton.mp h
      exact .inl rfl
theorem Rd.updT {H : Hp} {a d : Addr} {u : HO} {o : HO} {kvs : List (List Key × V)} (e : H d = some (.dT kvs)) (n : u ≠ .dT kvs) (h : Rd H a u) : Rd (upd H d o) a u := by
  rcases h with h | ⟨o1, h⟩
  · refine .inl ?_
    rw [upd_ne fun z => by rw [z, e] at h; cases h; exact n rfl]
    exact h
  · refine .inr ⟨o1, ?_⟩
    rw [upd_ne fun z => by rw [z, e] at h; cases h]
    exact h
theorem SqL.updT {K : PySem.W.Frag} {H : Hp} {a d : Addr} {xs : List V} {o : HO} {kvs : List (List Key × V)} (e : H d = some (.dT kvs)) (h : SqL K H a xs) : SqL K (upd H d o) a xs := h.imp (fun r => Rd.updT e (fun z => nomatch z) r) id
theorem SqT.updT {K : PySem.W.Frag} {H : Hp} {a d : Addr} {xs : List V} {o : HO} {kvs : List (List Key × V)} (e : H d = some (.dT kvs)) (h : SqT K H a xs) : SqT K (upd H d o) a xs := h.imp (fun r => Rd.updT e (fun z => nomatch z) r) id
/-- a reading, list or tuple -/
structure TRQ (K : PySem.W.Frag) (H : Hp) (a b : Addr) (ts ks : List Int) : Prop where
  t : SqL K H a (ts.map V.int)
  k : SqL K H b (ks.map V.int) ∨ SqT K H b (ks.map V.int)
  ok : TR ts ks
theorem TRQ.same {K : PySem.W.Frag} {H H' : Hp} {a b : Addr} {ts ks : List Int} (h : TRQ K H a b ts ks) (s : Same H H') : TRQ K H' a b ts ks := ⟨s.seq h.t, h.k.imp (fun e => s.seq e) (fun e => same_tup s e), h.ok⟩
theorem TRQ.ix {K : PySem.W.Frag} {H : Hp} {a b : Addr} {ts ks : List Int} (h : TRQ K H a b ts ks) {i : Nat} {v : V} {Q : VK} (e : (ks.map V.int)[i]? = some v) (q : Q v H) : rIx K (.ref b) (.int (i : Int)) H Q := by
  rcases h.k with g | g
  · exact .inl ⟨_, _, _, _, rfl, rfl, g, atI_nat e, q⟩
  · exact .inr (.inl ⟨_, _, _, _, rfl, rfl, g, atI_nat e, q⟩)
def spAsksQ (K : PySem.W.Frag) : Sp := fun vs H Q _ => ∃ (a b : Addr) (ts ks : List Int) (i j : Nat), vs = [.ref a, .ref b, .int (i : Int), .int (j : Int)] ∧ TRQ K H a b ts ks ∧ i < ts.length ∧ j < ts.length ∧
  ∀ (p : Addr) (H' : Hp), H p = none → Same H H' → H' p = some (.tup (frV (lowF (askT ts ks i j) (askB ts i j)))) → Q (.ref p) H'
def spWidthQ (K : PySem.W.Frag) : Sp := fun vs H Q _ => ∃ (a b : Addr) (ts ks : List Int), vs = [.ref a, .ref b] ∧ TRQ K H a b ts ks ∧ 0 < ts.length ∧ ∀ (p : Addr) (H' : Hp), Same H H' → WAt H' p (widthOf ts ks) → Q (.ref p) H'
/-- no reading is allowed: the answer is False -/
def spAllows (K : PySem.W.Frag) : Sp := fun vs H Q _ => ∃ (b : Nat) (a p : Addr) (ts : List Int) (w : Fr), vs = [.int (b : Int), .ref a, .ref p] ∧ SqL K H a (ts.map V.int) ∧ Tms ts ∧ 0 < ts.length ∧ SqT K H p (frV w) ∧ Wid w ∧ (∀ ks, ¬ Allowed b ts w ks) ∧
  ∀ H' : Hp, Same H H' → Q (.bl false) H'
end KT

/-! Own rules: all(test for x in text), the test knowing the program's globals. -/
namespace KT
open PySem PySem.Spec PyProof.Rows L2
/-- the test of a sign, with what stands at the top -/
def EltG (X : Cx) (scope : Scope) (x : Str) (elt : Expr) (pb : Nat → Bool) : Prop :=
  ∀ (cenv : Env) (A' : Around) (E' : Value → Shared → Prop) (c : Nat) (t : Tok) (s₂ : Shared) (m₂ : Str → Option Value), cenv.scope = scope → cenv.globals = mainGlobals → (∀ b o, X.base.get? b = some o → s₂.heap.get? b = some o) → s₂.heap.Ns cenv.locals m₂ → m₂ x = some (.str ⟨#[c]⟩ t) →
    wpAny (model X.prog X.w) A' (eval elt cenv) (fun y s₃ => y = .bool (pb c) ∧ Keeps s₂ s₃) E' s₂
section
variable {X : Cx} {pins : List (Addr × Obj)} {σ : L2.St} {H : Hp} {s s1 : Shared} {c P : Addr} {elt iter : Expr} {x : Str} {px gpos : Pos} {scope : Scope} {pb : Nat → Bool} {te : TE} {k : Nat} {a : Str} {t : Tok} {o : Obj} {ps : Array Value} {H1 : Hp}
/-- the state where the generator's code object is at hand -/
structure CodeOk (X : Cx) (s1 : Shared) (o : Obj) (P : Addr) (ps ps' : Array Value) (h3 : Heap) : Prop where
  ext : Heap.ExtBut P (s1.heap.push o) h3
  size : (s1.heap.push o).objs.size ≤ h3.objs.size
  tab : h3.get? P = some { cls := .none, data := .fields ps' }
  more : ∃ more, ps' = ps ++ more
  ok : TriplesOk ps'.toList
theorem CodeOk.keep {ps' : Array Value} {h3 : Heap} (C : CodeOk X s1 o P ps ps' h3) {b : Addr} {u : Obj} (hb : b ≠ P) (e : s1.heap.get? b = some u) : h3.get? b = some u := C.ext b u hb (Heap.get?_push_of_some _ e)
theorem table_free {H : Hp} (I : Inv X pins σ H s) (hP : H P = some (.tbl ps)) {b : Addr} {u : Obj} (e : X.base.get? b = some u) : b ≠ P := fun z => by
  have n := (I.bs b u e).2
  rw [z, hP] at n
  cases n
theorem statics_ne (I : Inv X pins σ H1 s1) (hP : s1.heap.get? P = some { cls := .none, data := .fields ps }) : cStatics ≠ P := fun e => by
  obtain ⟨_, ⟨o', es, ep, ho, hd, _⟩, _⟩ := I.nolimit
  rw [e, hP] at ho
  cases ho
  cases hd
/-- the generator stands ready -/
theorem ready_of {ps' : Array Value} {h3 h5 : Heap} {tk5 g : Nat} {gs : GenState} {F : Nat → Value → Prop} {St : Nat → Shared → Prop} (I1 : Inv X pins σ H1 s1) (hP : H1 P = some (.tbl ps)) (C : CodeOk X s1 o P ps ps' h3) (hgb : gs.bare = true) (hk5 : ∀ b u, h3.get? b = some u → h5.get? b = some u)
    (W5 : WalksS X.prog X.w X.A.in4 g (g :: h3.objs.size :: List.range h3.objs.size) (h3.objs.size :: [s1.heap.objs.size]) (GenOnlyQ s1.gens.size) a.cps.size F St) (hF : ∀ j y, F j y → ∃ cc, a.cps[j]? = some cc ∧ y = .bool (pb cc))
    (hat : St 0 { s1 with gens := s1.gens.push gs, toks := tk5, heap := h5 }) : GxR.Ready X pins σ H1 P a pb g { s1 with gens := s1.gens.push gs, toks := tk5, heap := h5 } := by
  have hPs : s1.heap.get? P = some { cls := .none, data := .fields ps } := I1.hok P _ hP
  have big : s1.heap.objs.size < h3.objs.size := Nat.lt_of_lt_of_le (by rw [Heap.size_push]; exact Nat.lt_succ_self _) C.size
  have old : ∀ b u, s1.heap.get? b = some u → b ∉ h3.objs.size :: [s1.heap.objs.size] := fun b u e hb => by
    have lt := Heap.lt_size e
    simp only [List.mem_cons, List.not_mem_nil, or_false] at hb
    rcases hb with z | z
    · exact absurd (z ▸ lt) (Nat.not_lt.mpr (Nat.le_of_lt big))
    · exact absurd (z ▸ lt) (Nat.lt_irrefl _)
  refine ⟨_, _, _, F, St, W5.in4_1, hat, fun j y sj Qj Ej hy hQ => ?_, fun s' mv => ?_⟩
  · obtain ⟨cc, e, rfl⟩ := hF j y hy
    have hQ2 : Qj (GxR.trF pb a.cps.toList j) sj := hQ
    rw [GxR.trF_some (show a.cps.toList[j]? = some cc by rw [Array.getElem?_toList]; exact e)] at hQ2
    exact wpAny_truthy_bool hQ2
  · obtain ⟨more, rfl⟩ := C.more
    have J := GxR.inv_tab (more := more) (h' := s'.heap) (g' := s'.gens) (d' := s'.drawn) (t' := s'.toks) I1 hP (fun b u hb e => mv.heap b u (old b u e) (hk5 b u (C.keep hb e))) (mv.heap P _ (old P _ hPs) (hk5 P _ C.tab)) (AllBare.movedS (I1.bare.push hgb) mv)
    rw [GxR.sh_eta s1 s' mv.os] at J
    exact ⟨upd H1 P (.tbl (ps ++ more)), ⟨⟨ps ++ more, upd_same, C.ok⟩, fun b hb => upd_ne hb⟩, J⟩
/-- a generator expression over a text's signs -/
theorem gen_signs {Q' : Value → Shared → Prop} {R : Str → Hp → Prop} (hr : Room k X.A) (TB : GxR.TabB X.base X.mg c P) (hcode : X.env.code = .ref c) (S : GxR.GenS X.env scope x) (hi : PE X iter te) (hel : EltG X scope x elt pb) (hs : ∀ v, genFold iter X.env v = pure v) (I : Inv X pins σ H s)
    (h : te σ H fun v H1 => ∃ a : Str, v = .str a ∧ GxR.TabG H1 P ∧ R a H1) (hQ : ∀ a H1 g s5, R a H1 → GxR.Ready X pins σ H1 P a pb g s5 → Q' (.ref g) s5) :
    wpAny (model X.prog X.w) X.A (eval (.GeneratorExp elt [⟨.Name x px, iter, [], 0⟩] scope gpos) X.env) Q' X.xe s := by
  refine wpAny_GeneratorExp_walksQ hr.hd S.co (closure_ok S.free) S.cell S.dot S.loc S.kind (by have := hr.dp; omega) (thn (hi.run pins s σ H _ I h) fun xv s1 ⟨v, H1, I1, r1, q1⟩ => ?_) hs
  obtain ⟨a, rfl, ⟨ps, hP, ht⟩, q1⟩ := q1
  obtain ⟨t, rfl⟩ := _root_.id r1
  refine wpAny_pyIter_str fun o St W hst => ?_
  have hPs : s1.heap.get? P = some { cls := .none, data := .fields ps } := I1.hok P _ hP
  have hP2 : (s1.heap.push o).get? P = some { cls := .none, data := .fields ps } := Heap.get?_push_of_some _ hPs
  have cd : PySem.W.CodeHd (s1.heap.push o) c P := TB.code.keeps fun b u e => Heap.get?_push_of_some _ (I1.bk b u e)
  have lim : (s1.heap.push o).NoLimit := I1.nolimit.push o
  have stat : cStatics < s1.heap.objs.size := let ⟨_, hns, _⟩ := I1.nolimit; hns.lt
  have go : ∀ (code : Value) (h3 : Heap) (tk : Nat) (ps' : Array Value), CodeOk X s1 o P ps ps' h3 → wpAny (model X.prog X.w) X.A (builtinsFor X.env.globals X.env.builtins) (fun bi s₄ =>
      ∃ Ia fp wr n₀ Pf St₀ pz F, Value.ref s1.heap.objs.size = .ref Ia ∧ (∀ A' : Around, A'.handled = none → Walks X.prog X.w A' Ia fp wr n₀ Pf St₀) ∧ St₀ 0 s₄.heap ∧ (∀ b ∈ fp, b < s₄.heap.objs.size) ∧ s₄.heap.NoLimit ∧ cStatics ∉ wr ∧
        (∀ href : Heap, (∀ b o, s₄.heap.get? b = some o → href.get? b = some o) → QuietGen X.prog X.w (genEnv scope (cloFrom X.env.cells scope.names []) s₄.heap.objs.size code bi X.env) x [] elt (List.range s₄.heap.objs.size) wr Pf pz F href) ∧
        (∀ a h₅ tk gs, gs.bare = true → s₄.heap.objs.size < a → h₅.objs.size = a + 1 → (∀ b o, s₄.heap.get? b = some o → h₅.get? b = some o) →
          WalksS X.prog X.w X.A.in4 a (a :: s₄.heap.objs.size :: List.range s₄.heap.objs.size) (s₄.heap.objs.size :: wr) (GenOnlyQ s₄.gens.size) (passing pz n₀ 0).length
            (fun j y => ∃ i, (passing pz n₀ 0)[j]? = some i ∧ F i y) (GenAt X.prog X.w X.A.in4 a s₄.gens.size s₄.heap.objs.size (List.range s₄.heap.objs.size) wr pz n₀ F) →
          GenAt X.prog X.w X.A.in4 a s₄.gens.size s₄.heap.objs.size (List.range s₄.heap.objs.size) wr pz n₀ F 0 { s₄ with gens := s₄.gens.push gs, toks := tk, heap := h₅ } →
          Q' (.ref a) { s₄ with gens := s₄.gens.push gs, toks := tk, heap := h₅ })) X.xe { s1 with heap := h3, toks := tk } := by
    intro code h3 tk ps' C
    obtain ⟨bm, ob, e1, e2, e3, e4, e5, e6, e7, e8⟩ := TB.bm
    have big : s1.heap.objs.size < h3.objs.size := Nat.lt_of_lt_of_le (by rw [Heap.size_push]; exact Nat.lt_succ_self _) C.size
    have base : ∀ b u, X.base.get? b = some u → h3.get? b = some u := fun b u e => C.keep (table_free I1 hP e) (I1.bk b u e)
    refine wpAny_builtinsFor (m := X.mg) (by rw [I1.ok.glob]; exact I1.mod.glob.keeps base) e1 e2 (C.keep e4 (I1.bk _ _ e5)) e6 e7 e8 ?_
    refine ⟨s1.heap.objs.size, [s1.heap.objs.size], [s1.heap.objs.size], a.cps.size, SignAt a, St, (fun _ => true), (fun i y => ∃ cc, a.cps[i]? = some cc ∧ y = .bool (pb cc)), rfl, W, ?_, ?_, lim.extBut C.ext (statics_ne I1 hPs), ?_, fun href hh => ⟨?_, ?_⟩, ?_⟩
    · refine (W X.A hr.hd).frame _ _ _ hst fun b hb u e => C.ext b u (fun z => ?_) e
      rw [List.mem_singleton.mp hb] at z
      exact Nat.ne_of_lt (Heap.lt_size hPs) z.symm
    · intro b hb
      rw [List.mem_singleton.mp hb]
      exact big
    · intro z
      exact Nat.ne_of_lt stat (List.mem_singleton.mp z)
    · intro A' E' i v s₂ m₂ hA hPv hn hm hk
      simp only [List.forIn_nil]
      exact wpAny_pure ⟨rfl, GxR.keeps_refl _⟩
    · intro A' E' i v s₂ m₂ hA hPv hp hn hm hk
      obtain ⟨cc, u, hcc, rfl⟩ := hPv
      refine wpAny_mono (hel _ A' E' cc u s₂ m₂ rfl I1.ok.glob (fun b u e => ?_) hn hm) (fun y s3 r => ⟨⟨cc, hcc, r.1⟩, r.2⟩) fun _ _ e => e
      have e1 := I1.bk b u e
      have lt := Heap.lt_size e1
      refine hk b (List.mem_range.mpr (Nat.lt_trans lt big)) (fun z => ?_) u (hh b u (base b u e))
      exact absurd (List.mem_singleton.mp z ▸ lt) (Nat.lt_irrefl _)
    · intro g h5 tk5 gs hgb hag hsz5 hk5 W5 hat
      simp only [GxR.passing_true, List.length_range] at W5
      refine hQ a H1 g _ q1 (ready_of (s1 := s1) (o := o) (tk5 := tk5) (h5 := h5) (g := g) (gs := gs) (pb := pb) (a := a) I1 hP C hgb hk5 W5 (fun j y hy => ?_) hat)
      obtain ⟨i, hij, hc⟩ := hy
      obtain ⟨hj, ej⟩ := List.getElem?_eq_some_iff.mp hij
      rw [List.getElem_range] at ej
      rw [ej]
      exact hc
  refine ⟨lim, ?_⟩
  cases hf : codeAmong gpos ps.toList with
  | none =>
    refine wpAny_genexprCodeX hcode (cd.code hP2 ht) (cd.tab hP2) hf fun c' h' tk hx hge hlt hco' _ htab' _ => ?_
    obtain ⟨o1, vs, f1, tf, fl, tg, inF, tx, tt, op, _, _, _, _, _, _, _, _, _, htr, _⟩ := hco'
    exact go _ h' tk _ ⟨hx, Nat.le_trans hge (Nat.le_of_lt hlt), htab'.2, ⟨_, rfl⟩, htr⟩
  | some cv =>
    refine wpAny_genexprCode_hit hcode (cd.code hP2 ht) hf ?_
    exact go cv (s1.heap.push o) s1.toks ps ⟨Heap.ExtBut.refl _ _, Nat.le_refl _, hP2, ⟨#[], by simp⟩, ht⟩
theorem pe_allG {p pos : Pos} (hr : Room k X.A) (hg : Gl X "all") (hm : X.mg "all" = none) (hb : bootBuiltins "all" = some (.builtin "all")) (TB : GxR.TabB X.base X.mg c P) (hcode : X.env.code = .ref c) (S : GxR.GenS X.env scope x) (hi : PE X iter te) (hel : X.Ok → EltG X scope x elt pb)
    (hs : ∀ v, genFold iter X.env v = pure v := by intro _; rfl)
    (he : starEach [.GeneratorExp elt [⟨.Name x px, iter, [], 0⟩] scope gpos] X.env = (false, eval (.GeneratorExp elt [⟨.Name x px, iter, [], 0⟩] scope gpos) X.env) :: starEach [] X.env := by rfl) :
    PE X (.Call (.Name "all" p) [.GeneratorExp elt [⟨.Name x px, iter, [], 0⟩] scope gpos] [] pos) (GxR.tAllS P pb te) := by
  refine ⟨fun pins s σ H Q I h => ?_⟩
  refine wpAny_Call_Name_kw (ld_blt I hg hm hb (PyProof.Rows.callWith_builtin1 ?_ he (by rfl)))
  rw [he]
  show wpAny _ _ (spliced ((false, eval (.GeneratorExp elt [⟨.Name x px, iter, [], 0⟩] scope gpos) X.env) :: backTo pos (starEach [] X.env))) _ _ s
  refine Calls.spliced_cons (gen_signs (R := fun a H1 => ∀ H2, GxR.Tabbed P H1 H2 → Q (.bl (a.cps.toList.all pb)) H2) hr TB hcode S hi (hel I.ok) hs I h fun a H1 g s5 hR hG => Calls.spliced_nil ?_)
  obtain ⟨fp, wr, G, F, St, W, hst, htr, hI⟩ := hG
  refine call_all_walkS (W.self 0 _ _ _ hst ⟨g, fp, wr, G, _, F, St, _, rfl, W, hst, htr, fun s' hmv => ?_⟩)
  obtain ⟨H2, hT, J⟩ := hI s' hmv
  refine ⟨.bl _, H2, J, rfl, ?_⟩
  rw [GxR.all_signs a pb]
  exact hR H2 hT
/-- sign in LETTERS, a text of the top -/
theorem eltG_in_str {g z : Str} {tk : Tok} {p1 p2 p3 : Pos} (hk : scope.kind = .function) (hl : scope.names.lookup x = some .local) (hgl : scope.names.lookup g = some .globalImplicit) (hm : X.mg g = some (.str z tk)) (ok : X.Ok) (hd : (x == ("__debug__" : Str)) = false := by decide) (hdg : (g == ("__debug__" : Str)) = false := by decide) :
    EltG X scope x (.Compare (.Name x p1) [.In] [.Name g p2] p3) (fun c => decide (c ∈ z.cps.toList)) := by
  intro cenv A' E' c t s₂ m₂ hs hgb hb hn hm2
  refine wpAny_Compare1 ?_
  refine wpAny_Name (wpAny_loadName_local (by rw [hs]; exact hk) (show cenv.scope.names.lookup x = some .local by rw [hs]; exact hl) hn hm2 ?_) hd
  refine Calls.Name_function_global (by rw [hs]; exact hk) (show cenv.scope.names.lookup g = some .globalImplicit by rw [hs]; exact hgl) (Calls.loadGlobal_global (by rw [hgb]; exact ok.mod.glob.keeps hb) hm ?_) hdg
  refine PyProof.Rows.in_str ⟨?_, GxR.keeps_refl _⟩
  show Value.bool _ = Value.bool (decide (c ∈ z.cps.toList))
  first
    | exact congrArg Value.bool (PySem.StrLaws.found_one z c)
    | exact congrArg Value.bool (PySem.StrLaws.found_one z c).symm
end
end KT

/-! Own rules: a sign asked in a written dict of the top. -/
namespace KT
open PySem PySem.Spec PyProof.Rows L2
/-- a written dict whose keys are the texts ks -/
structure KTexts (K : PySem.W.Frag) (w : World) (d : Addr) (ks : List Str) : Prop where
  ex : ∃ (es : Array DictEntry) (n : Nat), K.lookup d = some ⟨.type "dict", none, .dict es n, #[]⟩ ∧ es.toList.map He.keyOf = He.keysIn w.params ks
  low : (d == sysModules) = false
theorem dicW_get {K : PySem.W.Frag} {a : Addr} {L : List (Option (Str × Int))} (h : He.dicW K a = some L) : (∃ (es : Array DictEntry) (n : Nat), K.lookup a = some ⟨.type "dict", none, .dict es n, #[]⟩ ∧ es.toList.map He.keyOf = L) ∧ (a == sysModules) = false := by
  unfold He.dicW at h
  split at h
  · rename_i c es n sl hl
    cases q : (decide (c = "dict") && (sl.isEmpty && !(a == sysModules))) with
    | false =>
      rw [q] at h
      cases h
    | true =>
      rw [q] at h
      simp only [Bool.and_eq_true, Bool.not_eq_true'] at q
      obtain ⟨h1, h2, h3⟩ := q
      obtain rfl := of_decide_eq_true h1
      have hs : sl = #[] := by simpa using h2
      rw [hs] at hl
      exact ⟨⟨es, n, hl, Option.some.inj h⟩, h3⟩
  · cases h
theorem KTexts.of {K : PySem.W.Frag} {w : World} {a : Addr} {ks : List Str} (h : He.dicW K a = some (He.keysIn w.params ks)) : KTexts K w a ks := ⟨(dicW_get h).1, (dicW_get h).2⟩
theorem find_texts {P : Params} {z : Str} : ∀ {l : List DictEntry} {ks : List Str}, l.map He.keyOf = He.keysIn P ks → (l.find? fun e => Value.isStrOf z e.key).isSome = decide (z ∈ ks)
  | [], [], _ => by simp
  | [], k :: ks, h => by cases h
  | e :: r, [], h => by cases h
  | e :: r, k :: ks, h => by
    have h1 : He.keyOf e :: r.map He.keyOf = some (k, PyData.keyHash P k) :: He.keysIn P ks := h
    injection h1 with h2 h3
    have ih := find_texts (z := z) h3
    unfold He.keyOf at h2
    split at h2
    · rename_i x t q
      obtain ⟨rfl, _⟩ := Prod.mk.inj (Option.some.inj h2)
      by_cases c : x = z
      · rw [List.find?_cons_of_pos (by rw [q]; show (x == z) = true; simp [c])]
        simp [c]
      · rw [List.find?_cons_of_neg (by rw [q]; show ¬ (x == z) = true; simp [c]), ih]
        have : z ≠ x := fun h => c h.symm
        simp [this]
    · cases h2
section
variable {X : Cx} {scope : Scope} {x : Str}
/-- sign in D, a written dict of the top with text keys -/
theorem eltG_in_dict {g : Str} {d : Addr} {ks : List Str} {p1 p2 p3 : Pos} (hk : scope.kind = .function) (hl : scope.names.lookup x = some .local) (hgl : scope.names.lookup g = some .globalImplicit) (hm : X.mg g = some (.ref d)) (D : KTexts X.K X.w d ks) (ok : X.Ok) (hd : (x == ("__debug__" : Str)) = false := by decide) (hdg : (g == ("__debug__" : Str)) = false := by decide) :
    EltG X scope x (.Compare (.Name x p1) [.In] [.Name g p2] p3) (fun c => decide ((⟨#[c]⟩ : Str) ∈ ks)) := by
  intro cenv A' E' c t s₂ m₂ hs hgb hb hn hm2
  obtain ⟨es, n, el, ek⟩ := D.ex
  refine wpAny_Compare1 ?_
  refine wpAny_Name (wpAny_loadName_local (by rw [hs]; exact hk) (show cenv.scope.names.lookup x = some .local by rw [hs]; exact hl) hn hm2 ?_) hd
  refine Calls.Name_function_global (by rw [hs]; exact hk) (show cenv.scope.names.lookup g = some .globalImplicit by rw [hs]; exact hgl) (Calls.loadGlobal_global (by rw [hgb]; exact ok.mod.glob.keeps hb) hm ?_) hdg
  refine wpAny_in_of (PySem.strKind_is X.prog X.w ⟨#[c]⟩ t) D.low (PySem.W.mapOf_K (prog := X.prog) (ok.mod.kin.keeps hb) el (He.keysLit_of ek)) ⟨?_, GxR.keeps_tok _ _⟩
  show Value.bool (findBy Value.isStrOf es ⟨#[c]⟩).isSome = Value.bool (decide ((⟨#[c]⟩ : Str) ∈ ks))
  refine congrArg Value.bool ?_
  unfold findBy
  rw [Option.isSome_map, ← find_texts (z := ⟨#[c]⟩) ek]
  obtain ⟨l⟩ := es
  simp only [List.find?_toArray]
end
end KT

/-! Defs whose tables of code objects grow. -/
namespace KT
open PySem PySem.Spec PyProof.Rows L2
/-- all but the tables stay -/
def ExtT (H H' : Hp) : Prop := ∀ b o, H b = some o → (∀ ps, o ≠ .tbl ps) → H' b = some o
theorem ExtT.refl (H : Hp) : ExtT H H := fun _ _ e _ => e
theorem ExtT.trans {H H1 H2 : Hp} (a : ExtT H H1) (b : ExtT H1 H2) : ExtT H H2 := fun c o e n => b c o (a c o e n) n
/-- the tables stand -/
def Tb (T : List Addr) (H : Hp) : Prop := ∀ P ∈ T, GxR.TabG H P
theorem ext_same {H H' : Hp} (s : Same H H') : ExtT H H' := fun b o e _ => s b o e
theorem ext_seq {K : PySem.W.Frag} {H H' : Hp} {a : Addr} {xs : List V} (h : SqL K H a xs) (s : ExtT H H') : SqL K H' a xs :=
  h.imp (fun r => r.imp (fun e => s _ _ e (fun ps z => nomatch z)) fun ⟨o, e⟩ => ⟨o, s _ _ e (fun ps z => nomatch z)⟩) id
theorem ext_tup {K : PySem.W.Frag} {H H' : Hp} {a : Addr} {xs : List V} (h : SqT K H a xs) (s : ExtT H H') : SqT K H' a xs :=
  h.imp (fun r => r.imp (fun e => s _ _ e (fun ps z => nomatch z)) fun ⟨o, e⟩ => ⟨o, s _ _ e (fun ps z => nomatch z)⟩) id
theorem ext_tabbed {P : Addr} {H H' : Hp} (hP : GxR.TabG H P) (t : GxR.Tabbed P H H') : ExtT H H' := fun b o e n => by
  by_cases hb : b = P
  · obtain ⟨ps, h, _⟩ := hP
    rw [hb, h] at e
    exact absurd (Option.some.inj e).symm (n ps)
  · rw [t.2 b hb]
    exact e
theorem tb_tabbed {T : List Addr} {P : Addr} {H H' : Hp} (h : Tb T H) (t : GxR.Tabbed P H H') : Tb T H' := fun P' hP' => by
  by_cases hb : P' = P
  · rw [hb]
    exact t.1
  · obtain ⟨ps, e, ok⟩ := h P' hP'
    exact ⟨ps, (t.2 P' hb).trans e, ok⟩
theorem tb_same {T : List Addr} {H H' : Hp} (h : Tb T H) (s : Same H H') : Tb T H' := fun P hP => by
  obtain ⟨ps, e, ok⟩ := h P hP
  exact ⟨ps, s _ _ e, ok⟩
theorem tb_put {T : List Addr} {H : Hp} {a : Addr} {o u : HO} (h : Tb T H) (e : H a = some u) (n : ∀ ps, u ≠ .tbl ps) : Tb T (upd H a o) := fun P hP => by
  obtain ⟨ps, g, ok⟩ := h P hP
  refine ⟨ps, ?_, ok⟩
  rw [upd_ne fun z => by rw [z, e] at g; exact n ps (Option.some.inj g)]
  exact g
/-- the def's code object is at c -/
def CodeAt (K : PySem.W.Frag) (f c : Addr) : Prop := ∃ (oc : Value) (od : Option Addr) (fd : FuncData) (sl : Array (Option Value)), K.lookup f = some ⟨oc, od, .func fd, sl⟩ ∧ fd.code = .ref c
theorem Src.okT {P : Program} {w : World} {K : PySem.W.Frag} {mg : Str → Option Value} {base : Heap} {x : Str} {st : Stmt} {N ps : List Str} {k : Nat} {sp : Sp} {c : Addr} (S : Src K mg x st) (hc : ∀ f, mg x = some (.ref f) → CodeAt K f c) (sc : FnScope N ps (defScope st))
    (hb : ∀ (kV doc pm : Value) (an : Option Addr) (cdv ct : Value) (us : List Value), us.length = ps.length → bindArgs (PySem.W.fnOf x x (defArgs st) (defBody st) (defScope st) .none kV doc pm an cdv ct) ⟨us, []⟩ = pure (ps.zip us))
    (len : ∀ vs H Q E, sp vs H Q E → vs.length = ps.length)
    (hbody : ∀ (f : Addr) (A : Around) (outer : List Env) (s : Shared) (H : Hp) (vs : List V) (Q : VK) (E : XK), Room k (A.deeper (envOfC x (defScope st) s.heap.objs.size f (.ref c))) → sp vs H Q E →
      ∃ t, PSs (cxOf CX0 P w K mg base N x (defScope st) f (.ref c) A outer s H E).nox (defBody st) t ∧ t { nx := fun _ H' => Q .non H', rt := Q } (start N vs) H) : KDef P w K mg base CX0 (k + 1) x ps sp := by
  obtain ⟨f, fd, hm, F⟩ := S.ex
  refine ⟨f, fd, hm, F.kp, F.bindsN hb, ?_⟩
  obtain ⟨oc, od, dV, kV, doc, pm, an, cdv, ct, osl, rfl, lk, hcd, _, _⟩ := F.ex
  obtain ⟨oc', od', fd', sl', lk', e⟩ := hc f hm
  have hcdv : cdv = .ref c := by
    rw [lk] at lk'
    have z := Option.some.inj lk'
    injection z with _ _ z3 _
    injection z3 with z4
    rw [← e, ← z4]
  subst hcdv
  refine fn_of lk hcd sc len fun A outer s H vs Q E hr h => ?_
  obtain ⟨t, ht, q⟩ := hbody f A outer s H vs Q E hr h
  exact ⟨t, ht.nox, q⟩
/-! ### promises -/
def allIn (z ks : Str) : Bool := z.cps.toList.all fun c => decide (c ∈ ks.cps.toList)
def letters26 : Str := "abcdefghijklmnopqrstuvwxyz"
def isSmall (z : Str) : Bool := decide (z ≠ "") && allIn z letters26
def dotDash : List Str := [".", "-"]
def isMarks (z : Str) : Bool := decide (1 ≤ z.length ∧ z.length ≤ 6) && z.cps.toList.all fun c => decide ((⟨#[c]⟩ : Str) ∈ dotDash)
def spIsSmall (T : List Addr) : Sp := fun vs H Q _ => ∃ z : Str, vs = [.str z] ∧ z.length ≤ 1000 ∧ Tb T H ∧ ∀ H', ExtT H H' → Tb T H' → Q (.bl (isSmall z)) H'
def spIsMarks (T : List Addr) : Sp := fun vs H Q _ => ∃ z : Str, vs = [.str z] ∧ z.length ≤ 1000 ∧ Tb T H ∧ ∀ H', ExtT H H' → Tb T H' → Q (.bl (isMarks z)) H'
def genSB (scope : Scope) (x : Str) : Bool := (match scope.kind with
  | .function => true
  | _ => false) && (!scope.isCoroutine && (decide (scope.names.lookup (".0" : Str) = some NameKind.local) && (decide (scope.names.lookup x = some NameKind.local) && scope.names.all fun y => match y.2 with
  | .cell => false
  | .free => false
  | _ => true)))
theorem genS_of {env : Env} {scope : Scope} {x : Str} (h : genSB scope x = true) : GxR.GenS env scope x := by
  unfold genSB at h
  simp only [Bool.and_eq_true, Bool.not_eq_true'] at h
  obtain ⟨h1, h2, h3, h4, h5⟩ := h
  have no : ∀ y ∈ scope.names, y.2 ≠ .cell ∧ y.2 ≠ .free := fun y hy => by
    have z := List.all_eq_true.mp h5 y hy
    constructor <;> (intro e; rw [e] at z; cases z)
  refine ⟨?_, h2, fun y hy => (no y hy).1, of_decide_eq_true h3, of_decide_eq_true h4, fun y hy e => absurd e (no y hy).2⟩
  split at h1
  · assumption
  · cases h1
/-! ### tables of letters -/
/-- tuples (letter, marks) at places -/
def RowsT (H : Hp) (vs : List V) (l : List (Str × Str)) : Prop := vs.length = l.length ∧ ∀ (i : Nat) (e : Str × Str), l[i]? = some e → ∃ T : Addr, vs[i]? = some (.ref T) ∧ H T = some (.tup [.str e.1, .str e.2])
theorem RowsT.ext {H H' : Hp} {vs : List V} {l : List (Str × Str)} (h : RowsT H vs l) (s : ExtT H H') : RowsT H' vs l := ⟨h.1, fun i e he => by
  obtain ⟨T, a, b⟩ := h.2 i e he
  exact ⟨T, a, s _ _ b (fun ps z => nomatch z)⟩⟩
structure GoodT (l : List (Str × Str)) : Prop where
  few : l.length ≤ 30
  one : ∀ e ∈ l, e.1.length = 1 ∧ isSmall e.1 = true ∧ e.2.length ≤ 6 ∧ isMarks e.2 = true
  new : ∀ (i j : Nat) (a b : Str × Str), i < j → l[i]? = some a → l[j]? = some b → b.1 ≠ a.1 ∧ b.1 ≠ a.2 ∧ b.2 ≠ a.1 ∧ b.2 ≠ a.2
def spCheckTable (K : PySem.W.Frag) (T : List Addr) : Sp := fun vs H Q _ => ∃ (a : Addr) (ys : List V) (l : List (Str × Str)), vs = [.ref a] ∧ SqL K H a ys ∧ RowsT H ys l ∧ GoodT l ∧ Tb T H ∧ ∀ H', ExtT H H' → Tb T H' → Q .non H'
/-- what a set of texts holds: texts of the first i rows -/
def SeenTo (l : List (Str × Str)) (i : Nat) (S : Key → Bool) : Prop := ∀ z : Str, S (.inr z) = true → ∃ (j : Nat) (e : Str × Str), j < i ∧ l[j]? = some e ∧ (z = e.1 ∨ z = e.2)
theorem setK_tbl {P : Program} {w : World} {a : Addr} {S : Key → Bool} {n : Nat} (ps : Array Value) : SetK P w a S n ≠ .tbl ps := fun z => by
  have z' : HO.ext _ = HO.tbl ps := z
  cases z'
/-! ### the class Table -/
def tableF (l : Addr) : List (Str × V) := putF "_rows" (.ref l) []
structure TableAt (C : Addr) (H : Hp) (x l : Addr) (ys : List V) : Prop where
  ob : ∃ dx, H x = some (.ins C dx (tableF l))
  at_ : H l = some (.lst ys)
theorem TableAt.ext {C : Addr} {H H' : Hp} {x l : Addr} {ys : List V} (h : TableAt C H x l ys) (s : ExtT H H') : TableAt C H' x l ys := ⟨h.ob.imp fun dx e => s _ _ e (fun ps z => nomatch z), s _ _ h.at_ (fun ps z => nomatch z)⟩
def spTableInit (K : PySem.W.Frag) (T : List Addr) (C : Addr) : Sp := fun vs H Q _ => ∃ (x a dx : Addr) (ys : List V) (l : List (Str × Str)), vs = [.ref x, .ref a] ∧ H x = some (.ins C dx []) ∧ SqL K H a ys ∧ RowsT H ys l ∧ GoodT l ∧ Tb T H ∧
  ∀ (la : Addr) (H' : Hp), (∀ b o, b ≠ x → H b = some o → (∀ ps, o ≠ .tbl ps) → H' b = some o) → Tb T H' → TableAt C H' x la ys → Q .non H'
def spLetters (C : Addr) : Sp := fun vs H Q _ => ∃ (x la : Addr) (ys : List V), vs = [.ref x] ∧ TableAt C H x la ys ∧ ys.length ≤ 1000 ∧ ∀ (p : Addr) (H' : Hp), H p = none → Same H H' → H' p = some (.lst ys) → Q (.ref p) H'
/-! ### a written dict with whole numbers as keys, texts as values -/
def entI (e : DictEntry) : Option (Int × Str × Int) := match e.key, e.val with
  | .int i _, .str z _ => some (i, z, e.hash)
  | _, _ => none
structure KInts (K : PySem.W.Frag) (d : Addr) (kv : List (Int × Str)) : Prop where
  ex : ∃ (es : Array DictEntry) (n : Nat), K.lookup d = some ⟨.type "dict", none, .dict es n, #[]⟩ ∧ es.toList.map entI = kv.map fun p => some (p.1, p.2, hashInt p.1)
theorem entI_some {e : DictEntry} {i h : Int} {z : Str} (q : entI e = some (i, z, h)) : ∃ t t', e.key = .int i t ∧ e.val = .str z t' ∧ e.hash = h := by
  unfold entI at q
  split at q
  · rename_i i' t z' t' e1 e2
    cases q
    exact ⟨t, t', e1, e2, rfl⟩
  · cases q
theorem ints_keys : ∀ {l : List DictEntry} {kv : List (Int × Str)}, l.map entI = kv.map (fun p => some (p.1, p.2, hashInt p.1)) → ∀ e ∈ l, ∃ k : Int, Value.isInt k e.key = true ∧ e.hash = hashInt k
  | [], _, _, e, he => nomatch he
  | a :: r, [], h, e, he => by cases h
  | a :: r, p :: kv, h, e, he => by
    simp only [List.map_cons, List.cons.injEq] at h
    rcases List.mem_cons.mp he with rfl | he
    · obtain ⟨t, t', e1, e2, e3⟩ := entI_some h.1
      refine ⟨p.1, ?_, e3⟩
      rw [e1]
      simp [Value.isInt]
    · exact ints_keys h.2 e he
theorem ints_find {i : Int} {z : Str} : ∀ {l : List DictEntry} {kv : List (Int × Str)}, l.map entI = kv.map (fun p => some (p.1, p.2, hashInt p.1)) → kv.lookup i = some z → ∃ e t, l.find? (fun e => Value.isInt i e.key) = some e ∧ e.val = .str z t
  | [], [], _, q => by cases q
  | [], p :: kv, h, q => by cases h
  | a :: r, [], h, q => by cases q
  | a :: r, p :: kv, h, q => by
    simp only [List.map_cons, List.cons.injEq] at h
    obtain ⟨t, t', e1, e2, e3⟩ := entI_some h.1
    by_cases c : i = p.1
    · subst c
      rw [List.lookup_cons_self] at q
      cases q
      exact ⟨a, t', by rw [List.find?_cons_of_pos (by rw [e1]; simp [Value.isInt])], e2⟩
    · rw [List.lookup_cons, show (i == p.1) = false from by simpa using c] at q
      rw [List.find?_cons_of_neg (by rw [e1]; simpa [Value.isInt] using fun h => c h.symm)]
      exact ints_find h.2 q
def rIxI (K : PySem.W.Frag) : R2 := fun x y H Q => ∃ (p : Addr) (i : Int) (z : Str) (kv : List (Int × Str)), x = .ref p ∧ y = .int i ∧ KInts K p kv ∧ kv.lookup i = some z ∧ Q (.str z) H
theorem ix_kints {X : Cx} : IxR X (rIxI X.K) := by
  intro value slice pins s σ H x y v u Q I rx ry h hs
  obtain ⟨p, i, z, kv, rfl, rfl, ⟨es, n, hl, he⟩, lk, q⟩ := h
  obtain rfl : v = Value.ref p := rx
  obtain ⟨t, rfl⟩ := ry
  have hm : s.heap.MapOf (intKind X.prog X.w) p (fun k => findBy Value.isInt es k) := ⟨_, es, n, I.kIn _ _ hl, ⟨rfl, rfl, rfl⟩, rfl, fun e hm => ints_keys he e (Array.mem_toList_iff.mpr hm), fun _ => rfl⟩
  obtain ⟨e, t', f1, f2⟩ := ints_find he lk
  have hf : findBy Value.isInt es i = some (.str z t') := by
    obtain ⟨l⟩ := es
    unfold findBy
    rw [List.find?_toArray]
    have f1 : l.find? (fun e => Value.isInt i e.key) = some e := f1
    rw [f1, ← f2]
    rfl
  exact tail_any hm.typeIs slot_dict_getitem.lookup (wpAny_getItem_of (by show Value.isInt i (.int i t) = true; simp [Value.isInt]) hm hf ⟨.str z, H, I.tok _, ⟨_, rfl⟩, q⟩) hs
theorem ix_kintsK {X : Cx} {K : PySem.W.Frag} (h : X.K = K) : IxR X (rIxI K) := by subst h; exact ix_kints
theorem pget_listK {X : Cx} {K : PySem.W.Frag} (h : X.K = K) : PGet X (rIxL K) := by
  subst h
  intro pins s σ H o i ov iv Q I ro ri q
  obtain ⟨p, xs, i, z, rfl, rfl, hq, he, q⟩ := q
  cases ro
  obtain ⟨t, rfl⟩ := ri
  obtain ⟨its, r, pl, hz⟩ := I.list hq
  obtain ⟨j, h1, h2, h3, h4, h5⟩ := atI_get he
  obtain ⟨w, ew, rw'⟩ := r.get h2
  have hl := r.length
  have hn := line63
  have fin : EP X pins σ Q w s := ⟨z, H, I, rw', q⟩
  by_cases h0 : 0 ≤ i
  · have hj : i.toNat = j := by
      rw [seqIndex_of h0 h5] at h1
      exact Option.some.inj h1
    exact wpAny_getItem_list (Q := fun r s' => EP X pins σ Q r s') pl.isList h0 (by omega) (by rw [hj]; simpa using ew) fin
  · have hj : (i + (its.toArray.size : Int)).toNat = j := by
      rw [seqIndex_neg (by omega) h4] at h1
      rw [List.size_toArray, ← hl]
      exact Option.some.inj h1
    exact wpAny_getItem_list_neg (Q := fun r s' => EP X pins σ Q r s') pl.isList (by omega) (by rw [List.size_toArray] <;> omega) (by omega) (by rw [hj]; simpa using ew) fin
theorem ip_strA {X : Cx} : PIp X .Add (fun x y H Q => ∃ i j, x = .str i ∧ y = .str j ∧ i.length + j.length ≤ sizeLine ∧ Q (.str (i ++ j)) H) := fun pins s σ H x y v u Q I r1 r2 h => iop_add_str pins s σ H x y v u Q I r1 r2 h
theorem pe_joinK {X : Cx} {K : PySem.W.Frag} {o e : Expr} {to te : TE} {apos pos : Pos} (h : X.K = K) (ho : PE X o to) (he : PE X e te) (hs : starEach [e] X.env = [(false, eval e X.env)] := by rfl) (hbase : attributeBase o "join" X.env (eval o X.env) = eval o X.env := by rfl) (hline : (apos.endLine == pos.line) = true := by rfl) :
    PE X (.Call (.Attribute o "join" apos) [e] [] pos) (tM1 (fun x xs H Q => ∃ a p, ∃ ys : List Str, x = .str a ∧ xs = [.ref p] ∧ (SqL K H p (ys.map V.str) ∨ SqT K H p (ys.map V.str)) ∧
      (ys.map (·.length)).sum + ys.length * a.length ≤ 16777216 ∧ Q (.str (Txt.join a ys)) H) to te) := by
  subst h
  exact pe_join ho he hs hbase hline
/-! ### marks of a reading -/
def markG (k : Int) : Str := if k = 3 then "-" else "."
abbrev St3 := List (List Str) × List Str × Str
def wStep (i : Nat) (k : Int) (st : St3) : St3 := if i % 2 = 0 then (st.1, st.2.1, st.2.2 ++ markG k) else if k = 3 then (st.1, st.2.1 ++ [st.2.2], "") else if k = 7 then (st.1 ++ [st.2.1 ++ [st.2.2]], [], "") else st
def wFold : Nat → List Int → St3 → St3
  | _, [], st => st
  | i, k :: ks, st => wFold (i + 1) ks (wStep i k st)
def wAll (st : St3) : List (List Str) := st.1 ++ [st.2.1 ++ [st.2.2]]
def marksOf (ks : List Int) : List (List Str) := wAll (wFold 0 ks ([], [], ""))
theorem wFold_snoc (k : Int) : ∀ (ks : List Int) (i : Nat) (st : St3), wFold i (ks ++ [k]) st = wStep (i + ks.length) k (wFold i ks st)
  | [], i, st => rfl
  | a :: ks, i, st => by
    show wFold (i + 1) (ks ++ [k]) _ = _
    rw [wFold_snoc k ks (i + 1) _]
    show wStep (i + 1 + ks.length) k _ = wStep (i + (ks.length + 1)) k _
    rw [show i + 1 + ks.length = i + (ks.length + 1) by omega]
    rfl
/-- a list of lists of texts -/
structure WordsAt (H : Hp) (p : Addr) (as : List Addr) (W : List (List Str)) : Prop where
  at_ : H p = some (.lst (as.map V.ref))
  len : as.length = W.length
  each : ∀ (j : Nat) (a : Addr) (w : List Str), as[j]? = some a → W[j]? = some w → a ≠ p ∧ H a = some (.lst (w.map V.str))
def spMarksOf (K : PySem.W.Frag) : Sp := fun vs H Q _ => ∃ (a : Addr) (ks : List Int), vs = [.ref a] ∧ SqL K H a (ks.map V.int) ∧ ks.length ≤ 30 ∧ (∀ (i : Nat) (k : Int), ks[i]? = some k → (i % 2 = 0 → k = 1 ∨ k = 3)) ∧
  ∀ (p : Addr) (as : List Addr) (H' : Hp), H p = none → Same H H' → WordsAt H' p as (marksOf ks) → Q (.ref p) H'
theorem ixN_last {α : Type} (xs : List α) (v : α) : ixN (xs ++ [v]).length (-1) = some xs.length := by
  unfold ixN
  rw [if_neg (by decide), List.length_append, List.length_singleton, if_pos (by omega)]
  congr 1
  omega
theorem set_last {α : Type} (xs : List α) (v z : α) : (xs ++ [v]).set xs.length z = xs ++ [z] := by simp
theorem atI_lastm {α β : Type} (f : α → β) (xs : List α) (v : α) : atI ((xs ++ [v]).map f) (-1) = some (f v) := by
  rw [List.map_append]
  exact atI_last _ _
/-! ### a word spelled -/
theorem sum_le {α : Type} (f : α → Nat) (b : Nat) : ∀ (l : List α), (∀ x ∈ l, f x ≤ b) → (l.map f).sum ≤ l.length * b
  | [], _ => by simp
  | x :: l, h => by
    have h1 := h x List.mem_cons_self
    have h2 := sum_le f b l fun y hy => h y (List.mem_cons_of_mem _ hy)
    simp only [List.map_cons, List.sum_cons, List.length_cons, Nat.add_mul]
    omega
structure DictF (H : Hp) (d : Addr) (f : Str → Str) : Prop where
  ex : ∃ kvs : List (Key × V), H d = some (.dK kvs) ∧ ∀ z : Str, (valV kvs (.inr z)).getD (.str "?") = .str (f z) ∧ (f z).length ≤ 1
theorem DictF.same {H H' : Hp} {d : Addr} {f : Str → Str} (h : DictF H d f) (s : Same H H') : DictF H' d f := ⟨h.ex.imp fun kvs ⟨e, q⟩ => ⟨s _ _ e, q⟩⟩
def wordOf (f : Str → Str) (w : List Str) : Str := Txt.join "" (w.map f)
def spWordOf (K : PySem.W.Frag) : Sp := fun vs H Q _ => ∃ (d b : Addr) (f : Str → Str) (w : List Str), vs = [.ref d, .ref b] ∧ DictF H d f ∧ SqL K H b (w.map V.str) ∧ w.length ≤ 100 ∧ ∀ H', Same H H' → Q (.str (wordOf f w)) H'
theorem strs_ext {xs : List V} {w : List Str} {f : Str → Str} (l : xs.length = w.length) (h : ∀ (i : Nat) (y : V), xs[i]? = some y → ∃ z : Str, w[i]? = some z ∧ y = V.str (f z)) : xs = (w.map f).map V.str := by
  apply List.ext_getElem?
  intro i
  by_cases c : i < xs.length
  · obtain ⟨z, h1, h2⟩ := h i _ (List.getElem?_eq_getElem c)
    rw [List.getElem?_eq_getElem c, h2, List.getElem?_map, List.getElem?_map, h1]
    rfl
  · rw [List.getElem?_eq_none (by omega), List.getElem?_eq_none (by rw [List.length_map, List.length_map]; omega)]
/-! ### a reading spelled -/
theorem dc_w {J : It} {n : Nat} {G : Hp → Prop} {Y : Nat → Hp → V → Hp → Prop} (w : Walk J n G Y) {g : TG} {tk tv : TE} {vs : List Nat} {σ : L2.St} {H1 : Hp} {D : Addr} {Qd : Hp → Prop} (Pv : Nat → Hp → Prop) (h0 : Pv 0 (upd H1 D (.dK []))) (hG : ∀ i H, i ≤ n → Pv i H → G H)
    (hs : ∀ i x H H', i < n → Pv i H → Y i H x H' → g x (wipe σ vs) H' fun σ2 H2 => wipe σ2 vs = wipe σ vs ∧ tk σ2 H2 fun y H4 => tv σ2 H4 fun z H5 => ∃ kvs k, y = kV k ∧ H5 D = some (.dK kvs) ∧ kvs.length < sizeLine ∧ Pv (i + 1) (upd H5 D (.dK (putK kvs k z)))) (hd : ∀ H, Pv n H → Qd H) :
    ∃ W : Nat → Nat → Hp → Prop, (∃ m, W 0 m (upd H1 D (.dK []))) ∧ ∀ i m H, W i m H →
      (J.stop i H ∧ Qd H) ∨ (J.go i H ∧ ∃ Nx : Hp → Prop, (∀ H', Nx H' → ∃ m', m' < m ∧ W (i + 1) m' H') ∧ ∀ x H', J.yld i H x H' → g x (wipe σ vs) H' fun σ2 H2 => wipe σ2 vs = wipe σ vs ∧ tYes σ2 H2 fun b H3 =>
        if b = true then tk σ2 H3 fun y H4 => tv σ2 H4 fun z H5 => ∃ kvs k, y = kV k ∧ H5 D = some (.dK kvs) ∧ kvs.length < sizeLine ∧ Nx (upd H5 D (.dK (putK kvs k z))) else Nx H3) := by
  refine ⟨fun i m H => m = n - i ∧ i ≤ n ∧ Pv i H, ⟨n, by simp, Nat.zero_le _, h0⟩, ?_⟩
  rintro i m H ⟨rfl, hi, p⟩
  have q := hG i H hi p
  by_cases hlt : i < n
  · exact .inr ⟨w.goes i H hlt q, Pv (i + 1), fun H' p' => ⟨n - (i + 1), by omega, rfl, hlt, p'⟩, fun x H' y => hs i x H H' hlt p (w.yields i H x H' hlt q y)⟩
  · have e : i = n := by omega
    subst e
    exact .inl ⟨w.stops H q, hd H p⟩
def kvsOf (l : List (Str × Str)) : List (Key × V) := l.foldl (fun kvs e => putK kvs (.inr e.2) (.str e.1)) []
theorem kvsOf_snoc (l : List (Str × Str)) (e : Str × Str) : kvsOf (l ++ [e]) = putK (kvsOf l) (.inr e.2) (.str e.1) := by
  unfold kvsOf
  rw [List.foldl_append]
  rfl
theorem kvsOf_len (l : List (Str × Str)) : (kvsOf l).length ≤ l.length := by
  rw [← List.reverse_reverse l]
  induction l.reverse with
  | nil => exact Nat.le_refl _
  | cons e l ih =>
    rw [List.reverse_cons, kvsOf_snoc]
    have := length_putK (kvsOf l.reverse) (.inr e.2) (.str e.1)
    simp only [List.length_append, List.length_singleton]
    omega
theorem kvsOf_val (l : List (Str × Str)) (h : ∀ e ∈ l, e.1.length ≤ 1) (k : Key) (v : V) (q : valV (kvsOf l) k = some v) : ∃ s : Str, v = .str s ∧ s.length ≤ 1 := by
  rw [← List.reverse_reverse l] at h q
  revert h q
  induction l.reverse with
  | nil =>
    intro h q
    cases q
  | cons e l ih =>
    intro h q
    rw [List.reverse_cons, kvsOf_snoc, valV_put] at q
    split at q
    · cases q
      exact ⟨_, rfl, h e (by simp)⟩
    · exact ih (fun e he => h e (by simp at he ⊢; exact .inl he)) q
def fOf (l : List (Str × Str)) (z : Str) : Str := match valV (kvsOf l) (.inr z) with
  | some (.str s) => s
  | _ => "?"
theorem fOf_dict {H : Hp} {d : Addr} {l : List (Str × Str)} (h : ∀ e ∈ l, e.1.length ≤ 1) (e : H d = some (.dK (kvsOf l))) : DictF H d (fOf l) := by
  refine ⟨_, e, fun z => ?_⟩
  unfold fOf
  cases q : valV (kvsOf l) (.inr z) with
  | none => exact ⟨rfl, Nat.le_refl _⟩
  | some v =>
    obtain ⟨s, rfl, hs⟩ := kvsOf_val l h _ v q
    exact ⟨rfl, hs⟩
def spelledOf (l : List (Str × Str)) (ks : List Int) : Str := Txt.join " " ((marksOf ks).map (wordOf (fOf l)))
structure Bd3 (a : Nat) (st : St3) : Prop where
  d : st.1.length ≤ a
  w : st.2.1.length ≤ a
  u : ∀ u ∈ st.1, u.length ≤ a + 1
theorem Bd3.step {a i : Nat} {k : Int} {st : St3} (h : Bd3 a st) : Bd3 (a + 1) (wStep i k st) := by
  have h1 := h.d
  have h2 := h.w
  have h3 : ∀ u ∈ st.1, u.length ≤ a + 1 + 1 := fun u hu => Nat.le_succ_of_le (h.u u hu)
  unfold wStep
  split
  · exact ⟨by show st.1.length ≤ _; omega, by show st.2.1.length ≤ _; omega, h3⟩
  · split
    · exact ⟨by show st.1.length ≤ _; omega, by simp; omega, h3⟩
    · split
      · refine ⟨by simp; omega, by simp, fun u hu => ?_⟩
        simp only [List.mem_append, List.mem_singleton] at hu
        rcases hu with hu | rfl
        · exact h3 u hu
        · simp
          omega
      · exact ⟨by omega, by omega, h3⟩
theorem Bd3.fold : ∀ {ks : List Int} {a i : Nat} {st : St3}, Bd3 a st → Bd3 (a + ks.length) (wFold i ks st)
  | [], _, _, _, h => h
  | k :: ks, a, i, st, h => by
    have := Bd3.fold (ks := ks) (i := i + 1) (h.step (i := i) (k := k))
    rw [show a + (k :: ks).length = a + 1 + ks.length by simp; omega]
    exact this
theorem marks_len (ks : List Int) : (marksOf ks).length ≤ ks.length + 1 ∧ ∀ w ∈ marksOf ks, w.length ≤ ks.length + 1 := by
  have h := Bd3.fold (ks := ks) (a := 0) (i := 0) (st := ([], [], "")) ⟨Nat.le_refl _, Nat.le_refl _, fun u hu => nomatch hu⟩
  rw [Nat.zero_add] at h
  unfold marksOf wAll
  refine ⟨by have := h.d; simp; omega, fun w hw => ?_⟩
  simp only [List.mem_append, List.mem_singleton] at hw
  rcases hw with hw | rfl
  · exact h.u w hw
  · have := h.w
    simp
    omega
theorem join_len (sep : Str) : ∀ l : List Str, (Txt.join sep l).length ≤ (l.map (·.length)).sum + l.length * sep.length := by
  intro l
  rw [TL.join_eq]
  induction l with
  | nil => exact Nat.zero_le _
  | cons x l ih =>
    cases l with
    | nil =>
      show x.length ≤ _
      simp
    | cons y l =>
      show (x ++ sep ++ Str.join sep (y :: l)).length ≤ _
      rw [Str.length_append, Str.length_append]
      simp only [List.map_cons, List.sum_cons, List.length_cons, Nat.add_mul, Nat.one_mul] at ih ⊢
      omega
theorem wordOf_len {f : Str → Str} (h : ∀ z, (f z).length ≤ 1) (w : List Str) : (wordOf f w).length ≤ w.length := by
  have h1 := join_len "" (w.map f)
  have h2 := sum_le (fun x : Str => x.length) 1 (w.map f) fun x hx => by
    obtain ⟨z, _, rfl⟩ := List.mem_map.mp hx
    exact h z
  rw [List.length_map] at h1 h2
  have h3 : ("" : Str).length = 0 := rfl
  rw [h3] at h1
  unfold wordOf
  omega
theorem fOf_len {l : List (Str × Str)} (h : ∀ e ∈ l, e.1.length ≤ 1) (z : Str) : (fOf l z).length ≤ 1 := by
  unfold fOf
  cases q : valV (kvsOf l) (.inr z) with
  | none => exact Nat.le_refl _
  | some v =>
    obtain ⟨s, rfl, hs⟩ := kvsOf_val l h _ v q
    exact hs
def spSpelled (K : PySem.W.Frag) (CT C : Addr) : Sp := fun vs H Q _ => ∃ (xt lt x la b : Addr) (ys : List V) (l : List (Str × Str)) (ts ks : List Int), vs = [.ref xt, .ref x, .ref b] ∧ TableAt CT H xt lt ys ∧ RowsT H ys l ∧ l.length ≤ 30 ∧ (∀ e ∈ l, e.1.length ≤ 1) ∧
  TapsAt C H x la ts ∧ Tps ts ∧ SqL K H b (ks.map V.int) ∧ Rdg 0 ks ∧ ks.length = ts.length ∧ ∀ H', Same H H' → Q (.str (spelledOf l ks)) H'
/-! ### the law's own walk -/
theorem s_assoc (a b c : Str) : a ++ b ++ c = a ++ (b ++ c) := TL.ext_tl (by simp only [TL.tl_append, List.append_assoc])
theorem join_app (sep a b : Str) : ∀ xs : List Str, Txt.join sep (xs ++ [a ++ b]) = Txt.join sep (xs ++ [a]) ++ b := by
  intro xs
  rw [TL.join_eq, TL.join_eq]
  induction xs with
  | nil => rfl
  | cons x xs ih =>
    cases xs with
    | nil =>
      show x ++ sep ++ (a ++ b) = x ++ sep ++ a ++ b
      rw [s_assoc (x ++ sep) a b]
    | cons y xs =>
      show x ++ sep ++ Str.join sep ((y :: xs) ++ [a ++ b]) = x ++ sep ++ Str.join sep ((y :: xs) ++ [a]) ++ b
      rw [ih, s_assoc (x ++ sep)]
theorem join_new (sep a b : Str) : ∀ xs : List Str, Txt.join sep (xs ++ [a] ++ [b]) = Txt.join sep (xs ++ [a]) ++ sep ++ b := by
  intro xs
  rw [TL.join_eq, TL.join_eq]
  induction xs with
  | nil => rfl
  | cons x xs ih =>
    have h1 : ∀ z : List Str, z ≠ [] → Str.join sep (x :: z) = x ++ sep ++ Str.join sep z := fun z hz => by
      cases z with
      | nil => exact absurd rfl hz
      | cons y z => rfl
    rw [List.cons_append, List.cons_append, h1 _ (by simp), h1 _ (by simp), ih, s_assoc (x ++ sep), s_assoc (x ++ sep), s_assoc]
theorem s_nil (a : Str) : a ++ ("" : Str) = a := TL.ext_tl (by rw [TL.tl_append]; show _ ++ [] = _; rw [List.append_nil])
theorem wordOf_snoc (f : Str → Str) (w : List Str) (m : Str) : wordOf f (w ++ [m]) = wordOf f w ++ f m := by
  unfold wordOf
  rw [List.map_append]
  rcases List.eq_nil_or_concat w with rfl | ⟨w', x, rfl⟩
  · exact (TL.ext_tl (by rw [TL.tl_append]; rfl))
  · rw [List.map_concat, List.concat_eq_append]
    show Txt.join "" (w'.map f ++ [f x] ++ [f m]) = _
    rw [join_new, s_nil]
def foundOf (f : Str → Str) (st : St3) : Str := Txt.join " " (st.1.map (wordOf f) ++ [wordOf f st.2.1])
theorem found_word (f : Str → Str) (D : List (List Str)) (w : List Str) (m : Str) : foundOf f (D, w ++ [m], "") = foundOf f (D, w, m) ++ f m := by
  unfold foundOf
  show Txt.join " " (D.map (wordOf f) ++ [wordOf f (w ++ [m])]) = Txt.join " " (D.map (wordOf f) ++ [wordOf f w]) ++ f m
  rw [wordOf_snoc, join_app]
theorem found_text (f : Str → Str) (D : List (List Str)) (w : List Str) (m : Str) : foundOf f (D ++ [w ++ [m]], [], "") = foundOf f (D, w, m) ++ f m ++ " " := by
  unfold foundOf
  show Txt.join " " ((D ++ [w ++ [m]]).map (wordOf f) ++ [wordOf f []]) = Txt.join " " (D.map (wordOf f) ++ [wordOf f w]) ++ f m ++ " "
  rw [List.map_append]
  show Txt.join " " (D.map (wordOf f) ++ [wordOf f (w ++ [m])] ++ [("" : Str)]) = _
  rw [join_new, wordOf_snoc, join_app, s_nil]
theorem found_all (f : Str → Str) (st : St3) : Txt.join " " ((wAll st).map (wordOf f)) = foundOf f st ++ f st.2.2 := by
  unfold wAll foundOf
  rw [List.map_append]
  show Txt.join " " (st.1.map (wordOf f) ++ [wordOf f (st.2.1 ++ [st.2.2])]) = _
  rw [wordOf_snoc, join_app]
def spSpelledL (K : PySem.W.Frag) : Sp := fun vs H Q _ => ∃ (a b : Addr) (ys : List V) (l : List (Str × Str)) (ks : List Int), vs = [.ref a, .ref b] ∧ SqL K H a ys ∧ RowsT H ys l ∧ l.length ≤ 30 ∧ (∀ e ∈ l, e.1.length ≤ 1) ∧
  SqL K H b (ks.map V.int) ∧ Rdg 0 ks ∧ ks.length ≤ 30 ∧ ∀ H', Same H H' → Q (.str (spelledOf l ks)) H'
theorem pickS (k c : Int) (a b : Str) : atI [V.str b, V.str a] (if decide (V.int k = V.int c) = true then 1 else 0) = some (V.str (if k = c then a else b)) := by
  rw [pick2]
  by_cases h : k = c
  · rw [if_pos h, if_pos (decide_eq_true (congrArg V.int h))]
  · rw [if_neg h, if_neg fun z => h (V.int.inj (of_decide_eq_true z))]
/-! ### the law's table -/
def lets : List Str := ["a", "b", "c", "d", "e", "f", "g", "h", "i", "j", "k", "l", "m", "n", "o", "p", "q", "r", "s", "t", "u", "v", "w", "x", "y"]
def marks21 : List Str := [".", "-", "..", ".-", "-.", "--", "...", "..-", ".-.", ".--", "-..", "-.-", "--.", "---", "....", "...-", ".....", "--.--", "......", "-.-.-.", "------"]
def spTable : Sp := fun vs H Q _ => ∃ d : Addr, vs = [.ref d] ∧ Dice H d ∧ ∀ (l : List (Str × Str)) (ys : List V) (p : Addr) (H' : Hp), GoodT l → (∀ e ∈ l, e.1 ∈ lets ∧ e.2 ∈ marks21) → l.length ≤ 16 → H p = none → H' p = some (.lst ys) → RowsT H' ys l → Dice H' d → Kp d H H' → Q (.ref p) H'
def rotS (t : Int) : Str := cutS "abcdefghijklmnopqrstuvwxy" (some t) none ++ cutS "abcdefghijklmnopqrstuvwxy" none (some t)
theorem rot_dec : ∀ t k : Fin 25, ((rotS ((t.val : Nat) : Int)).cps.toList[k.val]?).map (fun c => (⟨#[c]⟩ : Str)) = lets[(t.val + k.val) % 25]? := by decide +kernel
theorem rot_len : ∀ t : Fin 25, (rotS ((t.val : Nat) : Int)).length = 25 := by decide +kernel
theorem lets_one : ∀ x ∈ lets, x.length = 1 ∧ isSmall x = true := by decide +kernel
theorem marks_one : ∀ x ∈ marks21, x.length ≤ 6 ∧ isMarks x = true := by decide +kernel
theorem lets_marks : ∀ x ∈ lets, ∀ y ∈ marks21, x ≠ y := by decide +kernel
theorem lets_nodup : lets.Nodup := by decide +kernel
theorem marks_nodup : marks21.Nodup := by decide +kernel
theorem perm_erase {α : Type} : ∀ {l : List α} {j : Nat} (h : j < l.length), (l[j] :: l.eraseIdx j).Perm l
  | [], j, h => by cases h
  | a :: l, 0, h => .refl _
  | a :: l, j + 1, h => by
    show (l[j]'(Nat.lt_of_succ_lt_succ h) :: a :: l.eraseIdx j).Perm (a :: l)
    exact (List.Perm.swap _ _ _).trans ((perm_erase (Nat.lt_of_succ_lt_succ h)).cons a)
structure TabOk (t : Nat) (l : List (Str × Str)) (left : List Str) : Prop where
  let_ : ∀ (i : Nat) (e : Str × Str), l[i]? = some e → lets[(t + i) % 25]? = some e.1
  nod : (l.map (·.2) ++ left).Nodup
  sub : ∀ x ∈ l.map (·.2) ++ left, x ∈ marks21
  len : l.length + left.length = 21
theorem TabOk.step {t : Nat} {l : List (Str × Str)} {left : List Str} (h : TabOk t l left) {c : Str} (hc : lets[(t + l.length) % 25]? = some c) {j : Nat} (hj : j < left.length) : TabOk t (l ++ [(c, left[j])]) (left.eraseIdx j) := by
  have pm : ((l ++ [(c, left[j])]).map (·.2) ++ left.eraseIdx j).Perm (l.map (·.2) ++ left) := by
    rw [List.map_append, List.append_assoc]
    exact (perm_erase hj).append_left _
  refine ⟨fun i e he => ?_, pm.nodup_iff.mpr h.nod, fun x hx => h.sub x (pm.mem_iff.mp hx), ?_⟩
  · by_cases hi : i < l.length
    · rw [List.getElem?_append_left hi] at he
      exact h.let_ i e he
    · rw [List.getElem?_append_right (by omega)] at he
      have hi2 := (List.getElem?_eq_some_iff.mp he).1
      simp only [List.length_singleton] at hi2
      have hi0 : i = l.length := by omega
      subst hi0
      rw [Nat.sub_self] at he
      cases he
      exact hc
  · have := h.len
    rw [List.length_append, List.length_singleton, List.length_eraseIdx_of_lt hj]
    omega
theorem TabOk.inLets {t : Nat} {l : List (Str × Str)} {left : List Str} (h : TabOk t l left) : ∀ e ∈ l, e.1 ∈ lets := fun e he => by
  obtain ⟨i, hi⟩ := List.getElem?_of_mem he
  exact List.mem_of_getElem? (h.let_ i e hi)
theorem TabOk.inMarks {t : Nat} {l : List (Str × Str)} {left : List Str} (h : TabOk t l left) : ∀ e ∈ l, e.2 ∈ marks21 := fun e he => h.sub _ (List.mem_append_left _ (List.mem_map.mpr ⟨e, he, rfl⟩))
theorem TabOk.good {t : Nat} {l : List (Str × Str)} {left : List Str} (h : TabOk t l left) (hl : l.length ≤ 16) : GoodT l := by
  have mem1 : ∀ (i : Nat) (e : Str × Str), l[i]? = some e → e.1 ∈ lets := fun i e he => List.mem_of_getElem? (h.let_ i e he)
  have mem2 : ∀ (i : Nat) (e : Str × Str), l[i]? = some e → e.2 ∈ marks21 := fun i e he => h.sub _ (List.mem_append_left _ (List.mem_map.mpr ⟨e, List.mem_of_getElem? he, rfl⟩))
  refine ⟨by omega, fun e he => ?_, fun i j a b hij ha hb => ⟨?_, ?_, ?_, ?_⟩⟩
  · obtain ⟨i, hi⟩ := List.getElem?_of_mem he
    obtain ⟨h1, h2⟩ := lets_one _ (mem1 i e hi)
    obtain ⟨h3, h4⟩ := marks_one _ (mem2 i e hi)
    exact ⟨h1, h2, h3, h4⟩
  · intro z
    have hj := (List.getElem?_eq_some_iff.mp hb).1
    have e1 := h.let_ i a ha
    have e2 := h.let_ j b hb
    rw [z] at e2
    have i1 := (List.getElem?_eq_some_iff.mp e1).1
    have := (List.getElem?_inj i1 lets_nodup).mp (e1.trans e2.symm)
    omega
  · exact lets_marks _ (mem1 j b hb) _ (mem2 i a ha)
  · exact (lets_marks _ (mem1 i a ha) _ (mem2 j b hb)).symm
  · intro z
    have hd := (List.nodup_append.mp h.nod).1
    have ea : (l.map (·.2))[i]? = some a.2 := by rw [List.getElem?_map, ha]; rfl
    have eb : (l.map (·.2))[j]? = some b.2 := by rw [List.getElem?_map, hb]; rfl
    rw [z] at eb
    have i1 := (List.getElem?_eq_some_iff.mp ea).1
    have := (List.getElem?_inj i1 hd).mp (ea.trans eb.symm)
    omega
theorem RowsT.kp {H H' : Hp} {d : Addr} {vs : List V} {l : List (Str × Str)} (h : RowsT H vs l) (k : Kp d H H') (dd : Dice H d) : RowsT H' vs l := ⟨h.1, fun i e he => by
  obtain ⟨T, a, b⟩ := h.2 i e he
  refine ⟨T, a, k _ _ (fun z => ?_) b⟩
  obtain ⟨x, y, zs, q, _⟩ := dd
  rw [z, q] at b
  cases b⟩
theorem map_erase {α β : Type} (f : α → β) : ∀ (l : List α) (j : Nat), (l.map f).eraseIdx j = (l.eraseIdx j).map f
  | [], _ => rfl
  | a :: l, 0 => rfl
  | a :: l, j + 1 => congrArg (f a :: ·) (map_erase f l j)
/-! ### a reading refused -/
/-- an own error's class without an own __init__ -/
structure KRz (K : PySem.W.Frag) (C : Addr) : Prop where
  q : PySem.W.excIn K C He.veBase "ValueError.__new__" = true
  k : PySem.W.keepIn K (.ref C) = true
  s : PySem.W.subIn K (.ref C) (.type "BaseException") = some true
  t : PySem.W.typeIn K (.ref C) = some (.type "type")
def spCheckRX (K : PySem.W.Frag) (R : Addr) : Sp := fun vs H Q E => ∃ (a b : Addr) (ts ks : List Int), vs = [.ref a, .ref b] ∧ SqL K H a (ts.map V.int) ∧ SqL K H b (ks.map V.int) ∧ ks.length ≤ 1000 ∧
  ((Rdg 0 ks ∧ ks.length = ts.length ∧ ∀ H', Same H H' → Q .non H') ∨ (¬ (Rdg 0 ks ∧ ks.length = ts.length) ∧ ∀ H', Same H H' → E (.ref R) none H'))
def spSpelledX (K : PySem.W.Frag) (CT C R : Addr) : Sp := fun vs H Q E => ∃ (xt lt x la b : Addr) (ys : List V) (l : List (Str × Str)) (ts ks : List Int), vs = [.ref xt, .ref x, .ref b] ∧ TableAt CT H xt lt ys ∧ RowsT H ys l ∧ l.length ≤ 30 ∧ (∀ e ∈ l, e.1.length ≤ 1) ∧
  TapsAt C H x la ts ∧ Tps ts ∧ SqL K H b (ks.map V.int) ∧ ks.length ≤ 1000 ∧ ((Rdg 0 ks ∧ ks.length = ts.length ∧ ∀ H', Same H H' → Q (.str (spelledOf l ks)) H') ∨ (¬ (Rdg 0 ks ∧ ks.length = ts.length) ∧ ∀ H', Same H H' → E (.ref R) none H'))
theorem inV_ints (k : Int) (l : List Int) : inV (V.int k) (l.map V.int) = decide (k ∈ l) := by
  unfold inV
  induction l with
  | nil => simp
  | cons a l ih =>
    rw [List.map_cons, List.any_cons, ih]
    show ((a == k) || decide (k ∈ l)) = _
    by_cases h : a = k
    · subst h
      simp
    · have h2 : k ≠ a := fun z => h z.symm
      simp [h, h2]
/-! ### the law -/
def spLawT (K : PySem.W.Frag) (T : List Addr) : Sp := fun vs H Q _ => ∃ (a : Addr) (ns : List Int), vs = [.ref a] ∧ SqL K H a (ns.map V.int) ∧ ns.length ≤ 63 ∧ Tb T H ∧ ∀ H', Tb T H' → Q (.bl true) H'
theorem tb_kp {T : List Addr} {H H' : Hp} {d : Addr} (h : Tb T H) (k : Kp d H H') (dd : Dice H d) : Tb T H' := fun P hP => by
  obtain ⟨ps, e, ok⟩ := h P hP
  refine ⟨ps, k _ _ (fun z => ?_) e, ok⟩
  obtain ⟨x, y, zs, q, _⟩ := dd
  rw [z, q] at e
  cases e
theorem Dice.ext {H H' : Hp} {d : Addr} (h : Dice H d) (s : ExtT H H') : Dice H' d := by
  obtain ⟨x, y, zs, e, r⟩ := h
  exact ⟨x, y, zs, s _ _ e (fun ps z => nomatch z), r⟩
theorem eqv_intsT (ns : List Int) : PyData.eqv (.list (ns.map PyData.int)) (.list (ns.map PyData.int)) = true := by
  simp only [PyData.eqv]
  induction ns with
  | nil => simp [PyData.eqvAll]
  | cons n ns ih => simp [PyData.eqvAll, PyData.eqv, ih]
theorem canLay_intsT (ns : List Int) : PyData.canLayAll0 (ns.map PyData.int) = true := by
  induction ns with
  | nil => simp [PyData.canLayAll0]
  | cons n ns ih => simp [PyData.canLayAll0, PyData.canLay0, ih]
theorem depth_intsT (ns : List Int) : PyData.depthAll (ns.map PyData.int) ≤ 1 := by
  induction ns with
  | nil => simp [PyData.depthAll]
  | cons n ns ih =>
    simp [PyData.depthAll, PyData.depth]
    omega
theorem shaped_intsT (ns : List Int) : SeqAt.shaped (.list (ns.map PyData.int)) = true := by
  have h := depth_intsT ns
  simp [SeqAt.shaped, PyData.canLay0, PyData.depth, canLay_intsT]
  omega
end KT

/-! A head with tables of code objects that sees the interpreter's own statics too. -/
namespace KT
open PySem PySem.Spec PyProof.Rows L2
def frS (g : Addr → Option Obj) (n : Nat) : PySem.W.Frag := He.frT g (asS g n)
def obsXS (n : Nat) (fa : List He.Fa) (fn : List He.DefD) (ts : List He.Tab) (tf : List He.Defn) (ex : PySem.W.Frag → Bool) (g : Addr → Option Obj) : He.AlX := (He.obsT fa fn ts (frS g n), ex (frS g n) && He.tabsB g tf (frS g n))
theorem saysXS_of {n : Nat} {fa : List He.Fa} {fn : List He.DefD} {ts : List He.Tab} {tf : List He.Defn} {ex : PySem.W.Frag → Bool} {w : World} {h : Heap} (e : obsXS n fa fn ts tf ex h.get? = He.valX fn ts w) : He.SaysX fa fn ts tf ex w h (frS h.get? n) := by
  have e2 : (ex (frS h.get? n) && He.tabsB h.get? tf (frS h.get? n)) = true := congrArg Prod.snd e
  rw [Bool.and_eq_true] at e2
  have key : ∀ p ∈ tf, PySem.W.codeHdIn (frS h.get? n) (He.cT (frS h.get? n) p).1 (He.cT (frS h.get? n) p).2 = true ∧ ∃ o, h.get? (He.cT (frS h.get? n) p).2 = some o ∧ He.emptyTab o = true := fun p hp => by
    have z := List.all_eq_true.mp e2.2 p hp
    rw [Bool.and_eq_true] at z
    refine ⟨z.1, ?_⟩
    have z2 := z.2
    split at z2
    · rename_i o q
      exact ⟨o, q, z2⟩
    · cases z2
  refine ⟨congrArg Prod.fst e, e2.1, fun p hp => (key p hp).1, fun p hp => ?_, fun p hp => ?_⟩
  · obtain ⟨_, o, q, z⟩ := key p hp
    exact He.frT_none q z
  · obtain ⟨_, o, q, z⟩ := key p hp
    rw [q, He.emptyTab_eq z]
def hookXS (n : Nat) (fa : List He.Fa) (fn : List He.DefD) (ts : List He.Tab) (tf : List He.Defn) (ex : PySem.W.Frag → Bool) : PySem.W.Hook where
  α := He.AlX
  obs := fun s => obsXS n fa fn ts tf ex s.heap.get?
  val := fun w => He.valX fn ts w
  says := fun w h => ∃ K : PySem.W.Frag, K.In h ∧ He.SaysX fa fn ts tf ex w h K
  of := fun _ _ e => ⟨_, He.frT_in, saysXS_of e⟩
  keeps := fun _ _ _ ⟨K, hK, c⟩ k => ⟨K, PySem.W.Frag.In.keeps hK k, ⟨c.t, c.more, c.hd, c.out, fun p hp => k _ _ (c.empty p hp)⟩⟩
theorem obsXS_eq {n : Nat} {fa : List He.Fa} {fn : List He.DefD} {ts : List He.Tab} {tf : List He.Defn} {ex : PySem.W.Frag → Bool} {g : Addr → Option Obj} {s : Shared} (h : ∀ a, g a = s.heap.get? a) : obsXS n fa fn ts tf ex g = (hookXS n fa fn ts tf ex).obs s := by
  have e : g = s.heap.get? := funext h
  rw [e] <;> rfl
theorem codeAt_of {K : PySem.W.Frag} {p : Str × Option Str} {x qual : Str} {params : Arguments} {body : List Stmt} {scope : Scope} {dvs : List V} {kws : List (Str × V)} {fd : FuncData} (F : FunD K x qual params body scope dvs kws (He.fAd K p) fd) : CodeAt K (He.fAd K p) (He.cT K p).1 := by
  obtain ⟨oc, od, dV, kV, doc, pm, an, cdv, ct, osl, e, lk, cd, _, _⟩ := F.ex
  obtain ⟨c, rfl⟩ := He.codeIn_ref cd
  have ec : fd.code = .ref c := by rw [e] <;> rfl
  refine ⟨oc, od, fd, osl, lk, ?_⟩
  rw [ec]
  exact congrArg Value.ref (He.codeOf_eq lk ec).symm
def intsB (K : PySem.W.Frag) (a : Addr) (kv : List (Int × Str)) : Bool := match K.lookup a with
  | some ⟨.type c, none, .dict es _, sl⟩ => decide (c = "dict") && (sl.isEmpty && decide (es.toList.map entI = kv.map fun p => some (p.1, p.2, hashInt p.1)))
  | _ => false
theorem intsB_ok {K : PySem.W.Frag} {a : Addr} {kv : List (Int × Str)} (h : intsB K a kv = true) : KInts K a kv := by
  unfold intsB at h
  split at h
  · rename_i c es n sl q
    simp only [Bool.and_eq_true, decide_eq_true_eq] at h
    obtain ⟨rfl, h2, h3⟩ := h
    have hs : sl = #[] := by simpa using h2
    rw [hs] at q
    exact ⟨es, n, q, h3⟩
  · cases h
theorem krz_of {K : PySem.W.Frag} {x : Str} (c : (He.Fa.exc x).ok K = true) : KRz K (He.ga K x) := by
  obtain ⟨h1, h2, h3, h4⟩ := He.exc_ok c
  exact ⟨h1, h2, h3, h4⟩
theorem tabB_to {base : Heap} {mg : Str → Option Value} {c P : Addr} (h : LamX.TabB base mg c P) : GxR.TabB base mg c P := ⟨h.code, h.bm, h.gP⟩
theorem tb_empty {cs : List (Addr × Addr)} {H : Hp} (h : ∀ p ∈ cs, H p.2 = some (.tbl #[])) : Tb (cs.map (·.2)) H := fun P hP => by
  obtain ⟨p, hp, rfl⟩ := List.mem_map.mp hP
  exact ⟨#[], h p hp, by trivial⟩
end KT

/-! Own rules: lambdas without parameters that are kept in a list, handed to a def, and called there within a try. -/
namespace KT
open PySem PySem.Spec PyProof.Rows L2
/-! ### the made lambda -/
/-- its words, the cells that it captured, its code object -/
structure LD where
  qual : Str
  params : Arguments
  body : Expr
  scope : Scope
  cl : List (Str × Addr)
  c : Addr
def lamA : Expr → Arguments
  | .Lambda a _ _ _ => a
  | _ => ⟨[], [], none, [], [], none, []⟩
def lamB : Expr → Expr
  | .Lambda _ b _ _ => b
  | e => e
def lamSc (d : Scope) : Expr → Scope
  | .Lambda _ _ s _ => s
  | _ => d
abbrev LD.ob (F : LD) (pm ctv : Value) : Obj := PySem.W.kla_obj "<lambda>" F.qual F.params F.body F.scope F.cl pm F.c ctv
def LamO (f : Addr) (F : LD) : HO := .ext fun h => ∃ pm ctv : Value, h.get? f = some (F.ob pm ctv)
theorem lamO_tbl {f : Addr} {F : LD} (ps : Array Value) : LamO f F ≠ .tbl ps := fun z => by
  unfold LamO at z
  cases z
theorem lamO_at {P : Program} {w : World} {H : Hp} {h : Heap} {f : Addr} {F : LD} (hok : HOk P w H h) (e : H f = some (LamO f F)) : ∃ pm ctv : Value, h.get? f = some (F.ob pm ctv) := (hok f _ e).1
section
variable {X : Cx} {pins : List (Addr × Obj)} {σ : L2.St} {H : Hp} {s : Shared}
theorem inv_lamO {F : LD} {tk : Nat} {pm ctv : Value} (I : Inv X pins σ H s) :
    Inv X pins σ (upd H s.heap.objs.size (LamO s.heap.objs.size F)) { s with heap := s.heap.push (F.ob pm ctv), toks := tk } := by
  have there : (s.heap.push (F.ob pm ctv)).get? s.heap.objs.size = some (F.ob pm ctv) := Heap.get?_push_size _ rfl
  refine I.laid (a := s.heap.objs.size) (fun b u e => Heap.get?_push_of_some _ e) (Nat.le_refl _) ?_
  exact ⟨⟨pm, ctv, there⟩, ⟨_, there⟩, fun h1 h2 ⟨p, c, z⟩ st => ⟨p, c, st _ z⟩⟩
/-- the lambda is made: its code object is new or found; all but the table stays -/
theorem lam_mk {c P : Addr} {params : Arguments} {body : Expr} {scope : Scope} {pos : Pos} {E Q : Value → Shared → Prop} (I : Inv X pins σ H s) (TB : LamX.TabB X.base X.mg c P) (hcode : X.env.code = .ref c) (hT : LamX.TabS H P (X.env.qual ++ "<lambda>"))
    (hdef : defaultsOf params X.env = ([], [])) (caps : ∀ y ∈ scope.names, y.2 = .free → ∃ c, X.env.cells.lookup y.1 = some c)
    (h : ∀ (f c' : Addr) (H1 : Hp) (s' : Shared), Inv X pins σ H1 s' → Kp P H H1 → LamX.TabS H1 P (X.env.qual ++ "<lambda>") → H f = none → H1 f = some (LamO f ⟨X.env.qual ++ "<lambda>", params, body, scope, cloFrom X.env.cells scope.names [], c'⟩) →
      H1 c' = some (LamX.CodeO c' (X.env.qual ++ "<lambda>")) → Q (.ref f) s') :
    wpAny (model X.prog X.w) X.A (eval (.Lambda params body scope pos) X.env) Q E s := by
  obtain ⟨ps, hP, okT, named⟩ := id hT
  have gP : s.heap.get? P = some { cls := .none, data := .fields ps } := I.hok P _ hP
  have gB := TB.bm.keeps I.bk
  have gN := I.mod.glob.keeps I.bk
  have gC := TB.code.keeps I.bk
  refine PySem.W.kla_eval hdef ?_
  cases q : codeAmong pos ps.toList with
  | some cv =>
    obtain ⟨c', rfl, hco⟩ := named pos cv q
    refine PySem.W.kla_makeFunctionHit (closure_ok caps) I.ok.glob gN hcode gC gP okT q gB fun ctv h' tk more big => ?_
    have I1 : Inv X pins σ H { s with heap := h', toks := tk } := I.kept more
    have nF : H h'.objs.size = none := I1.hok.fresh (Nat.le_refl _)
    have I2 := inv_lamO (F := ⟨X.env.qual ++ "<lambda>", params, body, scope, cloFrom X.env.cells scope.names [], c'⟩) (tk := tk) (pm := (X.mg "__name__").getD .none) (ctv := ctv) I1
    have sF : Same H _ := sm (o := LamO h'.objs.size ⟨X.env.qual ++ "<lambda>", params, body, scope, cloFrom X.env.cells scope.names [], c'⟩) nF
    exact h _ c' _ _ I2 (.of sF) (hT.ext sF) nF upd_same (sF _ _ hco)
  | none =>
    refine PySem.W.kla_makeFunction (closure_ok caps) I.ok.glob gN hcode gC gP okT q TB.gP gB fun c' ctv h' tk more low high rec_ tab => ?_
    obtain ⟨_, oc, vs, t, ec, ho, hd, hv⟩ := rec_
    cases ec
    have nC : H c' = none := I.hok.fresh low
    have I1 := LamX.inv_table (t' := tk) (more := #[rawInt pos.line, rawInt pos.col, .ref c']) (h' := h') I hP (fun b o n e => more b o n e) tab low ⟨oc, vs, t, ho, hd, hv⟩
    have nF := I1.hok.fresh (Nat.le_refl _)
    have I2 := inv_lamO (F := ⟨X.env.qual ++ "<lambda>", params, body, scope, cloFrom X.env.cells scope.names [], c'⟩) (tk := tk) (pm := (X.mg "__name__").getD .none) (ctv := ctv) I1
    have sF : Same (upd (upd H P (.tbl (ps ++ #[rawInt pos.line, rawInt pos.col, .ref c']))) c' (LamX.CodeO c' (X.env.qual ++ "<lambda>"))) _ := sm (o := LamO h'.objs.size ⟨X.env.qual ++ "<lambda>", params, body, scope, cloFrom X.env.cells scope.names [], c'⟩) nF
    have k1 : Kp P H (upd (upd H P (.tbl (ps ++ #[rawInt pos.line, rawInt pos.col, .ref c']))) c' (LamX.CodeO c' (X.env.qual ++ "<lambda>"))) := fun b o n e => by
      rw [upd_ne (ne_of_none e nC), upd_ne n]
      exact e
    have nPc : P ≠ c' := ne_of_none hP nC
    refine h h'.objs.size c' _ _ I2 (k1.then sF) ?_ ?_ upd_same (sF _ _ upd_same)
    · refine LamX.TabS.ext ⟨ps ++ #[rawInt pos.line, rawInt pos.col, .ref c'], by rw [upd_ne nPc, upd_same], ?_, fun p' cv hcv => ?_⟩ sF
      · simpa using PySem.TriplesOk_snoc _ _ _ _ okT
      · have hcv : codeAmong p' (ps.toList ++ [rawInt pos.line, rawInt pos.col, .ref c']) = some cv := by simpa using hcv
        rcases LamX.among_app _ okT hcv with z | z
        · obtain ⟨c0, e1, e2⟩ := named p' cv z
          refine ⟨c0, e1, ?_⟩
          rw [upd_ne (ne_of_none e2 nC), upd_ne fun z => by
            rw [z, hP] at e2
            exact LamX.codeO_ne ps (Option.some.inj e2).symm]
          exact e2
        · exact ⟨c', z, upd_same⟩
    · exact I.hok.fresh (Nat.le_trans low (Nat.le_of_lt high))
end
/-- the reading of a lambda: a new object; the table may grow -/
def tLamO (P : Addr) (q : Str) (mk : Addr → LD) : TE := fun _ H Q => LamX.TabS H P q ∧ ∀ (f c' : Addr) (H1 : Hp), Kp P H H1 → LamX.TabS H1 P q → H f = none → H1 f = some (LamO f (mk c')) → H1 c' = some (LamX.CodeO c' q) → Q (.ref f) H1
theorem pe_lam {X : Cx} {c P : Addr} {e : Expr} {d : Scope} {pos : Pos} (he : e = .Lambda (lamA e) (lamB e) (lamSc d e) pos) (TB : LamX.TabB X.base X.mg c P) (hcode : X.env.code = .ref c) (hdef : defaultsOf (lamA e) X.env = ([], []))
    (hfree : ∀ y ∈ (lamSc d e).names, y.2 = .free → X.env.scope.names.lookup y.1 = some .cell ∨ X.env.scope.names.lookup y.1 = some .free) :
    PE X e (tLamO P (X.env.qual ++ "<lambda>") fun c' => ⟨X.env.qual ++ "<lambda>", lamA e, lamB e, lamSc d e, cloFrom X.env.cells (lamSc d e).names [], c'⟩) := by
  refine ⟨fun pins s σ H Q I h => ?_⟩
  obtain ⟨hT, h⟩ := h
  have caps : ∀ y ∈ (lamSc d e).names, y.2 = .free → ∃ c, X.env.cells.lookup y.1 = some c := fun y hy z => I.ok.has _ ((hfree y hy z).imp id id)
  have go := lam_mk (E := X.xe) (Q := EP X pins σ Q) (body := lamB e) (pos := pos) I TB hcode hT hdef caps fun f c' H1 s' I1 k1 t1 n1 e1 e2 => ⟨.ref f, H1, I1, rfl, h f c' H1 k1 t1 n1 e1 e2⟩
  rw [← he] at go
  exact go
/-- as it is made in the def of X -/
def lamD (X : Cx) (d : Scope) (e : Expr) (c' : Addr) : LD := ⟨X.env.qual ++ "<lambda>", lamA e, lamB e, lamSc d e, cloFrom X.env.cells (lamSc d e).names [], c'⟩
abbrev LD.nf (F : LD) : NdefX.NF := ⟨"<lambda>", F.qual, F.params, [], F.scope, F.cl, F.c⟩
/-! ### what a lambda promises -/
abbrev LSp := List (Option V) → Hp → VK → XK → Prop
structure LOk (P : Program) (w : World) (K : PySem.W.Frag) (mg : Str → Option Value) (base : Heap) (CX : CXT) (k : Nat) (F : LD) (fr : List Str) (sp : LSp) : Prop where
  run : ∀ (A : Around) (outer : List Env) (s : Shared) (H : Hp) (f : Addr) (ws : List (Option V)) (Q : VK) (E : XK), Room k A → Env0 P w K mg base A outer s H → H f = some (LamO f F) → H F.c = some (LamX.CodeO F.c F.qual) → NdefX.CellsAt F.cl fr ws s.heap H → sp ws H Q E →
    codeAny (model P w) A (.call (.ref f) ⟨[], []⟩) (CR CX outer P w H s Q E) s
section
variable {CX : CXT} {P : Program} {w : World} {K : PySem.W.Frag} {mg : Str → Option Value} {base : Heap} {fr : List Str} {F : LD} {k j : Nat} {sp : LSp}
theorem LOk.mono (o : LOk P w K mg base CX j F fr sp) (h : j ≤ k) : LOk P w K mg base CX k F fr sp := ⟨fun A outer s H f ws Q E hr => o.run A outer s H f ws Q E (hr.mono h)⟩
/-- a lambda by its body -/
theorem lok_of (S : NdefX.NScope fr [] fr F.scope) (hb : ∀ (pm ctv : Value), bindArgs (PySem.W.kla_fn "<lambda>" F.qual F.params F.body F.scope F.cl pm (.ref F.c) ctv) ⟨[], []⟩ = pure [])
    (hbody : ∀ (A : Around) (outer : List Env) (s : Shared) (H : Hp) (f : Addr) (ws : List (Option V)) (Q : VK) (E : XK), Room k (A.deeper (NdefX.envF F.nf f s.heap.objs.size)) → ws.length = fr.length → sp ws H Q E →
      ∃ t, PE (NdefX.ncx CX P w K mg base fr F.nf f A outer s H E) F.body t ∧ t (NdefX.startF fr [] ws) H Q) : LOk P w K mg base CX (k + 1) F fr sp := by
  refine ⟨fun A outer s H f ws Q E hr e0 hf hc C hsp => ?_⟩
  have lim : s.heap.NoLimit := e0.mod.nolimit.keeps fun b o e => (e0.bs b o e).1
  obtain ⟨pm, ctv, ho⟩ := lamO_at e0.hok hf
  refine PySem.W.kla_callFunE hr.depth ho rfl S.co S.gen rfl (NdefX.codeO_at e0.hok hc) ?_
  rw [hb pm ctv]
  refine wpAny_pure (wpAny_newFunctionEnv S.nocell (fun y hy => absurd hy (by simp)) (fun h₁ ns sb => ⟨lim.fresh _ sb, ?_⟩) S.kind)
  show codeAny _ _ (.expr F.body (NdefX.envF F.nf f s.heap.objs.size)) _ _
  have kp : ∀ b o, s.heap.get? b = some o → h₁.get? b = some o := fun b o e => sb.extBut b o (Nat.ne_of_lt (Heap.lt_size e)) (Heap.get?_push_of_some _ e)
  obtain ⟨t, ht, q⟩ := hbody A outer s H f ws Q E (hr.deeper _) C.len hsp
  have I : Inv (NdefX.ncx CX P w K mg base fr F.nf f A outer s H E) [] (NdefX.startF fr [] ws) H { s with heap := h₁, toks := s.toks + ([] : List (Str × Value)).length } := NdefX.inv_startN (ps := []) (us := []) S hr.hd e0 rfl .nil C ns kp
  refine PySem.W.kla_codeExpr (wpAny_mono (ht.run [] _ _ H Q I q) (fun u s' hq => ?_) fun e s' hq => hq)
  obtain ⟨v, H', J, rv, q'⟩ := hq
  exact ⟨v, H', J.os, J.bare, J.base, J.hok, rv, q'⟩
end
/-- x(): the lambda that the parameter i holds, in the body of the def entered at s0, H0 -/
def tAct (P : Program) (w : World) (K : PySem.W.Frag) (mg : Str → Option Value) (base : Heap) (s0 : Shared) (H0 : Hp) (k i : Nat) (W : L2.St → XK) : TE := fun σ H Q => ∃ (f : Addr) (F : LD) (fr : List Str) (ws : List (Option V)) (sp : LSp),
  σ[i]? = some (some (.ref f)) ∧ H f = some (LamO f F) ∧ H F.c = some (LamX.CodeO F.c F.qual) ∧ LOk P w K mg base (L2N.CX P w) k F fr sp ∧ NdefX.CellsAt F.cl fr ws s0.heap H0 ∧ sp ws H Q (W σ)
theorem cells_un {fs ex : List Addr} {H H' : Hp} {h h' : Heap} {cl : List (Str × Addr)} {fr : List Str} {ws : List (Option V)} (C : NdefX.CellsAt cl fr ws h H) (u : Un fs ex H H' h h') (hx : ∀ y c, cl.lookup y = some c → c ∉ ex) : NdefX.CellsAt cl fr ws h' H' := by
  have stay : ∀ {y : Str} {c : Addr} {v : Option Value}, cl.lookup y = some c → h.IsCell c v → h'.IsCell c v := fun {y c v} e ⟨o, ho, hd⟩ => by
    obtain ⟨sl, q⟩ := u.any ho (C.all y c e).1 (hx y c e)
    exact ⟨_, q, hd⟩
  refine ⟨C.len, fun y c e => ?_, C.inj, fun i y e => ?_⟩
  · obtain ⟨n, v, z⟩ := C.all y c e
    obtain ⟨o, ho, _⟩ := id z
    exact ⟨u.free c o ho n (hx y c e), v, stay e z⟩
  · obtain ⟨c, h1, h2⟩ := C.has i y e
    refine ⟨c, h1, fun v hv => ?_⟩
    obtain ⟨x, r, z⟩ := h2 v hv
    exact ⟨x, r, stay h1 z⟩
theorem pe_actL {X : Cx} {W : WX} {P : Program} {w : World} {K : PySem.W.Frag} {mg : Str → Option Value} {base : Heap} {s0 : Shared} {H0 : Hp} {k i : Nat} {a : Str} {p1 p2 : Pos} (e1 : X.prog = P) (e2 : X.w = w) (e3 : X.K = K) (e4 : X.mg = mg) (e5 : X.base = base) (e6 : X.s_0 = s0) (e7 : X.H_0 = H0)
    (tk : L2N.Takes X W) (hex : X.ex = []) (hr : Room k X.A) (hN : X.N[i]? = some a) (hv : Vis X.env.scope a) (hd : (a == ("__debug__" : Str)) = false := by decide) (hcd : (a == ("__classdict__" : Str)) = false := by decide) :
    PE X (.Call (.Name a p1) [] [] p2) (tAct P w K mg base s0 H0 k i (WE W)) := by
  subst e1 e2 e3 e4 e5 e6 e7
  refine ⟨fun pins s σ H Q I h => ?_⟩
  obtain ⟨f, F, fr, ws, sp, hs, hf, hc, L, C, q⟩ := h
  refine wpAny_Call_Name_kw (thn ((pe_var (pos := p1) (i := i) hN hv hd hcd).run pins s σ H (fun v H1 => v = .ref f ∧ H1 = H) I ⟨.ref f, hs, rfl, rfl⟩) fun u s1 ⟨v, H1, I1, r1, ev, eH⟩ => ?_)
  subst ev
  subst eH
  obtain rfl : u = Value.ref f := r1
  obtain ⟨pm, ctv, ho⟩ := lamO_at I1.hok hf
  refine PySem.W.callWith_F0 ⟨_, _, _, _, ho⟩ ?_
  have C1 : NdefX.CellsAt F.cl fr ws s1.heap H1 := cells_un C I1.base fun _ _ _ z => by
    rw [hex] at z
    cases z
  refine wpAny_call (codeAny_mono (L.run X.A X.stack s1 H1 f ws Q (WE W σ) hr I1.env0 hf hc C1 q) fun r s' hq => ?_)
  cases r with
  | error e => exact L2N.passAt tk σ _ _ _ e s' I1 hq
  | ok fl =>
    cases fl with
    | ret u => exact I1.after hq
    | next => exact False.elim hq
    | brk => exact False.elim hq
    | cont => exact False.elim hq
/-! ### a def that gets a lambda and calls it -/
/-- the def x, handed a lambda that keeps sp (its cells told), keeps TT sp -/
structure KRef (P : Program) (w : World) (K : PySem.W.Frag) (mg : Str → Option Value) (base : Heap) (k j : Nat) (x : Str) (TT : (Hp → VK → XK → Prop) → List V → Hp → VK → Prop) : Prop where
  ex : ∃ g : Addr, mg x = some (.ref g) ∧ PySem.W.keepIn K (.ref g) = true ∧ ∀ (A : Around) (outer : List Env) (s : Shared) (H : Hp) (f : Addr) (F : LD) (fr : List Str) (ws : List (Option V)) (sp : LSp) (us : List Value) (vs : List V) (Q : VK), Room k A → Env0 P w K mg base A outer s H →
    LOk P w K mg base (L2N.CX P w) j F fr sp → H f = some (LamO f F) → H F.c = some (LamX.CodeO F.c F.qual) → NdefX.CellsAt F.cl fr ws s.heap H → Vals vs us → TT (sp ws) vs H Q → codeAny (model P w) A (.call (.ref g) ⟨.ref f :: us, []⟩) (CR CX0 outer P w H s Q E0) s
theorem Src.okRef {P : Program} {w : World} {K : PySem.W.Frag} {mg : Str → Option Value} {base : Heap} {x : Str} {st : Stmt} {N ps : List Str} {k j : Nat} {TT : (Hp → VK → XK → Prop) → List V → Hp → VK → Prop} (S : Src K mg x st) (sc : FnScope N ps (defScope st))
    (hb : ∀ (kV doc pm : Value) (an : Option Addr) (cdv ct : Value) (us : List Value), us.length = ps.length → bindArgs (PySem.W.fnOf x x (defArgs st) (defBody st) (defScope st) .none kV doc pm an cdv ct) ⟨us, []⟩ = pure (ps.zip us))
    (len : ∀ sp vs H Q, TT sp vs H Q → vs.length + 1 = ps.length)
    (hbody : ∀ (g : Addr) (cdv : Value) (A : Around) (outer : List Env) (s : Shared) (H : Hp) (f : Addr) (F : LD) (fr : List Str) (ws : List (Option V)) (sp : LSp) (vs : List V) (Q : VK), Room k (A.deeper (envOfC x (defScope st) s.heap.objs.size g cdv)) →
      LOk P w K mg base (L2N.CX P w) j F fr sp → H f = some (LamO f F) → H F.c = some (LamX.CodeO F.c F.qual) → NdefX.CellsAt F.cl fr ws s.heap H → TT (sp ws) vs H Q →
      ∃ t, PSs (cxOf CX0 P w K mg base N x (defScope st) g cdv A outer s H E0).nox (defBody st) t ∧ t { nx := fun _ H' => Q .non H', rt := Q } (start N (.ref f :: vs)) H) : KRef P w K mg base (k + 1) j x TT := by
  obtain ⟨g, fd, hm, FD⟩ := S.ex
  refine ⟨g, hm, FD.kp, fun A outer s H f F fr ws sp us vs Q hr e0 L hf hc C r h => ?_⟩
  have bnd := FD.bindsN hb
  have K2 := FD.ex
  obtain ⟨oc, od, dV, kV, doc, pm, an, cdv, ct, osl, rfl, lk, hcd, _, _⟩ := K2
  have KX : K.In s.heap := e0.mod.kin.keeps fun b o e => (e0.bs b o e).1
  have r2 : Vals (V.ref f :: vs) (Value.ref f :: us) := .cons rfl r
  have hl := len _ _ _ _ h
  have e3 : (Value.ref f :: us).length = ps.length := by
    rw [← r2.length]
    simpa using hl
  have bi := bnd s (Value.ref f :: us) KX (by rw [List.append_nil]; exact e3)
  rw [List.append_nil] at bi
  refine LamX.run_ofS (N := N) (ps := ps) (us := Value.ref f :: us) (vs := V.ref f :: vs) lk hcd sc hr e0 bi r2 (by rw [r2.length]; exact e3) fun hr2 => ?_
  obtain ⟨t, ht, q⟩ := hbody g cdv A outer s H f F fr ws sp vs Q hr2 L hf hc C h
  exact ⟨t, ht.nox, q⟩
/-- how a lambda lies to the def of X -/
structure LFit (X : Cx) (F : LD) (fr : List Str) (js : List Nat) : Prop where
  cl : F.cl = cloFrom X.env.cells F.scope.names []
  cap : ∀ y ∈ F.scope.names, y.2 = .free → X.env.scope.names.lookup y.1 = some .cell ∨ X.env.scope.names.lookup y.1 = some .free
  mem : ∀ y ∈ fr, (y, NameKind.free) ∈ F.scope.names
  js : js.map (fun j => X.N[j]?) = fr.map some
/-- x(lambda, ..), told at the slots σ0 of X -/
def tRef (X : Cx) (j : Nat) (TT : (Hp → VK → XK → Prop) → List V → Hp → VK → Prop) (t : TA) (σ0 : L2.St) : TE := fun σ H Q => t σ H fun vs H1 => ∃ (f : Addr) (F : LD) (fr : List Str) (js : List Nat) (sp : LSp) (rest : List V), vs = .ref f :: rest ∧ H1 f = some (LamO f F) ∧ H1 F.c = some (LamX.CodeO F.c F.qual) ∧
  LFit X F fr js ∧ LOk X.prog X.w X.K X.mg X.base (L2N.CX X.prog X.w) j F fr sp ∧ TT (sp (js.map (NdefX.slotAt σ0))) rest H1 Q
section
variable {X : Cx} {pins : List (Addr × Obj)} {σ σ0 : L2.St} {H H0 : Hp} {s s0 : Shared}
theorem cells_fit {F : LD} {fr : List Str} {js : List Nat} (I : Inv X pins σ H s) (L : LFit X F fr js) : NdefX.CellsAt F.cl fr (js.map (NdefX.slotAt σ)) s.heap H := by
  rw [L.cl]
  exact NdefX.cells_of I (NdefX.Caps.made I.ok L.cap L.mem L.js)
theorem fit_sub {F : LD} {fr : List Str} {js : List Nat} (I : Inv X pins σ H s) (L : LFit X F fr js) {y : Str} {c : Addr} (h : F.cl.lookup y = some c) : X.env.cells.lookup y = some c := by
  rw [L.cl] at h
  exact (NdefX.Caps.made I.ok L.cap L.mem L.js).sub y c h
/-- in the def itself -/
theorem pe_refL {x : Str} {k j : Nat} {TT : (Hp → VK → XK → Prop) → List V → Hp → VK → Prop} {e : Expr} {es : List Expr} {t : TA} {p pos : Pos} (D : KRef X.prog X.w X.K X.mg X.base k j x TT) (hr : Room k X.A) (hg : Gl X x) (ha : PA X (e :: es) t) (hdb : (x == ("__debug__" : Str)) = false := by decide)
    (he : starEach (e :: es) X.env = (false, eval e X.env) :: starEach es X.env := by rfl) (hpl : (backTo pos (starEach es X.env)).any (·.1) = false := by rfl) :
    PE X (.Call (.Name x p) (e :: es) [] pos) (fun σ => tRef X j TT t σ σ) := by
  obtain ⟨g, hm, hk, run⟩ := D.ex
  refine ⟨fun pins s σ H Q I h => ?_⟩
  refine wpAny_Call_Name_kw (ld_glob I hg hm ?_ hdb)
  refine PySem.W.callWith_K (h₀ := X.base) I.ok.mod.kin hk (thn (ha.run pos pins s σ H _ I h) fun us s1 ⟨vs, H1, I1, r, q⟩ => ⟨I1.kIn, ?_⟩) he hpl
  obtain ⟨f, F, fr, js, sp, rest, rfl, hf, hc, fit, L, q⟩ := q
  cases r with
  | @cons _ u0 _ ur ra rr =>
    obtain rfl : u0 = Value.ref f := ra
    refine wpAny_call (codeAny_mono (run X.A X.stack s1 H1 f F fr _ sp ur rest Q hr I1.env0 L hf hc (cells_fit I1 fit) rr q) fun r s' hq => ?_)
    cases r with
    | error e => exact False.elim hq
    | ok fl =>
      cases fl with
      | ret u => exact I1.after hq
      | next => exact False.elim hq
      | brk => exact False.elim hq
      | cont => exact False.elim hq
/-- in a block of the def that begins at s0 -/
theorem pe_refB {x : Str} {k j : Nat} {TT : (Hp → VK → XK → Prop) → List V → Hp → VK → Prop} {e : Expr} {es : List Expr} {t : TA} {p pos : Pos} {scope : Scope} {ce : Env} {fp : List Addr} (I0 : Inv X pins σ0 H0 s0) (hfp : ∀ b ∈ fp, FpOk X pins H0 b) (D : KRef X.prog X.w X.K X.mg X.base k j x TT) (hr : Room k X.A)
    (hg : Gl (X.blk s0 H0 scope ce fp) x) (ha : PA (X.blk s0 H0 scope ce fp) (e :: es) t) (hdb : (x == ("__debug__" : Str)) = false := by decide)
    (he : starEach (e :: es) ce = (false, eval e ce) :: starEach es ce := by rfl) (hpl : (backTo pos (starEach es ce)).any (·.1) = false := by rfl) :
    PE (X.blk s0 H0 scope ce fp) (.Call (.Name x p) (e :: es) [] pos) (tRef X j TT t σ0) := by
  obtain ⟨g, hm, hk, run⟩ := D.ex
  refine ⟨fun pins s σ H Q I h => ?_⟩
  refine wpAny_Call_Name_kw (ld_glob I hg hm ?_ hdb)
  refine PySem.W.callWith_K (h₀ := X.base) I.ok.mod.kin hk (thn (ha.run pos pins s σ H _ I h) fun us s1 ⟨vs, H1, I1, r, q⟩ => ⟨I1.kIn, ?_⟩) he hpl
  obtain ⟨f, F, fr, js, sp, rest, rfl, hf, hc, fit, L, q⟩ := q
  have C := cells_un (cells_fit I0 fit) I1.base fun y c e hb => (hfp c hb).2.2.2.2.1 y c (fit_sub I0 fit e) rfl
  cases r with
  | @cons _ u0 _ ur ra rr =>
    obtain rfl : u0 = Value.ref f := ra
    refine wpAny_call (codeAny_mono (run X.A X.stack s1 H1 f F fr _ sp ur rest Q hr I1.env0 L hf hc C rr q) fun r s' hq => ?_)
    cases r with
    | error e => exact False.elim hq
    | ok fl =>
      cases fl with
      | ret u => exact I1.after hq
      | next => exact False.elim hq
      | brk => exact False.elim hq
      | cont => exact False.elim hq
end
/-! ### a comprehension whose tests call lambdas of the def -/
/-- the rules of a comprehension's parts, in the block's context -/
structure LcI (X : Cx) (tg elt : Expr) (ifs : List Expr) (scope : Scope) (g : TG) (tt : L2.St → TT) (te : TE) : Prop where
  tg : ∀ (s : Shared) (H : Hp) (C : Addr) (cl : List (Str × Addr)) (fp : List Addr), PG (X.blk s H scope (compEnvC scope cl C X.env) fp) tg g
  ifs : ∀ (pins : List (Addr × Obj)) (σ0 : L2.St) (s : Shared) (H : Hp) (C : Addr) (cl : List (Str × Addr)) (fp : List Addr), Inv X pins σ0 H s → (∀ b ∈ fp, FpOk X pins H b) → PTs (X.blk s H scope (compEnvC scope cl C X.env) fp) ifs (tt σ0)
  elt : ∀ (s : Shared) (H : Hp) (C : Addr) (cl : List (Str × Addr)) (fp : List Addr), PE (X.blk s H scope (compEnvC scope cl C X.env) fp) elt te
/-- the state between two turns -/
def LcSi (X : Cx) (s3 : Shared) (H3 : Hp) (scope : Scope) (ce : Env) (fp : List Addr) (σ : L2.St) (tn : Nat → Heap → Prop) (W : Nat → Nat → Hp → Prop) (n : Nat) (s : Shared) : Prop :=
  ∃ i H, Inv (X.blk s3 H3 scope ce fp) [] σ H s ∧ tn i s.heap ∧ (∀ b ∈ fp, H b = none) ∧ W i n H
theorem lc_turnsI {X : Cx} {s3 s4 : Shared} {H3 : Hp} {scope : Scope} {ce : Env} {fp : List Addr} {σ : L2.St} {tn : Nat → Heap → Prop} {W : Nat → Nat → Hp → Prop} {elt tg iter : Expr} {ifs : List Expr} {pos : Pos} {g : TG} {tt : TT} {te : TE} {J : It} {it D : Addr} {R : Result → Shared → Prop} {Qd : Hp → Prop} {m0 : Nat} {vs : List Nat}
    (hc : X.calm = true) (T : Turn X.prog X.w X.K tg J fp it tn) (fpo : ∀ (H' : Hp) (s' : Shared) (σ' : L2.St), Inv (X.blk s3 H3 scope ce fp) [] σ' H' s' → (∀ b ∈ fp, H' b = none) → ∀ b ∈ fp, FpOk (X.blk s3 H3 scope ce fp) [] H' b)
    (pg : PG (X.blk s3 H3 scope ce fp) tg g) (pt : PTs (X.blk s3 H3 scope ce fp) ifs tt) (pe : PE (X.blk s3 H3 scope ce fp) elt te)
    (turn : ∀ i m H, W i m H → (J.stop i H ∧ Qd H) ∨ (J.go i H ∧ ∃ Nx : Hp → Prop, (∀ H', Nx H' → ∃ m', m' < m ∧ W (i + 1) m' H') ∧ ∀ x H', J.yld i H x H' → g x (wipe σ vs) H' fun σ2 H2 => wipe σ2 vs = wipe σ vs ∧ tt σ2 H2 fun b H3 =>
      if b = true then te σ2 H3 fun y H4 => ∃ acc, H4 D = some (.lst acc) ∧ acc.length < sizeLine ∧ Nx (upd H4 D (.lst (acc ++ [y]))) else Nx H3))
    (end_ : ∀ (s' : Shared) (H' : Hp), Inv (X.blk s3 H3 scope ce fp) [] (wipe σ vs) H' s' → Qd H' → R (.ok .next) s')
    (st0 : LcSi X s3 H3 scope ce fp (wipe σ vs) tn W m0 s4) :
    codeAny (model X.prog X.w) X.A (.compLoop (.ListComp elt [⟨tg, iter, ifs, 0⟩] scope pos) 0 (.ref it) (.ref D) ce) R s4 := by
  refine compLoop_any (LcSi X s3 H3 scope ce fp (wipe σ vs) tn W) ?_ m0 st0
  rintro n s5 ⟨i, H5, I5, st5, n5, w5⟩
  rcases turn i n H5 w5 with ⟨stop, qq⟩ | ⟨go, Nx, hNx, step⟩
  · refine thnF (T.done (X.blk s3 H3 scope ce fp) rfl rfl rfl hc i [] s5 _ H5 (fun _ _ => False) I5 (fpo _ _ _ I5 n5) st5 stop) fun r s6 ⟨hr, I6⟩ => ?_
    subst hr
    exact end_ s6 H5 I6 qq
  · refine thnF (T.item (X.blk s3 H3 scope ce fp) rfl rfl rfl hc i [] s5 _ H5 (fun _ _ => False) I5 (fpo _ _ _ I5 n5) st5 go) fun r s6 ⟨u, hr, h6⟩ => ?_
    subst hr
    refine thnF h6 fun _ s7 ⟨x, H7, I7, r7, y7, st7, n7⟩ => ?_
    have ob := T.obj _ _ st7
    have I8 := I7.pinned (fpo _ _ _ I7 n7) ob
    refine thnF (pg.run _ s7 _ H7 x u _ I8 r7 (step x H7 y7)) fun _ s8 ⟨σ8, H8, I9, hw8, q8⟩ => ?_
    refine thnF (pt.run _ s8 σ8 H8 _ I9 q8) fun b s9 ⟨H9, I10, q9⟩ => ?_
    have next : ∀ {s' : Shared} {H' : Hp}, Inv (X.blk s3 H3 scope ce fp) ([] ++ pinsAt fp s7.heap) σ8 H' s' → Nx H' → ∃ m, m < n ∧ LcSi X s3 H3 scope ce fp (wipe σ vs) tn W m s' := fun {s' H'} I' nx => by
      obtain ⟨m', hm, w'⟩ := hNx H' nx
      have keeps : ∀ b ∈ fp, ∀ o, s7.heap.get? b = some o → s'.heap.get? b = some o ∧ H' b = none := fun b hb o e => by
        obtain ⟨z1, z2, _⟩ := I'.pin (b, o) (List.mem_append_right _ (List.mem_append_right _ (mem_pinsAt hb e)))
        exact ⟨z1, z2⟩
      refine ⟨m', hm, i + 1, H', ?_, T.keep _ _ _ st7 fun b hb o e => (keeps b hb o e).1, fun b hb => ?_, w'⟩
      · refine (I'.unpinned (pins := [])).weak ?_ fun j v e => ?_
        · rw [← hw8, wipe_length]
        · rw [← hw8] at e
          exact (wipe_some e).1
      · obtain ⟨o, e, _⟩ := ob b hb
        exact (keeps b hb o e).2
    cases b with
    | false =>
      rw [if_neg (by decide)] at q9
      rw [if_neg (by decide)]
      exact next I10 q9
    | true =>
      rw [if_pos rfl] at q9
      rw [if_pos rfl]
      refine thnF (pe.run _ s9 σ8 H9 _ I10 q9) fun z s10 ⟨yv, H10, I11, r10, acc, hD, hz, nx⟩ => ?_
      exact app_ok (X := X.blk s3 H3 scope ce fp) I11 hD hz r10 fun s11 I12 => next I12 nx
theorem lc_coreI {X : Cx} {pins : List (Addr × Obj)} {s : Shared} {σ : L2.St} {H : Hp} {Q : VK} {elt tg iter : Expr} {ifs : List Expr} {scope : Scope} {own : List (Str × Nat)} {pos pos' : Pos} {wi : TI} {g : TG} {tt : L2.St → TT} {te : TE} {use : Option (Value → Sem Unit)} {Qf : Value → Shared → Prop}
    (hc : X.calm = true) (hN : X.N.Nodup) (I : Inv X pins σ H s) (hi : PI X tg iter wi) (ok : BlkOk X.N X.env.scope scope own) (B : LcI X tg elt ifs scope g tt te) (hs : ∀ x, foldedSetIterable iter X.env x = pure x)
    (h : tLc wi g (tt σ) te (own.map (·.2)) σ H Q)
    (hRR : ∀ D C s' m H', Inv X pins σ H' s' → Q (.ref D) H' → s'.heap.Ns C m → FpOk X pins H' C → compPost (model X.prog X.w) X.A X.xe use Qf (.ref D) C (.ok .next) s') :
    wpAny (model X.prog X.w) X.A (comprehension (.ListComp elt [⟨tg, iter, ifs, 0⟩] scope pos) scope X.env pos' (newList []) false (eval iter X.env) use) Qf X.xe s := by
  have caps : ∀ y ∈ scope.names, y.2 = .free → ∃ c, X.env.cells.lookup y.1 = some c := fun y hy e => I.ok.has _ ((ok.free y hy e).imp id id)
  refine wpAny_comprehension_free (use := use) rfl hs (closure_ok caps) ok.kind (fun y hy e => by rw [ok.uniq y hy, e]) (thn (hi.run pins s σ H _ I h) fun xv s1 hx => thn hx fun itv s2 h2 => ?_)
  obtain ⟨it, fp, tn, J, H2, e, I2, T, st2, f2, q⟩ := h2
  subst e
  refine wpAny_newObj_type (newEnv_comp ?_) (by show 0 ≤ sizeLine; decide)
  obtain ⟨D, hD⟩ : ∃ D, s2.heap.objs.size = D := ⟨_, rfl⟩
  rw [hD]
  have nD : H2 D = none := I2.hok.fresh (Nat.le_of_eq hD)
  obtain ⟨W, ⟨m0, w0⟩, turn⟩ := q D nD
  obtain ⟨s3, hs3⟩ : ∃ s3 : Shared, ({ s2 with heap := s2.heap.push { cls := .type "list", data := .seq ([] : List Value).toArray } } : Shared) = s3 := ⟨_, rfl⟩
  have h3 : s3.heap = s2.heap.push { cls := .type "list", data := .seq ([] : List Value).toArray } := by rw [← hs3]
  have I3 : Inv X pins σ (upd H2 D (.lst [])) s3 := by
    rw [← hs3]
    refine I2.laid (t' := s2.toks) (fun b o e => Heap.get?_push_of_some _ e) (Nat.le_of_eq hD) ⟨Nat.zero_le _, [], 0, .nil, ?_⟩
    rw [← hD]
    exact Heap.get?_push_size _ rfl
  have f3 : ∀ b ∈ fp, FpOk X pins (upd H2 D (.lst [])) b ∧ b < s3.heap.objs.size := fun b hb => by
    obtain ⟨o, e, _⟩ := T.obj _ _ st2 b hb
    have lt := Heap.lt_size e
    obtain ⟨z1, z2⟩ := f2 b hb
    refine ⟨⟨?_, z2⟩, by rw [h3, Heap.size_push]; exact Nat.lt_succ_of_lt lt⟩
    rw [upd_ne (by rw [← hD]; exact Nat.ne_of_lt lt)]
    exact z1
  have st3 : tn 0 s3.heap := T.keep _ _ _ st2 fun b _ o e => by rw [h3]; exact Heap.get?_push_of_some _ e
  have I4 := block_start I3 ok hN f3
  have pg := B.tg s3 (upd H2 D (.lst [])) s3.heap.objs.size (cellsFrom (s3.heap.objs.size + 1) scope.names (cloFrom X.env.cells scope.names [])) fp
  have pt := B.ifs pins σ s3 (upd H2 D (.lst [])) s3.heap.objs.size (cellsFrom (s3.heap.objs.size + 1) scope.names (cloFrom X.env.cells scope.names [])) fp I3 (fun b hb => (f3 b hb).1)
  have pe := B.elt s3 (upd H2 D (.lst [])) s3.heap.objs.size (cellsFrom (s3.heap.objs.size + 1) scope.names (cloFrom X.env.cells scope.names [])) fp
  have hce : (compEnvC scope (cellsFrom (s3.heap.objs.size + 1) scope.names (cloFrom X.env.cells scope.names [])) s3.heap.objs.size X.env).locals = s3.heap.objs.size := rfl
  have goal : codeAny (model X.prog X.w) X.A (.compLoop (.ListComp elt [⟨tg, iter, ifs, 0⟩] scope pos) 0 (.ref it) (.ref D) (compEnvC scope (cellsFrom (s3.heap.objs.size + 1) scope.names (cloFrom X.env.cells scope.names [])) s3.heap.objs.size X.env))
      (compPost (model X.prog X.w) X.A X.xe use Qf (.ref D) s3.heap.objs.size) { s3 with heap := pushCells (s3.heap.push { cls := .type "dict", data := .dict #[] }) scope.names } := by
    refine lc_turnsI hc T (fun H' s' σ' I' hn b hb => ⟨hn b hb, (I'.ok.exf b hb).1, I'.ok.exfs b hb, .inl hb, fun x c e => (I'.ok.exf b hb).2 x c e, fun p hp => ?_⟩) pg pt pe turn (fun s' H' I6 qq => ?_)
      ⟨0, _, I4, T.keep _ _ _ st3 fun b _ o e => pushCells_keeps _ _ _ _ (Heap.get?_push_of_some _ e), fun b hb => (f3 b hb).1.1, w0⟩
    · cases hp
    · have I7 : Inv X pins σ H' s' := I3.call' (ch := fp) I6.os I6.base I6.hok I6.bare fun b hb => by
        obtain ⟨z0, z1, z2, z3, z4, z5⟩ := (f3 b hb).1
        exact ⟨z3, z1, z4, z5⟩
      obtain ⟨m, hn, _⟩ := I6.loc
      exact hRR D s3.heap.objs.size s' m H' I7 qq hn (I3.fpOk (Nat.le_refl _) I6.free)
  have st4 : tn 0 ({ s3 with heap := pushCells (s3.heap.push { cls := .type "dict", data := .dict #[] }) scope.names } : Shared).heap := T.keep _ _ _ st3 fun b _ o e => pushCells_keeps _ _ _ _ (Heap.get?_push_of_some _ e)
  subst hs3
  exact codeAny_compStart_list goal (T.self X.A 0 _ _ _ st4 goal)
/-- as a value -/
theorem pe_lcI {X : Cx} {elt tg iter : Expr} {ifs : List Expr} {scope : Scope} {own : List (Str × Nat)} {pos : Pos} {wi : TI} {g : TG} {tt : L2.St → TT} {te : TE} (hc : X.calm = true) (hN : X.N.Nodup) (hi : PI X tg iter wi) (ok : BlkOk X.N X.env.scope scope own)
    (B : LcI X tg elt ifs scope g tt te) (hs : ∀ x, foldedSetIterable iter X.env x = pure x := by intro _; rfl) : PE X (.ListComp elt [⟨tg, iter, ifs, 0⟩] scope pos) (fun σ => tLc wi g (tt σ) te (own.map (·.2)) σ) := by
  refine ⟨fun pins s σ H Q I h => ?_⟩
  rw [eval_ListComp]
  refine lc_coreI hc hN I hi ok B hs h fun D C s' m H' I' q hn f => ⟨m, hn, fun h'' sb => ?_⟩
  obtain ⟨f0, f1, f2, f3, f4, f5⟩ := f
  exact ⟨.ref D, H', I'.turned (t' := s'.toks) (fun b o hb e => (sb.2 b hb).trans e) f0 f1 f3 f4 f5, rfl, q⟩
/-! ### a law whose code object is known; where its lambdas stand in the text -/
theorem fun_okT {P : Program} {w : World} {K : PySem.W.Frag} {mg : Str → Option Value} {base : Heap} {x q : Str} {st : Stmt} {N ps : List Str} {k : Nat} {sp : Sp} {c f : Addr} {fd : FuncData} (F : FunD K x q (defArgs st) (defBody st) (defScope st) [] [] f fd) (hc : CodeAt K f c) (sc : FnScope N ps (defScope st))
    (len : ∀ vs H Q E, sp vs H Q E → vs.length = ps.length)
    (hbody : ∀ (A : Around) (outer : List Env) (s : Shared) (H : Hp) (vs : List V) (Q : VK) (E : XK), Room k (A.deeper (envOfC q (defScope st) s.heap.objs.size f (.ref c))) → sp vs H Q E →
      ∃ t, PSs (cxOf CX0 P w K mg base N q (defScope st) f (.ref c) A outer s H E).nox (defBody st) t ∧ t { nx := fun _ H' => Q .non H', rt := Q } (start N vs) H) : FnOk P w K mg base CX0 (k + 1) f fd ps sp := by
  obtain ⟨oc, od, dV, kV, doc, pm, an, cdv, ct, osl, rfl, lk, hcd, _, _⟩ := F.ex
  obtain ⟨oc', od', fd', sl', lk', e⟩ := hc
  have hcdv : cdv = .ref c := by
    rw [lk] at lk'
    have z := Option.some.inj lk'
    injection z with _ _ z3 _
    injection z3 with z4
    rw [← e, ← z4]
  subst hcdv
  refine fn_of lk hcd sc len fun A outer s H vs Q E hr h => ?_
  obtain ⟨t, ht, q⟩ := hbody A outer s H vs Q E hr h
  exact ⟨t, ht.nox, q⟩
def lamOfS : Stmt → Expr
  | .Assign _ (.List (e :: _) _) _ => e
  | .Expr (.Call _ (e :: _) _ _) _ => e
  | .Return (some (.Call _ (e :: _) _ _)) _ => e
  | _ => .Name "" ⟨0, 0, 0, 0⟩
def ifBodyS : Stmt → List Stmt
  | .If _ b _ _ => b
  | _ => []
def capB (sc : Scope) (ns : List (Str × NameKind)) : Bool := ns.all fun y => !decide (y.2 = .free) || (decide (sc.names.lookup y.1 = some .cell) || decide (sc.names.lookup y.1 = some .free))
theorem cap_by {sc : Scope} {ns : List (Str × NameKind)} (h : capB sc ns = true) : ∀ y ∈ ns, y.2 = .free → sc.names.lookup y.1 = some .cell ∨ sc.names.lookup y.1 = some .free := fun y hy e => by
  have z := List.all_eq_true.mp h y hy
  simp only [Bool.or_eq_true, Bool.not_eq_true', decide_eq_false_iff_not, decide_eq_true_eq] at z
  rcases z with z | z
  · exact absurd e z
  · exact z
/-- a table of lambdas stands where something else than a code object or the table is written -/
theorem tabS_kp {H H' : Hp} {d P : Addr} {q : Str} {xs : List V} (h : LamX.TabS H P q) (k : Kp d H H') (hd : H d = some (.lst xs)) : LamX.TabS H' P q := by
  obtain ⟨ps, h1, h2, h3⟩ := h
  refine ⟨ps, k _ _ (fun z => ?_) h1, h2, fun pos cv hc => ?_⟩
  · rw [z, hd] at h1
    cases h1
  · obtain ⟨c, e1, e2⟩ := h3 pos cv hc
    refine ⟨c, e1, k _ _ (fun z => ?_) e2⟩
    rw [z, hd] at e2
    have e2 := Option.some.inj e2
    unfold LamX.CodeO at e2
    cases e2
/-- the scope of lambdas of the law, where none is found -/
def noSc : Scope := defScope (.Pass ⟨0, 0, 0, 0⟩)
/-- a def that may raise, its code object known -/
theorem Src.okXT {P : Program} {w : World} {K : PySem.W.Frag} {mg : Str → Option Value} {base : Heap} {x : Str} {st : Stmt} {N ps : List Str} {k : Nat} {sp : Sp} {c : Addr} (S : Src K mg x st) (hc : ∀ f, mg x = some (.ref f) → CodeAt K f c) (sc : FnScope N ps (defScope st))
    (hb : ∀ (kV doc pm : Value) (an : Option Addr) (cdv ct : Value) (us : List Value), us.length = ps.length → bindArgs (PySem.W.fnOf x x (defArgs st) (defBody st) (defScope st) .none kV doc pm an cdv ct) ⟨us, []⟩ = pure (ps.zip us))
    (len : ∀ vs H Q E, sp vs H Q E → vs.length = ps.length)
    (hbody : ∀ (f : Addr) (A : Around) (outer : List Env) (s : Shared) (H : Hp) (vs : List V) (Q : VK) (E : XK), Room k (A.deeper (envOfC x (defScope st) s.heap.objs.size f (.ref c))) → sp vs H Q E →
      ∃ t, PSs (cxOf (L2N.CX P w) P w K mg base N x (defScope st) f (.ref c) A outer s H E) (defBody st) t ∧ t { nx := fun _ H' => Q .non H', rt := Q } (start N vs) H) : KDef P w K mg base (L2N.CX P w) (k + 1) x ps sp := by
  obtain ⟨f, fd, hm, F⟩ := S.ex
  refine ⟨f, fd, hm, F.kp, F.bindsN hb, ?_⟩
  obtain ⟨oc, od, dV, kV, doc, pm, an, cdv, ct, osl, rfl, lk, hcd, _, _⟩ := F.ex
  obtain ⟨oc', od', fd', sl', lk', e⟩ := hc f hm
  have hcdv : cdv = .ref c := by
    rw [lk] at lk'
    have z := Option.some.inj lk'
    injection z with _ _ z3 _
    injection z3 with z4
    rw [← e, ← z4]
  subst hcdv
  exact fn_of lk hcd sc len fun A outer s H vs Q E hr h => hbody f A outer s H vs Q E hr h
end KT

/-! Promises of defs that refuse readings and widths. -/
namespace KT
open PySem PySem.Spec PyProof.Rows L2
/-- tuples of two numbers that are no widths -/
def badWs : List Fr := [(1, 1), (-1, 2), (2, 4), (0, 2), (3, 2), (0, 0), (1, -2), (5, 5)]
def spCheckWX (K : PySem.W.Frag) (W : Addr) : Sp := fun vs H _ E => ∃ (p : Addr) (f : Fr), vs = [.ref p] ∧ SqT K H p (frV f) ∧ f ∈ badWs ∧ ∀ H', Same H H' → E (.ref W) none H'
def spLeastX (K : PySem.W.Frag) (C R : Addr) : Sp := fun vs H _ E => ∃ (x la b : Addr) (ts ks : List Int), vs = [.ref x, .ref b] ∧ TapsAt C H x la ts ∧ Tps ts ∧ SqL K H b (ks.map V.int) ∧ ks.length ≤ 1000 ∧ ¬ (Rdg 0 ks ∧ ks.length = ts.length) ∧ ∀ H', Same H H' → E (.ref R) none H'
def spBarX (K : PySem.W.Frag) (C R W : Addr) : Sp := fun vs H _ E => ∃ (x la b : Addr) (v : V) (ts ks : List Int), vs = [.ref x, .ref b, v] ∧ TapsAt C H x la ts ∧ Tps ts ∧ SqL K H b (ks.map V.int) ∧ ks.length ≤ 1000 ∧
  ((¬ (Rdg 0 ks ∧ ks.length = ts.length) ∧ ∀ H', Same H H' → E (.ref R) none H') ∨ (Rdg 0 ks ∧ ks.length = ts.length ∧ ∃ (p : Addr) (f : Fr), v = .ref p ∧ SqT K H p (frV f) ∧ f ∈ badWs ∧ ∀ H', Same H H' → E (.ref W) none H'))
def spWideX (K : PySem.W.Frag) (W : Addr) : Sp := fun vs H _ E => ∃ (x : V) (p : Addr) (f : Fr), vs = [x, .ref p] ∧ SqT K H p (frV f) ∧ f ∈ badWs ∧ ∀ H', Same H H' → E (.ref W) none H'
/-- a def that is not reached -/
def spNo : Sp := fun _ _ _ _ => False
theorem kdef_no {P : Program} {w : World} {K : PySem.W.Frag} {mg : Str → Option Value} {base : Heap} {C : CXT} {x : Str} {st : Stmt} {ps : List Str} (S : Src K mg x st)
    (hb : ∀ (kV doc pm : Value) (an : Option Addr) (cdv ct : Value) (us : List Value), us.length = ps.length → bindArgs (PySem.W.fnOf x x (defArgs st) (defBody st) (defScope st) .none kV doc pm an cdv ct) ⟨us, []⟩ = pure (ps.zip us)) : KDef P w K mg base C 0 x ps spNo := by
  obtain ⟨f, fd, hm, F⟩ := S.ex
  exact ⟨f, fd, hm, F.kp, F.bindsN hb, fun vs H Q E h => False.elim h, fun _ _ _ _ _ _ _ _ _ _ _ _ _ h => False.elim h⟩
/-- what a def that calls a lambda within a try tells: True, where a right refusal comes out -/
def ttRef (Ok : Value → Str → Prop) : (Hp → VK → XK → Prop) → List V → Hp → VK → Prop := fun tl vs H Q => ∃ word : Str, vs = [.str word] ∧
  ∀ (Qn : VK) (E : XK), (∀ v H', Q (.bl false) H' → Qn v H') → (∀ (cls : Value) (d : Option Addr) (H' : Hp), Ok cls word → XdAt H' d → (∀ H2, Same H' H2 → Q (.bl true) H2) → E cls d H') → tl H Qn E
end KT
namespace KT
open PySem PySem.Spec PyProof.Rows L2
/-- the name of the law's lambdas -/
def lamQ : Str := ("law" : Str) ++ ".<locals>." ++ "<lambda>"
def spLawL (K : PySem.W.Frag) (TP : Addr) : Sp := fun vs H Q _ => ∃ (a : Addr) (ns : List Int), vs = [.ref a] ∧ SqL K H a (ns.map V.int) ∧ ns.length ≤ 63 ∧ LamX.TabS H TP lamQ ∧ ∀ H', Q (.bl true) H'
end KT
namespace KT
open PySem PySem.Spec PyProof.Rows L2
theorem tabS_dice {H H' : Hp} {d P : Addr} {q : Str} (h : LamX.TabS H P q) (k : Kp d H H') (dd : Dice H d) : LamX.TabS H' P q := by
  obtain ⟨x, y, zs, e, _⟩ := dd
  exact tabS_kp h k e
theorem lamO_kp {H H' : Hp} {d f : Addr} {F : LD} {xs : List V} (h : H f = some (LamO f F)) (k : Kp d H H') (hd : H d = some (.lst xs)) : H' f = some (LamO f F) := k _ _ (fun z => by
  rw [z, hd] at h
  have h := Option.some.inj h
  unfold LamO at h
  cases h) h
theorem codeO_kp {H H' : Hp} {d c : Addr} {q : Str} {xs : List V} (h : H c = some (LamX.CodeO c q)) (k : Kp d H H') (hd : H d = some (.lst xs)) : H' c = some (LamX.CodeO c q) := k _ _ (fun z => by
  rw [z, hd] at h
  have h := Option.some.inj h
  unfold LamX.CodeO at h
  cases h) h
end KT
namespace KT
open PySem PySem.Spec PyProof.Rows L2
/-- all but the list at L and the tables stay -/
def ExtL (L : Addr) (H H' : Hp) : Prop := ∀ b o, b ≠ L → H b = some o → (∀ ps, o ≠ .tbl ps) → H' b = some o
theorem ExtL.refl (L : Addr) (H : Hp) : ExtL L H H := fun _ _ _ e _ => e
theorem ExtL.trans {L : Addr} {H H1 H2 : Hp} (a : ExtL L H H1) (b : ExtL L H1 H2) : ExtL L H H2 := fun c o n e t => b c o n (a c o n e t) t
theorem ExtL.of {L : Addr} {H H' : Hp} (a : ExtT H H') : ExtL L H H' := fun c o _ e t => a c o e t
theorem ExtL.put {L : Addr} {H : Hp} {o : HO} : ExtL L H (upd H L o) := fun c u n e _ => by
  rw [upd_ne n]
  exact e
theorem ext_kpT {H H' : Hp} {P : Addr} {q : Str} (h : LamX.TabS H P q) (k : Kp P H H') : ExtT H H' := fun b o e n => by
  obtain ⟨ps, hP, _⟩ := h
  refine k b o (fun z => ?_) e
  rw [z, hP] at e
  exact n ps (Option.some.inj e).symm
theorem tabS_put {H : Hp} {L P : Addr} {q : Str} {xs ys : List V} (h : LamX.TabS H P q) (e : H L = some (.lst xs)) : LamX.TabS (upd H L (.lst ys)) P q := tabS_kp h (d := L) (fun b o n z => by
  rw [upd_ne n]
  exact z) e
theorem lamO_lst {f : Addr} {F : LD} {xs : List V} : LamO f F ≠ .lst xs := fun z => by
  unfold LamO at z
  cases z
theorem codeO_lst {c : Addr} {q : Str} {xs : List V} : LamX.CodeO c q ≠ .lst xs := fun z => by
  unfold LamX.CodeO at z
  cases z
theorem ne_lst {H : Hp} {a L : Addr} {o : HO} {xs : List V} (h : H a = some o) (e : H L = some (.lst xs)) (n : ∀ ys, o ≠ .lst ys) : a ≠ L := fun z => by
  rw [z, e] at h
  exact n xs (Option.some.inj h).symm
/-- a lambda with its code object stands -/
structure LAt (H : Hp) (f : Addr) (F : LD) : Prop where
  ob : H f = some (LamO f F)
  code : H F.c = some (LamX.CodeO F.c F.qual)
theorem LAt.ext {H H' : Hp} {f L : Addr} {F : LD} (h : LAt H f F) (e : ExtL L H H') (n1 : f ≠ L) (n2 : F.c ≠ L) : LAt H' f F := ⟨e _ _ n1 h.ob lamO_tbl, e _ _ n2 h.code (fun ps => LamX.codeO_ne ps)⟩
theorem LAt.extT {H H' : Hp} {f : Addr} {F : LD} (h : LAt H f F) (e : ExtT H H') : LAt H' f F := ⟨e _ _ h.ob lamO_tbl, e _ _ h.code (fun ps => LamX.codeO_ne ps)⟩
theorem LAt.kp {H H' : Hp} {f L : Addr} {F : LD} {xs : List V} (h : LAt H f F) (k : Kp L H H') (e : H L = some (.lst xs)) : LAt H' f F := ⟨lamO_kp h.ob k e, codeO_kp h.code k e⟩
theorem LAt.put {H : Hp} {f L : Addr} {F : LD} {xs : List V} {o : HO} (h : LAt H f F) (e : H L = some (.lst xs)) : LAt (upd H L o) f F := h.kp (fun b u n z => by
  rw [upd_ne n]
  exact z) e
theorem LAt.dice {H H' : Hp} {f d : Addr} {F : LD} (h : LAt H f F) (k : Kp d H H') (dd : Dice H d) : LAt H' f F := by
  obtain ⟨x, y, zs, e, _⟩ := dd
  exact h.kp k e
/-- the list of lambdas grows by one -/
theorem works_put {H H' : Hp} {TP L f : Addr} {q : Str} {F : LD} {xs : List V} (h : LamX.TabS H TP q) (k : Kp TP H H') (t : LamX.TabS H' TP q) (e : H L = some (.lst xs)) (l : LAt H' f F) :
    H' L = some (.lst xs) ∧ LamX.TabS (upd H' L (.lst (xs ++ [.ref f]))) TP q ∧ ExtL L H (upd H' L (.lst (xs ++ [.ref f]))) ∧ LAt (upd H' L (.lst (xs ++ [.ref f]))) f F := by
  have e' := ext_kpT h k _ _ e (fun ps z => nomatch z)
  exact ⟨e', tabS_put t e', (ExtL.of (ext_kpT h k)).trans .put, l.put e'⟩
theorem LAt.lst {H H' : Hp} {f L : Addr} {F : LD} {xs : List V} (h : LAt H f F) (e : H L = some (.lst xs)) (x : ExtL L H H') : LAt H' f F := h.ext x (ne_lst h.ob e fun ys => lamO_lst) (ne_lst h.code e fun ys => codeO_lst)
end KT
namespace KT
open PySem PySem.Spec PyProof.Rows L2
theorem Dice.extL {H H' : Hp} {d L : Addr} (h : Dice H d) (x : ExtL L H H') (n : d ≠ L) : Dice H' d := by
  obtain ⟨a, b, zs, e, r⟩ := h
  exact ⟨a, b, zs, x _ _ n e (fun ps z => nomatch z), r⟩
theorem TapsAt.extL {C : Addr} {H H' : Hp} {x l L : Addr} {ts : List Int} (h : TapsAt C H x l ts) (k : ExtL L H H') (n1 : x ≠ L) (n2 : l ≠ L) : TapsAt C H' x l ts := ⟨h.1.imp fun dx e => k _ _ n1 e (fun ps z => nomatch z), k _ _ n2 h.2 (fun ps z => nomatch z)⟩
theorem TapsAt.some {C : Addr} {H : Hp} {x l : Addr} {ts : List Int} (h : TapsAt C H x l ts) : (∃ o, H x = Option.some o ∧ ∀ ps, o ≠ .tbl ps) ∧ ∃ o, H l = Option.some o ∧ ∀ ps, o ≠ .tbl ps := by
  obtain ⟨⟨dx, e⟩, e2⟩ := h
  exact ⟨⟨_, e, fun ps z => nomatch z⟩, ⟨_, e2, fun ps z => nomatch z⟩⟩
theorem Dice.someT {H : Hp} {d : Addr} (h : Dice H d) : ∃ o, H d = Option.some o ∧ ∀ ps, o ≠ .tbl ps := by
  obtain ⟨a, b, zs, e, r⟩ := h
  exact ⟨_, e, fun ps z => nomatch z⟩
/-- what stood ahead of a new list of lambdas is none of it -/
theorem ne_new {H H' : Hp} {P L z : Addr} {q : Str} (t : LamX.TabS H P q) (k : Kp P H H') (n : H' L = none) (h : ∃ o, H z = Option.some o ∧ ∀ ps, o ≠ .tbl ps) : z ≠ L := by
  obtain ⟨o, e, nt⟩ := h
  exact ne_of_none (ext_kpT t k z o e nt) n
end KT

/-! Own rules: all(test for x in a text or a list of texts), the test knowing a captured name of the def. -/
namespace KT
open PySem PySem.Spec PyProof.Rows L2
/-- the generator g over n items, the truth of each told by tr, ready to be walked -/
def ReadyN (X : Cx) (pins : List (Addr × Obj)) (σ : L2.St) (H1 : Hp) (P : Addr) (n : Nat) (tr : Nat → Bool) (g : Addr) (s5 : Shared) : Prop :=
  ∃ (fp wr : List Addr) (G : Array GenState → Array GenState → Prop) (F : Nat → Value → Prop) (St : Nat → Shared → Prop),
    WalksS X.prog X.w X.A.in1 g fp wr G n F St ∧ St 0 s5 ∧ TruthOf X.prog X.w X.A.in1 F tr ∧ ∀ s', Moved wr G s5 s' → ∃ H2, GxR.Tabbed P H1 H2 ∧ Inv X pins σ H2 s'
section
variable {X : Cx} {pins : List (Addr × Obj)} {σ : L2.St} {H H1 : Hp} {s s1 : Shared} {c P : Addr} {elt iter : Expr} {x : Str} {px gpos : Pos} {scope : Scope} {k n : Nat} {o : Obj} {ps : Array Value} {It : Nat → Value → Prop} {tr : Nat → Bool}
/-- the test of an item where what stood at s1 stands, the names captured by the def's cells -/
def EltN (X : Cx) (scope : Scope) (x : Str) (elt : Expr) (P : Addr) (s1 : Shared) (It : Nat → Value → Prop) (tr : Nat → Bool) : Prop :=
  ∀ (cenv : Env) (A' : Around) (E' : Value → Shared → Prop) (i : Nat) (v : Value) (s₂ : Shared) (m₂ : Str → Option Value), cenv.scope = scope → cenv.globals = mainGlobals → cenv.cells = cloFrom X.env.cells scope.names [] →
    (∀ b u, b ≠ P → s1.heap.get? b = some u → s₂.heap.get? b = some u) → s₂.heap.Ns cenv.locals m₂ → m₂ x = some v → It i v → wpAny (model X.prog X.w) A' (eval elt cenv) (fun y s₃ => y = .bool (tr i) ∧ Keeps s₂ s₃) E' s₂
theorem ready_n {ps' : Array Value} {h3 h5 : Heap} {tk5 g : Nat} {gs : GenState} {F : Nat → Value → Prop} {St : Nat → Shared → Prop} (I1 : Inv X pins σ H1 s1) (hP : H1 P = some (.tbl ps)) (C : CodeOk X s1 o P ps ps' h3) (hgb : gs.bare = true) (hk5 : ∀ b u, h3.get? b = some u → h5.get? b = some u)
    (W5 : WalksS X.prog X.w X.A.in4 g (g :: h3.objs.size :: List.range h3.objs.size) (h3.objs.size :: [s1.heap.objs.size]) (GenOnlyQ s1.gens.size) n F St) (hF : ∀ j y, F j y → y = .bool (tr j))
    (hat : St 0 { s1 with gens := s1.gens.push gs, toks := tk5, heap := h5 }) : ReadyN X pins σ H1 P n tr g { s1 with gens := s1.gens.push gs, toks := tk5, heap := h5 } := by
  have hPs : s1.heap.get? P = some { cls := .none, data := .fields ps } := I1.hok P _ hP
  have big : s1.heap.objs.size < h3.objs.size := Nat.lt_of_lt_of_le (by rw [Heap.size_push]; exact Nat.lt_succ_self _) C.size
  have old : ∀ b u, s1.heap.get? b = some u → b ∉ h3.objs.size :: [s1.heap.objs.size] := fun b u e hb => by
    have lt := Heap.lt_size e
    simp only [List.mem_cons, List.not_mem_nil, or_false] at hb
    rcases hb with z | z
    · exact absurd (z ▸ lt) (Nat.not_lt.mpr (Nat.le_of_lt big))
    · exact absurd (z ▸ lt) (Nat.lt_irrefl _)
  refine ⟨_, _, _, F, St, W5.in4_1, hat, fun j y sj Qj Ej hy hQ => ?_, fun s' mv => ?_⟩
  · rw [hF j y hy]
    exact wpAny_truthy_bool hQ
  · obtain ⟨more, rfl⟩ := C.more
    have J := GxR.inv_tab (more := more) (h' := s'.heap) (g' := s'.gens) (d' := s'.drawn) (t' := s'.toks) I1 hP (fun b u hb e => mv.heap b u (old b u e) (hk5 b u (C.keep hb e))) (mv.heap P _ (old P _ hPs) (hk5 P _ C.tab)) (AllBare.movedS (I1.bare.push hgb) mv)
    rw [GxR.sh_eta s1 s' mv.os] at J
    exact ⟨upd H1 P (.tbl (ps ++ more)), ⟨⟨ps ++ more, upd_same, C.ok⟩, fun b hb => upd_ne hb⟩, J⟩
/-- what is left of a generator expression behind its iterator's making -/
theorem gen_rest {Q' : Value → Shared → Prop} {fp : List Addr} {St : Nat → Heap → Prop} (I1 : Inv X pins σ H1 s1) (TB : GxR.TabB X.base X.mg c P) (hcode : X.env.code = .ref c) (hd : X.A.handled = none) (hP : H1 P = some (.tbl ps)) (ht : TriplesOk ps.toList)
    (W : ∀ A' : Around, A'.handled = none → Walks X.prog X.w A' s1.heap.objs.size fp [s1.heap.objs.size] n It St) (hst : St 0 (s1.heap.push o)) (hfp : ∀ b ∈ fp, b ≤ s1.heap.objs.size ∧ b ≠ P) (hel : EltN X scope x elt P s1 It tr) (hQ : ∀ g s5, ReadyN X pins σ H1 P n tr g s5 → Q' (.ref g) s5) :
    (s1.heap.push o).NoLimit ∧ wpAny (model X.prog X.w) X.A (genexprCode X.env gpos (X.env.qual ++ "<genexpr>") scope) (fun code s₃ => wpAny (model X.prog X.w) X.A (builtinsFor X.env.globals X.env.builtins) (fun bi s₄ =>
        ∃ I fp wr n₀ P St₀ pz F, Value.ref s1.heap.objs.size = .ref I ∧ (∀ A' : Around, A'.handled = none → Walks X.prog X.w A' I fp wr n₀ P St₀) ∧ St₀ 0 s₄.heap ∧ (∀ b ∈ fp, b < s₄.heap.objs.size) ∧ s₄.heap.NoLimit ∧ cStatics ∉ wr ∧
          (∀ href : Heap, (∀ b o, s₄.heap.get? b = some o → href.get? b = some o) → QuietGen X.prog X.w (genEnv scope (cloFrom X.env.cells scope.names []) s₄.heap.objs.size code bi X.env) x [] elt (List.range s₄.heap.objs.size) wr P pz F href) ∧
          (∀ a h₅ tk gs, gs.bare = true → s₄.heap.objs.size < a → h₅.objs.size = a + 1 → (∀ b o, s₄.heap.get? b = some o → h₅.get? b = some o) →
            WalksS X.prog X.w X.A.in4 a (a :: s₄.heap.objs.size :: List.range s₄.heap.objs.size) (s₄.heap.objs.size :: wr) (GenOnlyQ s₄.gens.size) (passing pz n₀ 0).length
              (fun j y => ∃ i, (passing pz n₀ 0)[j]? = some i ∧ F i y) (GenAt X.prog X.w X.A.in4 a s₄.gens.size s₄.heap.objs.size (List.range s₄.heap.objs.size) wr pz n₀ F) →
            GenAt X.prog X.w X.A.in4 a s₄.gens.size s₄.heap.objs.size (List.range s₄.heap.objs.size) wr pz n₀ F 0 { s₄ with gens := s₄.gens.push gs, toks := tk, heap := h₅ } →
            Q' (.ref a) { s₄ with gens := s₄.gens.push gs, toks := tk, heap := h₅ })) X.xe s₃) X.xe { s1 with heap := s1.heap.push o } := by
  have hPs : s1.heap.get? P = some { cls := .none, data := .fields ps } := I1.hok P _ hP
  have hP2 : (s1.heap.push o).get? P = some { cls := .none, data := .fields ps } := Heap.get?_push_of_some _ hPs
  have cd : PySem.W.CodeHd (s1.heap.push o) c P := TB.code.keeps fun b u e => Heap.get?_push_of_some _ (I1.bk b u e)
  have lim : (s1.heap.push o).NoLimit := I1.nolimit.push o
  have stat : cStatics < s1.heap.objs.size := let ⟨_, hns, _⟩ := I1.nolimit; hns.lt
  have go : ∀ (code : Value) (h3 : Heap) (tk : Nat) (ps' : Array Value), CodeOk X s1 o P ps ps' h3 → wpAny (model X.prog X.w) X.A (builtinsFor X.env.globals X.env.builtins) (fun bi s₄ =>
      ∃ I fp wr n₀ P St₀ pz F, Value.ref s1.heap.objs.size = .ref I ∧ (∀ A' : Around, A'.handled = none → Walks X.prog X.w A' I fp wr n₀ P St₀) ∧ St₀ 0 s₄.heap ∧ (∀ b ∈ fp, b < s₄.heap.objs.size) ∧ s₄.heap.NoLimit ∧ cStatics ∉ wr ∧
        (∀ href : Heap, (∀ b o, s₄.heap.get? b = some o → href.get? b = some o) → QuietGen X.prog X.w (genEnv scope (cloFrom X.env.cells scope.names []) s₄.heap.objs.size code bi X.env) x [] elt (List.range s₄.heap.objs.size) wr P pz F href) ∧
        (∀ a h₅ tk gs, gs.bare = true → s₄.heap.objs.size < a → h₅.objs.size = a + 1 → (∀ b o, s₄.heap.get? b = some o → h₅.get? b = some o) →
          WalksS X.prog X.w X.A.in4 a (a :: s₄.heap.objs.size :: List.range s₄.heap.objs.size) (s₄.heap.objs.size :: wr) (GenOnlyQ s₄.gens.size) (passing pz n₀ 0).length
            (fun j y => ∃ i, (passing pz n₀ 0)[j]? = some i ∧ F i y) (GenAt X.prog X.w X.A.in4 a s₄.gens.size s₄.heap.objs.size (List.range s₄.heap.objs.size) wr pz n₀ F) →
          GenAt X.prog X.w X.A.in4 a s₄.gens.size s₄.heap.objs.size (List.range s₄.heap.objs.size) wr pz n₀ F 0 { s₄ with gens := s₄.gens.push gs, toks := tk, heap := h₅ } →
          Q' (.ref a) { s₄ with gens := s₄.gens.push gs, toks := tk, heap := h₅ })) X.xe { s1 with heap := h3, toks := tk } := by
    intro code h3 tk ps' C
    obtain ⟨bm, ob, e1, e2, e3, e4, e5, e6, e7, e8⟩ := TB.bm
    have big : s1.heap.objs.size < h3.objs.size := Nat.lt_of_lt_of_le (by rw [Heap.size_push]; exact Nat.lt_succ_self _) C.size
    have base : ∀ b u, X.base.get? b = some u → h3.get? b = some u := fun b u e => C.keep (table_free I1 hP e) (I1.bk b u e)
    refine wpAny_builtinsFor (m := X.mg) (by rw [I1.ok.glob]; exact I1.mod.glob.keeps base) e1 e2 (C.keep e4 (I1.bk _ _ e5)) e6 e7 e8 ?_
    refine ⟨s1.heap.objs.size, fp, [s1.heap.objs.size], n, It, St, (fun _ => true), (fun i y => y = .bool (tr i)), rfl, W, ?_, ?_, lim.extBut C.ext (statics_ne I1 hPs), ?_, fun href hh => ⟨?_, ?_⟩, ?_⟩
    · exact (W X.A hd).frame _ _ _ hst fun b hb u e => C.ext b u (hfp b hb).2 e
    · exact fun b hb => Nat.lt_of_le_of_lt (hfp b hb).1 big
    · intro z
      exact Nat.ne_of_lt stat (List.mem_singleton.mp z)
    · intro A' E' i v s₂ m₂ hA hPv hn hm hk
      simp only [List.forIn_nil]
      exact wpAny_pure ⟨rfl, GxR.keeps_refl _⟩
    · intro A' E' i v s₂ m₂ hA hPv hp hn hm hk
      refine hel _ A' E' i v s₂ m₂ rfl I1.ok.glob rfl (fun b u hb e => ?_) hn hm hPv
      have lt := Heap.lt_size e
      refine hk b (List.mem_range.mpr (Nat.lt_trans lt big)) (fun z => ?_) u (hh b u (C.keep hb e))
      exact absurd (List.mem_singleton.mp z ▸ lt) (Nat.lt_irrefl _)
    · intro g h5 tk5 gs hgb hag hsz5 hk5 W5 hat
      simp only [GxR.passing_true, List.length_range] at W5
      refine hQ g _ (ready_n (s1 := s1) (o := o) (tk5 := tk5) (h5 := h5) (g := g) (gs := gs) (tr := tr) I1 hP C hgb hk5 W5 (fun j y hy => ?_) hat)
      obtain ⟨i, hij, hc⟩ := hy
      obtain ⟨hj, ej⟩ := List.getElem?_eq_some_iff.mp hij
      rw [List.getElem_range] at ej
      rw [ej]
      exact hc
  refine ⟨lim, ?_⟩
  cases hf : codeAmong gpos ps.toList with
  | none =>
    refine wpAny_genexprCodeX hcode (cd.code hP2 ht) (cd.tab hP2) hf fun c' h' tk hx hge hlt hco' _ htab' _ => ?_
    obtain ⟨o1, vs, f1, tf, fl, tg, inF, tx, tt, op, _, _, _, _, _, _, _, _, _, htr, _⟩ := hco'
    exact go _ h' tk _ ⟨hx, Nat.le_trans hge (Nat.le_of_lt hlt), htab'.2, ⟨_, rfl⟩, htr⟩
  | some cv =>
    refine wpAny_genexprCode_hit hcode (cd.code hP2 ht) hf ?_
    exact go cv (s1.heap.push o) s1.toks ps ⟨Heap.ExtBut.refl _ _, Nat.le_refl _, hP2, ⟨#[], by simp⟩, ht⟩
/-- the generator's scope; its captured names are the def's -/
def genCB (sc scope : Scope) (x : Str) : Bool := (match scope.kind with
  | .function => true
  | _ => false) && (!scope.isCoroutine && (decide (scope.names.lookup (".0" : Str) = some NameKind.local) && (decide (scope.names.lookup x = some NameKind.local) && scope.names.all fun y => match y.2 with
  | .cell => false
  | .free => decide (sc.names.lookup y.1 = some .cell) || decide (sc.names.lookup y.1 = some .free)
  | _ => true)))
theorem genC_of {X : Cx} (ok : X.Ok) (h : genCB X.env.scope scope x = true) : GxR.GenS X.env scope x := by
  unfold genCB at h
  simp only [Bool.and_eq_true, Bool.not_eq_true'] at h
  obtain ⟨h1, h2, h3, h4, h5⟩ := h
  refine ⟨?_, h2, fun y hy e => ?_, of_decide_eq_true h3, of_decide_eq_true h4, fun y hy e => ?_⟩
  · split at h1
    · assumption
    · cases h1
  · have z := List.all_eq_true.mp h5 y hy
    rw [e] at z
    cases z
  · have z := List.all_eq_true.mp h5 y hy
    rw [e] at z
    simp only [Bool.or_eq_true, decide_eq_true_eq] at z
    exact ok.has _ (z.imp id id)
/-- a ready generator, and what all() tells of it -/
def GenEnd (X : Cx) (pins : List (Addr × Obj)) (σ : L2.St) (P : Addr) (Q : VK) : Value → Shared → Prop := fun u s5 => ∃ (g : Addr) (H1 : Hp) (n : Nat) (tr : Nat → Bool), u = .ref g ∧ ReadyN X pins σ H1 P n tr g s5 ∧ ∀ H2, GxR.Tabbed P H1 H2 → Q (.bl ((List.range n).all tr)) H2
/-! ### over the signs of a text -/
theorem pe_allN {tR : L2.St → Hp → VK → Prop} {p pos : Pos} (hg : Gl X "all") (hm : X.mg "all" = none) (hb : bootBuiltins "all" = some (.builtin "all")) (hs : ∀ v, genFold iter X.env v = pure v)
    (make : ∀ (pins : List (Addr × Obj)) (s : Shared) (σ : L2.St) (H : Hp) (Q : VK), Inv X pins σ H s → tR σ H Q → wpAny (model X.prog X.w) X.A (eval (.GeneratorExp elt [⟨.Name x px, iter, [], 0⟩] scope gpos) X.env)
      (GenEnd X pins σ P Q) X.xe s)
    (he : starEach [.GeneratorExp elt [⟨.Name x px, iter, [], 0⟩] scope gpos] X.env = (false, eval (.GeneratorExp elt [⟨.Name x px, iter, [], 0⟩] scope gpos) X.env) :: starEach [] X.env := by rfl) :
    PE X (.Call (.Name "all" p) [.GeneratorExp elt [⟨.Name x px, iter, [], 0⟩] scope gpos] [] pos) tR := by
  refine ⟨fun pins s σ H Q I h => ?_⟩
  refine wpAny_Call_Name_kw (ld_blt I hg hm hb (PyProof.Rows.callWith_builtin1 ?_ he (by rfl)))
  rw [he]
  show wpAny _ _ (spliced ((false, eval (.GeneratorExp elt [⟨.Name x px, iter, [], 0⟩] scope gpos) X.env) :: backTo pos (starEach [] X.env))) _ _ s
  refine Calls.spliced_cons (wpAny_mono (make pins s σ H Q I h) (fun u s5 hu => ?_) fun _ _ e => e)
  obtain ⟨g, H1, n, tr, rfl, hG, hR⟩ := hu
  refine Calls.spliced_nil ?_
  obtain ⟨fp, wr, G, F, St, W, hst, htr, hI⟩ := hG
  refine call_all_walkS (W.self 0 _ _ _ hst ⟨g, fp, wr, G, _, F, St, _, rfl, W, hst, htr, fun s' hmv => ?_⟩)
  obtain ⟨H2, hT, J⟩ := hI s' hmv
  exact ⟨.bl _, H2, J, rfl, hR H2 hT⟩
def trL {α : Type} (f : α → Bool) (l : List α) (i : Nat) : Bool := match l[i]? with
  | some a => f a
  | none => true
theorem trL_at {α : Type} {f : α → Bool} {l : List α} {i : Nat} {a : α} (e : l[i]? = some a) : trL f l i = f a := by
  unfold trL
  rw [e]
theorem all_at {α : Type} (f : α → Bool) (l : List α) : (List.range l.length).all (trL f l) = l.all f := by
  rw [Bool.eq_iff_iff, List.all_eq_true, List.all_eq_true]
  constructor
  · intro h a ha
    obtain ⟨i, hi, e⟩ := List.getElem_of_mem ha
    have z := h i (List.mem_range.mpr hi)
    rw [trL_at (List.getElem?_eq_getElem hi), e] at z
    exact z
  · intro h i hi
    rw [trL_at (List.getElem?_eq_getElem (List.mem_range.mp hi))]
    exact h _ (List.getElem_mem _)
/-- what a captured name of the def stands for, in the generator's frame -/
theorem cap_at {j : Nat} {g : Str} {v : V} (I1 : Inv X pins σ H1 s1) (hP : H1 P = some (.tbl ps)) (S : GxR.GenS X.env scope x) (hN : X.N[j]? = some g) (hs : σ[j]? = some (some v)) (hc : X.env.scope.names.lookup g = some .cell) (hf : (g, NameKind.free) ∈ scope.names) :
    ∃ (u : Value) (c : Addr), RelV v u ∧ (cloFrom X.env.cells scope.names []).lookup g = some c ∧ c ≠ P ∧ ∃ o, s1.heap.get? c = some o ∧ o.data = .cell (some u) := by
  obtain ⟨m, hn, hl⟩ := I1.loc
  obtain ⟨u, r, q⟩ := hl j g v hN hs (.inr (.inl hc))
  rcases q with ⟨k', _⟩ | ⟨_, c, hcl, o, ho, hd⟩
  · have k' : X.env.scope.names.lookup g = some .local := k'
    rw [hc] at k'
    cases k'
  · refine ⟨u, c, r, NdefX.clo_has S.free hf hcl, fun z => ?_, o, ho, hd⟩
    have n := I1.freeC g c hcl
    rw [z, hP] at n
    cases n
/-- sign in D, D a dict that the def's name holds -/
def tAllD (P : Addr) (j : Nat) (te : TE) : L2.St → Hp → VK → Prop := fun σ H Q => ∃ (D : Addr) (kvs : List (Key × V)), σ[j]? = some (some (.ref D)) ∧ te σ H fun v H1 => ∃ a : Str, v = .str a ∧ GxR.TabG H1 P ∧ H1 D = some (.dK kvs) ∧
  ∀ H2, GxR.Tabbed P H1 H2 → Q (.bl (a.cps.toList.all fun c => (valV kvs (.inr ⟨#[c]⟩)).isSome)) H2
theorem pe_allD {sc : Scope} {j : Nat} {g : Str} {te : TE} {p p1 p2 p3 pos : Pos} (hr : Room k X.A) (hg : Gl X "all") (hm : X.mg "all" = none) (hb : bootBuiltins "all" = some (.builtin "all")) (TB : GxR.TabB X.base X.mg c P) (hcode : X.env.code = .ref c) (hse : X.env.scope = sc) (hsc : genCB sc scope x = true) (hi : PE X iter te)
    (hN : X.N[j]? = some g) (hc : sc.names.lookup g = some .cell) (hfl : scope.names.lookup g = some .free) (hd : (x == ("__debug__" : Str)) = false := by decide) (hdg : (g == ("__debug__" : Str)) = false := by decide) (hcd : (g == ("__classdict__" : Str)) = false := by decide)
    (hs : ∀ v, genFold iter X.env v = pure v := by intro _; rfl)
    (he : starEach [.GeneratorExp (.Compare (.Name x p1) [.In] [.Name g p2] p3) [⟨.Name x px, iter, [], 0⟩] scope gpos] X.env = (false, eval (.GeneratorExp (.Compare (.Name x p1) [.In] [.Name g p2] p3) [⟨.Name x px, iter, [], 0⟩] scope gpos) X.env) :: starEach [] X.env := by rfl) :
    PE X (.Call (.Name "all" p) [.GeneratorExp (.Compare (.Name x p1) [.In] [.Name g p2] p3) [⟨.Name x px, iter, [], 0⟩] scope gpos] [] pos) (tAllD P j te) := by
  rw [← hse] at hsc hc
  refine pe_allN (P := P) hg hm hb hs (fun pins s σ H Q I h => ?_) he
  obtain ⟨D, kvs, hσ, h⟩ := h
  have S := genC_of I.ok hsc
  refine wpAny_GeneratorExp_walksQ hr.hd S.co (closure_ok S.free) S.cell S.dot S.loc S.kind (by have := hr.dp; omega) (thn (hi.run pins s σ H _ I h) fun xv s1 ⟨v, H1, I1, r1, q1⟩ => ?_) hs
  obtain ⟨a, rfl, ⟨ps, hP, ht⟩, hD, q1⟩ := q1
  obtain ⟨t, rfl⟩ := _root_.id r1
  refine wpAny_pyIter_str fun o St W hst => ?_
  have lt : P < s1.heap.objs.size := Heap.lt_size (I1.hok P _ hP)
  refine gen_rest (Q' := GenEnd X pins σ P Q) (elt := .Compare (.Name x p1) [.In] [.Name g p2] p3) (x := x) (scope := scope) (gpos := gpos) (n := a.cps.size) (It := SignAt a) (tr := GxR.trF (fun c => (valV kvs (.inr ⟨#[c]⟩)).isSome) a.cps.toList) I1 TB hcode hr.hd hP ht W hst (fun b hb => ?_) ?_ (fun g' s5 hG => ⟨g', H1, _, _, rfl, hG, fun H2 hT => ?_⟩)
  · rw [List.mem_singleton.mp hb]
    exact ⟨Nat.le_refl _, (Nat.ne_of_lt lt).symm⟩
  · intro cenv A' E' i v s₂ m₂ e1 e2 e3 keep hn hm2 hit
    obtain ⟨cc, u, hcc, rfl⟩ := hit
    have hk : cenv.scope.kind = .function := by rw [e1]; exact S.kind
    obtain ⟨uD, c', rD, hcl, ncP, ob, ho, hd'⟩ := cap_at I1 hP S hN hσ hc (PySem.mem_of_lookup hfl)
    obtain rfl : uD = Value.ref D := rD
    obtain ⟨z, low, vs, rel, dd⟩ := dk_of I1.hok hD
    have nDP : D ≠ P := fun z => by
      rw [z, hP] at hD
      cases hD
    have dd2 := dd.at (h' := s₂.heap) fun o e => keep _ _ nDP e
    refine wpAny_Compare1 ?_
    refine wpAny_Name (wpAny_loadName_local hk (show cenv.scope.names.lookup x = some .local by rw [e1]; exact S.loc) hn hm2 ?_) hd
    refine wpAny_Name (wpAny_loadName_free hk (show cenv.scope.names.lookup g = some .free by rw [e1]; exact hfl) (by rw [e3]; exact hcl) ⟨ob, keep _ _ ncP ho, hd'⟩ ?_ hcd) hdg
    refine wpAny_in_of (kV_is (k := .inr ⟨#[cc]⟩) (u := .str ⟨#[cc]⟩ u) ⟨u, rfl⟩) low dd2.mapOf ⟨?_, GxR.keeps_tok _ _⟩
    rw [GxR.trF_some (show a.cps.toList[i]? = some cc by rw [Array.getElem?_toList]; exact hcc)]
    exact congrArg Value.bool (rel.val (.inr ⟨#[cc]⟩)).isSome_eq.symm
  · rw [GxR.all_signs a]
    exact q1 H2 hT
/-- text in L, L a list of texts that the def's name holds -/
def tAllL (K : PySem.W.Frag) (P : Addr) (j : Nat) (te : TE) : L2.St → Hp → VK → Prop := fun σ H Q => ∃ (L : Addr) (ws : List Str), σ[j]? = some (some (.ref L)) ∧ te σ H fun v H1 => ∃ (yl : Addr) (zs : List Str), v = .ref yl ∧ SqL K H1 yl (zs.map V.str) ∧ GxR.TabG H1 P ∧ SqL K H1 L (ws.map V.str) ∧
  ∀ H2, GxR.Tabbed P H1 H2 → Q (.bl (zs.all fun z => decide (z ∈ ws))) H2
theorem pe_allL {K : PySem.W.Frag} {sc : Scope} {j : Nat} {g : Str} {te : TE} {p p1 p2 p3 pos : Pos} (hK : X.K = K) (hr : Room k X.A) (hg : Gl X "all") (hm : X.mg "all" = none) (hb : bootBuiltins "all" = some (.builtin "all")) (TB : GxR.TabB X.base X.mg c P) (hcode : X.env.code = .ref c) (hse : X.env.scope = sc) (hsc : genCB sc scope x = true) (hi : PE X iter te)
    (hN : X.N[j]? = some g) (hc : sc.names.lookup g = some .cell) (hfl : scope.names.lookup g = some .free) (hd : (x == ("__debug__" : Str)) = false := by decide) (hdg : (g == ("__debug__" : Str)) = false := by decide) (hcd : (g == ("__classdict__" : Str)) = false := by decide)
    (hs : ∀ v, genFold iter X.env v = pure v := by intro _; rfl)
    (he : starEach [.GeneratorExp (.Compare (.Name x p1) [.In] [.Name g p2] p3) [⟨.Name x px, iter, [], 0⟩] scope gpos] X.env = (false, eval (.GeneratorExp (.Compare (.Name x p1) [.In] [.Name g p2] p3) [⟨.Name x px, iter, [], 0⟩] scope gpos) X.env) :: starEach [] X.env := by rfl) :
    PE X (.Call (.Name "all" p) [.GeneratorExp (.Compare (.Name x p1) [.In] [.Name g p2] p3) [⟨.Name x px, iter, [], 0⟩] scope gpos] [] pos) (tAllL K P j te) := by
  subst hK
  rw [← hse] at hsc hc
  refine pe_allN (P := P) hg hm hb hs (fun pins s σ H Q I h => ?_) he
  obtain ⟨L, ws, hσ, h⟩ := h
  have S := genC_of I.ok hsc
  refine wpAny_GeneratorExp_walksQ hr.hd S.co (closure_ok S.free) S.cell S.dot S.loc S.kind (by have := hr.dp; omega) (thn (hi.run pins s σ H _ I h) fun xv s1 ⟨v, H1, I1, r1, q1⟩ => ?_) hs
  obtain ⟨yl, zs, rfl, hyl, ⟨ps, hP, ht⟩, hL, q1⟩ := q1
  obtain rfl : xv = Value.ref yl := r1
  obtain ⟨its, rv, hl, hz⟩ := I1.list hyl
  obtain ⟨itL, rvL, hlL, _⟩ := I1.list hL
  have hPs : s1.heap.get? P = some { cls := .none, data := .fields ps } := I1.hok P _ hP
  have notP : ∀ {a : Addr} {xs : Array Value}, s1.heap.IsList a xs → a ≠ P := fun {a xs} hI z => by
    obtain ⟨_, e, _, _, d⟩ := hI
    rw [z, hPs] at e
    cases e
    cases d
  have lt : P < s1.heap.objs.size := Heap.lt_size hPs
  have hylt : yl < s1.heap.objs.size := by
    obtain ⟨_, e, _⟩ := hl.isList
    exact Heap.lt_size e
  have len : its.length = zs.length := by rw [← rv.length, List.length_map]
  refine wpAny_pyIter_list hl.isList ?_
  have itr : (s1.heap.push ({ cls := .type "list_iterator", data := .fields #[.ref yl, .int 0 0] } : Obj)).IsListIter s1.heap.objs.size yl 0 := ⟨_, Heap.get?_push_size _ rfl, rfl, rfl⟩
  refine gen_rest (Q' := GenEnd X pins σ P Q) (elt := .Compare (.Name x p1) [.In] [.Name g p2] p3) (x := x) (scope := scope) (gpos := gpos) (n := its.toArray.size) (It := fun i v => its.toArray[i]? = some v) (fp := [s1.heap.objs.size, yl]) (St := fun i h => h.IsListIter s1.heap.objs.size yl i ∧ h.IsList yl its.toArray) (tr := trL (fun z => decide (z ∈ ws)) zs) I1 TB hcode hr.hd hP ht (fun A' hA => Walks.list hA _ _ (Nat.ne_of_lt hylt) _) ⟨itr, hl.isList.push _⟩ (fun b hb => ?_) ?_ (fun g' s5 hG => ⟨g', H1, _, _, rfl, hG, fun H2 hT => ?_⟩)
  · rcases List.mem_cons.mp hb with rfl | hb
    · exact ⟨Nat.le_refl _, (Nat.ne_of_lt lt).symm⟩
    · rw [List.mem_singleton.mp hb]
      exact ⟨Nat.le_of_lt hylt, notP hl.isList⟩
  · intro cenv A' E' i v s₂ m₂ e1 e2 e3 keep hn hm2 hit
    have hit2 : its[i]? = some v := by simpa using hit
    have hi2 : i < zs.length := by
      rw [← len]
      exact (List.getElem?_eq_some_iff.mp hit2).1
    have ez := List.getElem?_eq_getElem hi2
    obtain ⟨u, hu, ru⟩ := rv.get (show (zs.map V.str)[i]? = some (V.str zs[i]) by rw [List.getElem?_map, ez]; rfl)
    rw [hit2] at hu
    cases hu
    obtain ⟨t, rfl⟩ := (show ∃ t, v = Value.str zs[i] t from ru)
    have hk : cenv.scope.kind = .function := by rw [e1]; exact S.kind
    obtain ⟨uL, c', rL, hcl, ncP, ob, ho, hd'⟩ := cap_at I1 hP S hN hσ hc (PySem.mem_of_lookup hfl)
    obtain rfl : uL = Value.ref L := rL
    have hl2 : s₂.heap.IsList L itL.toArray := by
      obtain ⟨oL, e, r⟩ := _root_.id hlL.isList
      exact ⟨oL, keep _ _ (notP hlL.isList) e, r⟩
    refine wpAny_Compare1 ?_
    refine wpAny_Name (wpAny_loadName_local hk (show cenv.scope.names.lookup x = some .local by rw [e1]; exact S.loc) hn hm2 ?_) hd
    refine wpAny_Name (wpAny_loadName_free hk (show cenv.scope.names.lookup g = some .free by rw [e1]; exact hfl) (by rw [e3]; exact hcl) ⟨ob, keep _ _ ncP ho, hd'⟩ ?_ hcd) hdg
    refine in_list_strs hl2 (strs_of_vals rvL) ⟨congrArg Value.bool ?_, GxR.keeps_refl _⟩
    rw [trL_at ez]
    show ws.any (· == zs[i]) = decide (zs[i] ∈ ws)
    rw [Bool.eq_iff_iff, List.any_eq_true, decide_eq_true_eq]
    constructor
    · rintro ⟨w', hw, e⟩
      rw [beq_iff_eq] at e
      exact e ▸ hw
    · intro hw
      exact ⟨_, hw, by simp⟩
  · rw [List.size_toArray, len, all_at]
    exact q1 H2 hT
end
end KT

/-! A text of words read by a table: the reading that spells it, by the text's own steps. -/
namespace KT
open PySem PySem.Spec PyProof.Rows L2
theorem ix_kdictK {X : Cx} {K : PySem.W.Frag} {w : World} (h : X.K = K) (h2 : X.w = w) : IxR X (rIxD K w) := by
  subst h h2
  exact ix_kdict
def numOf (c : Nat) : Int := if c = 45 then 3 else 1
def sgn (c : Nat) : Str := ⟨#[c]⟩
def kvsM (l : List (Str × Str)) : List (Key × V) := kvsOf (l.map Prod.swap)
def mkOf (l : List (Str × Str)) (c : Str) : Str := match valV (kvsM l) (.inr c) with
  | some (.str m) => m
  | _ => ""
def addM (R : List Int) (m : List Nat) : List Int := m.foldl (fun R c => R ++ [numOf c, 1]) R
def setZ (R : List Int) (z : Int) : List Int := R.dropLast ++ [z]
def addL (l : List (Str × Str)) (R : List Int) (c : Nat) : List Int := setZ (addM R (TL.tl (mkOf l (sgn c)))) 3
def addW (l : List (Str × Str)) (R : List Int) (w : Str) : List Int := setZ ((TL.tl w).foldl (addL l) R) 7
def addT (l : List (Str × Str)) (ws : List Str) : List Int := ws.foldl (addW l) []
def textR (l : List (Str × Str)) (ws : List Str) : List Int := (addT l ws).dropLast
/-! ### dicts of rows -/
theorem kvs_get : ∀ {l : List (Str × Str)}, (l.map (·.2)).Nodup → ∀ e ∈ l, valV (kvsOf l) (.inr e.2) = some (.str e.1) := by
  intro l
  rw [← List.reverse_reverse l]
  induction l.reverse with
  | nil => intro _ e he; cases he
  | cons a l ih =>
    intro nd e he
    rw [List.reverse_cons] at nd he ⊢
    rw [kvsOf_snoc, valV_put]
    rw [List.map_append, List.map_singleton] at nd
    obtain ⟨n1, _, n3⟩ := List.nodup_append.mp nd
    rcases List.mem_append.mp he with h | h
    · have hne : e.2 ≠ a.2 := n3 _ (List.mem_map.mpr ⟨e, h, rfl⟩) _ List.mem_cons_self
      rw [if_neg fun z => hne (by first | exact (Sum.inr.inj z) | exact (Sum.inr.inj z).symm)]
      exact ih n1 e h
    · rw [List.mem_singleton.mp h, if_pos rfl]
theorem kvs_none : ∀ {l : List (Str × Str)} {z : Str}, z ∉ l.map (·.2) → valV (kvsOf l) (.inr z) = none := by
  intro l z
  rw [← List.reverse_reverse l]
  induction l.reverse with
  | nil => intro _; rfl
  | cons a l ih =>
    intro h
    rw [List.reverse_cons] at h ⊢
    rw [kvsOf_snoc, valV_put]
    rw [List.map_append, List.map_singleton, List.mem_append, List.mem_singleton, not_or] at h
    rw [if_neg fun w => h.2 (by first | exact (Sum.inr.inj w) | exact (Sum.inr.inj w).symm)]
    exact ih h.1
theorem GoodT.nd2 {l : List (Str × Str)} (h : GoodT l) : (l.map (·.2)).Nodup := by
  rw [List.nodup_iff_pairwise_ne, List.pairwise_iff_getElem]
  intro i j hi hj hij
  rw [List.getElem_map, List.getElem_map]
  rw [List.length_map] at hi hj
  exact (h.new i j _ _ hij (List.getElem?_eq_getElem hi) (List.getElem?_eq_getElem hj)).2.2.2.symm
theorem GoodT.nd1 {l : List (Str × Str)} (h : GoodT l) : (l.map (·.1)).Nodup := by
  rw [List.nodup_iff_pairwise_ne, List.pairwise_iff_getElem]
  intro i j hi hj hij
  rw [List.getElem_map, List.getElem_map]
  rw [List.length_map] at hi hj
  exact (h.new i j _ _ hij (List.getElem?_eq_getElem hi) (List.getElem?_eq_getElem hj)).1.symm
theorem swap_map (l : List (Str × Str)) : (l.map Prod.swap).map (·.2) = l.map (·.1) := by
  rw [List.map_map]
  rfl
theorem kvsM_get {l : List (Str × Str)} (h : GoodT l) {e : Str × Str} (he : e ∈ l) : valV (kvsM l) (.inr e.1) = some (.str e.2) := by
  have := kvs_get (l := l.map Prod.swap) (by rw [swap_map]; exact h.nd1) e.swap (List.mem_map.mpr ⟨e, he, rfl⟩)
  exact this
theorem kvsM_none {l : List (Str × Str)} {z : Str} (h : z ∉ l.map (·.1)) : valV (kvsM l) (.inr z) = none := kvs_none (l := l.map Prod.swap) (by rw [swap_map]; exact h)
theorem kvsM_some {l : List (Str × Str)} (h : GoodT l) (z : Str) : (valV (kvsM l) (.inr z)).isSome = decide (z ∈ l.map (·.1)) := by
  by_cases c : z ∈ l.map (·.1)
  · obtain ⟨e, he, rfl⟩ := List.mem_map.mp c
    rw [kvsM_get h he, decide_eq_true c]
    rfl
  · rw [kvsM_none c, decide_eq_false c]
    rfl
theorem kvsM_snoc (l : List (Str × Str)) (e : Str × Str) : kvsM (l ++ [e]) = putK (kvsM l) (.inr e.1) (.str e.2) := by
  unfold kvsM
  rw [List.map_append]
  exact kvsOf_snoc _ _
theorem kvsM_len (l : List (Str × Str)) : (kvsM l).length ≤ l.length := by
  have := kvsOf_len (l.map Prod.swap)
  rw [List.length_map] at this
  exact this
theorem mkOf_get {l : List (Str × Str)} (h : GoodT l) {e : Str × Str} (he : e ∈ l) : mkOf l e.1 = e.2 := by
  unfold mkOf
  rw [kvsM_get h he]
theorem fOf_get {l : List (Str × Str)} (h : GoodT l) {e : Str × Str} (he : e ∈ l) : fOf l e.2 = e.1 := by
  unfold fOf
  rw [kvs_get h.nd2 e he]
/-! ### steps -/
theorem addM_snoc (R : List Int) (m : List Nat) (c : Nat) : addM R (m ++ [c]) = addM R m ++ [numOf c, 1] := by
  unfold addM
  rw [List.foldl_append]
  rfl
theorem addM_len (R : List Int) : ∀ m : List Nat, (addM R m).length = R.length + 2 * m.length := by
  intro m
  rw [← List.reverse_reverse m]
  induction m.reverse with
  | nil => rfl
  | cons a m ih =>
    rw [List.reverse_cons, addM_snoc, List.length_append, ih, List.length_append]
    simp
    omega
theorem setZ_len {R : List Int} (h : R ≠ []) (z : Int) : (setZ R z).length = R.length := by
  unfold setZ
  have : 0 < R.length := List.length_pos_iff.mpr h
  rw [List.length_append, List.length_dropLast, List.length_singleton]
  omega
theorem setZ_ne (R : List Int) (z : Int) : setZ R z ≠ [] := by
  unfold setZ
  simp
theorem setZ_drop (R : List Int) (z : Int) : (setZ R z).dropLast = R.dropLast := by
  unfold setZ
  exact List.dropLast_concat
abbrev st0 : St3 := ([], [], "")
def txt (m : List Nat) : Str := ⟨m.toArray⟩
theorem mark_num {c : Nat} (h : c = 46 ∨ c = 45) : markG (numOf c) = sgn c := by
  rcases h with rfl | rfl <;> decide +kernel
theorem s_app_txt (u : Str) (m : List Nat) (c : Nat) : u ++ txt m ++ sgn c = u ++ txt (m ++ [c]) := by
  refine TL.ext_tl ?_
  rw [TL.tl_append, TL.tl_append, TL.tl_append]
  show TL.tl u ++ m ++ [c] = TL.tl u ++ (m ++ [c])
  rw [List.append_assoc]
/-- what is known of the numbers of a text's beginning -/
structure RdW (R : List Int) (D : List (List Str)) (w : List Str) : Prop where
  even : R.length % 2 = 0
  fold : wFold 0 R st0 = ((D, w, "") : St3)
  rdg : Rdg 0 R
  last : w ≠ [] → R ≠ [] ∧ wAll (wFold 0 R.dropLast st0) = D ++ [w] ∧ ∀ z, z = 7 → wFold 0 (setZ R z) st0 = ((D ++ [w], [], "") : St3)
theorem odd_kinds {i : Int} (h : i % 2 = 1) {k : Int} (hk : k = 1 ∨ k = 3 ∨ k = 7) : k ∈ kinds i := by
  rw [kinds_odd h]
  rcases hk with rfl | rfl | rfl <;> decide
theorem addM_ok {R : List Int} {D : List (List Str)} {w : List Str} (h : R.length % 2 = 0) (f : wFold 0 R st0 = ((D, w, "") : St3)) (r : Rdg 0 R) : ∀ m : List Nat, (∀ c ∈ m, c = 46 ∨ c = 45) →
    (addM R m).length % 2 = 0 ∧ wFold 0 (addM R m) st0 = (D, w, txt m) ∧ Rdg 0 (addM R m) ∧ (m ≠ [] → addM R m ≠ [] ∧ wFold 0 (addM R m).dropLast st0 = (D, w, txt m)) := by
  intro m
  rw [← List.reverse_reverse m]
  induction m.reverse with
  | nil => intro _; exact ⟨h, f, r, fun z => absurd rfl z⟩
  | cons a m ih =>
    intro hm
    rw [List.reverse_cons] at hm ⊢
    obtain ⟨e1, e2, e3, _⟩ := ih fun c hc => hm c (List.mem_append_left _ hc)
    have ha := hm a (by simp)
    rw [addM_snoc, show addM R m.reverse ++ [numOf a, 1] = addM R m.reverse ++ [numOf a] ++ [1] by simp]
    have f1 : wFold 0 (addM R m.reverse ++ [numOf a]) st0 = (D, w, txt (m.reverse ++ [a])) := by
      rw [wFold_snoc, e2]
      unfold wStep
      rw [if_pos (by omega)]
      refine congrArg (fun z => (D, w, z)) ?_
      show txt m.reverse ++ markG (numOf a) = _
      rw [mark_num ha]
      refine TL.ext_tl ?_
      rw [TL.tl_append]
      rfl
    have len : (addM R m.reverse ++ [numOf a]).length = (addM R m.reverse).length + 1 := by simp
    have r1 : Rdg 0 (addM R m.reverse ++ [numOf a]) := e3.add (by
      rw [kinds_even (by omega)]
      unfold numOf
      split <;> decide)
    refine ⟨by rw [List.length_append, len, List.length_singleton]; omega, ?_, r1.add (odd_kinds (by rw [len]; omega) (.inl rfl)), fun _ => ⟨by simp, ?_⟩⟩
    · rw [wFold_snoc, f1]
      unfold wStep
      rw [if_neg (by rw [len]; omega), if_neg (by decide), if_neg (by decide)]
    · rw [List.dropLast_concat]
      exact f1
theorem addL_ok {R : List Int} {D : List (List Str)} {w : List Str} {l : List (Str × Str)} {c : Nat} (h : RdW R D w) (hm : ∀ x ∈ TL.tl (mkOf l (sgn c)), x = 46 ∨ x = 45) (hn : TL.tl (mkOf l (sgn c)) ≠ []) : RdW (addL l R c) D (w ++ [mkOf l (sgn c)]) := by
  obtain ⟨e1, e2, e3, e4⟩ := addM_ok h.even h.fold h.rdg _ hm
  obtain ⟨n1, e5⟩ := e4 hn
  have et : txt (TL.tl (mkOf l (sgn c))) = mkOf l (sgn c) := TL.ext_tl rfl
  have pos : 0 < (addM R (TL.tl (mkOf l (sgn c)))).length := List.length_pos_iff.mpr n1
  have hdl : (addM R (TL.tl (mkOf l (sgn c)))).dropLast.length = (addM R (TL.tl (mkOf l (sgn c)))).length - 1 := List.length_dropLast
  have rd : Rdg 0 (addM R (TL.tl (mkOf l (sgn c)))).dropLast := fun i k ek => e3 i k (by
    have hi := (List.getElem?_eq_some_iff.mp ek).1
    rw [List.getElem?_dropLast, if_pos (by omega)] at ek
    exact ek)
  have step : ∀ z, wFold 0 (setZ (addM R (TL.tl (mkOf l (sgn c)))) z) st0 = wStep (0 + (addM R (TL.tl (mkOf l (sgn c)))).dropLast.length) z (D, w, mkOf l (sgn c)) := fun z => by
    unfold setZ
    rw [wFold_snoc, e5, et]
  refine ⟨?_, ?_, ?_, fun _ => ⟨setZ_ne _ _, ?_, fun z hz => ?_⟩⟩
  · unfold addL
    rw [setZ_len n1]
    exact e1
  · unfold addL
    rw [step]
    unfold wStep
    rw [if_neg (by omega), if_pos rfl]
  · unfold addL setZ
    exact rd.add (odd_kinds (by omega) (.inr (.inl rfl)))
  · unfold addL
    rw [setZ_drop, e5, et]
    rfl
  · unfold addL
    subst hz
    rw [show setZ (setZ (addM R (TL.tl (mkOf l (sgn c)))) 3) 7 = setZ (addM R (TL.tl (mkOf l (sgn c)))) 7 by
      show (setZ _ 3).dropLast ++ [7] = _
      rw [setZ_drop]
      rfl, step]
    unfold wStep
    rw [if_neg (by omega), if_neg (by decide), if_pos rfl]
/-- a letter of the table, and its marks -/
def okLet (l : List (Str × Str)) (c : Nat) : Prop := sgn c ∈ l.map (·.1)
theorem let_marks {l : List (Str × Str)} (h : GoodT l) {c : Nat} (hc : okLet l c) : (∀ x ∈ TL.tl (mkOf l (sgn c)), x = 46 ∨ x = 45) ∧ TL.tl (mkOf l (sgn c)) ≠ [] ∧ (TL.tl (mkOf l (sgn c))).length ≤ 6 ∧ fOf l (mkOf l (sgn c)) = sgn c ∧ valV (kvsM l) (.inr (sgn c)) = some (.str (mkOf l (sgn c))) := by
  obtain ⟨e, he, ec⟩ := List.mem_map.mp hc
  obtain ⟨_, _, h3, h4⟩ := h.one e he
  rw [← ec, mkOf_get h he]
  unfold isMarks at h4
  rw [Bool.and_eq_true] at h4
  have h5 := of_decide_eq_true h4.1
  refine ⟨fun x hx => ?_, fun z => ?_, by simpa [Str.length] using h3, fOf_get h he, kvsM_get h he⟩
  · have z := of_decide_eq_true (List.all_eq_true.mp h4.2 x hx)
    unfold dotDash at z
    rcases List.mem_cons.mp z with z | z
    · have : [x] = [46] := congrArg TL.tl z
      exact .inl (List.cons.inj this).1
    · have : [x] = [45] := congrArg TL.tl (List.mem_singleton.mp z)
      exact .inr (List.cons.inj this).1
  · have e2 : e.2.length = (TL.tl e.2).length := by simp [Str.length]
    rw [z] at e2
    simp at e2
    omega
def marksW (l : List (Str × Str)) (w : Str) : List Str := (TL.tl w).map fun c => mkOf l (sgn c)
theorem addLs_ok {l : List (Str × Str)} (g : GoodT l) {R : List Int} {D : List (List Str)} (h : RdW R D []) : ∀ cs : List Nat, (∀ c ∈ cs, okLet l c) → RdW (cs.foldl (addL l) R) D (cs.map fun c => mkOf l (sgn c)) := by
  intro cs
  rw [← List.reverse_reverse cs]
  induction cs.reverse with
  | nil => intro _; exact h
  | cons a cs ih =>
    intro hc
    rw [List.reverse_cons] at hc ⊢
    rw [List.foldl_append, List.map_append]
    obtain ⟨h1, h2, _⟩ := let_marks g (hc a (by simp))
    exact addL_ok (ih fun c hm => hc c (List.mem_append_left _ hm)) h1 h2
/-- a word of the table's letters -/
def okW (l : List (Str × Str)) (w : Str) : Prop := w ≠ "" ∧ ∀ c ∈ TL.tl w, okLet l c
/-- behind whole words -/
structure RdT (R : List Int) (D : List (List Str)) : Prop where
  w : RdW R D []
  all : D ≠ [] → R ≠ [] ∧ wAll (wFold 0 R.dropLast st0) = D
theorem tl_ne {w : Str} (h : w ≠ "") : TL.tl w ≠ [] := fun z => h (TL.ext_tl (z.trans rfl))
theorem addW_ok {l : List (Str × Str)} (g : GoodT l) {R : List Int} {D : List (List Str)} (h : RdT R D) {w : Str} (hw : okW l w) : RdT (addW l R w) (D ++ [marksW l w]) := by
  have q := addLs_ok g h.w (TL.tl w) hw.2
  have ne : (TL.tl w).map (fun c => mkOf l (sgn c)) ≠ [] := fun z => tl_ne hw.1 (List.map_eq_nil_iff.mp z)
  obtain ⟨n1, a1, s1⟩ := q.last ne
  have pos : 0 < ((TL.tl w).foldl (addL l) R).length := List.length_pos_iff.mpr n1
  have hdl : ((TL.tl w).foldl (addL l) R).dropLast.length = ((TL.tl w).foldl (addL l) R).length - 1 := List.length_dropLast
  have ev := q.even
  have rd : Rdg 0 ((TL.tl w).foldl (addL l) R).dropLast := fun i k ek => q.rdg i k (by
    have hi := (List.getElem?_eq_some_iff.mp ek).1
    rw [List.getElem?_dropLast, if_pos (by omega)] at ek
    exact ek)
  refine ⟨⟨?_, s1 7 rfl, ?_, fun z => absurd rfl z⟩, fun _ => ⟨setZ_ne _ _, ?_⟩⟩
  · unfold addW
    rw [setZ_len n1]
    exact ev
  · unfold addW setZ
    exact rd.add (odd_kinds (by omega) (.inr (.inr rfl)))
  · unfold addW
    rw [setZ_drop]
    exact a1
theorem addT_ok {l : List (Str × Str)} (g : GoodT l) : ∀ ws : List Str, (∀ w ∈ ws, okW l w) → RdT (addT l ws) (ws.map (marksW l)) := by
  intro ws
  rw [← List.reverse_reverse ws]
  induction ws.reverse with
  | nil => intro _; exact ⟨⟨rfl, rfl, (fun i k e => by cases e), fun z => absurd rfl z⟩, fun z => absurd rfl z⟩
  | cons a ws ih =>
    intro h
    rw [List.reverse_cons] at h ⊢
    unfold addT
    rw [List.foldl_append, List.map_append]
    exact addW_ok g (ih fun w hm => h w (List.mem_append_left _ hm)) (h a (by simp))
theorem join_nil (xs : List Nat) : Txt.join "" (xs.map sgn) = txt xs := by
  refine TL.ext_tl ?_
  rw [TL.join_eq, TL.tl_join]
  show TL.joinL [] ((xs.map sgn).map TL.tl) = xs
  induction xs with
  | nil => rfl
  | cons a xs ih =>
    cases xs with
    | nil => rfl
    | cons b xs =>
      show [a] ++ ([] ++ TL.joinL [] (((b :: xs).map sgn).map TL.tl)) = a :: b :: xs
      rw [ih]
      rfl
theorem word_back {l : List (Str × Str)} (g : GoodT l) {w : Str} (h : ∀ c ∈ TL.tl w, okLet l c) : wordOf (fOf l) (marksW l w) = w := by
  unfold wordOf marksW
  rw [List.map_map, List.map_congr_left (g := sgn) (show ∀ c ∈ TL.tl w, (fOf l ∘ fun c => mkOf l (sgn c)) c = sgn c from fun c hc => (let_marks g (h c hc)).2.2.2.1), join_nil]
  exact TL.ext_tl rfl
theorem text_back {l : List (Str × Str)} (g : GoodT l) {ws : List Str} (hn : ws ≠ []) (h : ∀ w ∈ ws, okW l w) : spelledOf l (textR l ws) = Txt.join " " ws := by
  have q := addT_ok g ws h
  have m : marksOf (textR l ws) = ws.map (marksW l) := (q.all (by simpa using hn)).2
  unfold spelledOf
  rw [m, List.map_map, List.map_congr_left (g := id) (show ∀ w ∈ ws, (wordOf (fOf l) ∘ marksW l) w = id w from fun w hw => word_back g (h w hw).2), List.map_id]
theorem text_rdg {l : List (Str × Str)} (g : GoodT l) {ws : List Str} (hn : ws ≠ []) (h : ∀ w ∈ ws, okW l w) : Rdg 0 (textR l ws) ∧ (textR l ws).length % 2 = 1 := by
  have q := addT_ok g ws h
  obtain ⟨n, _⟩ := q.all (by simpa using hn)
  have pos : 0 < (addT l ws).length := List.length_pos_iff.mpr n
  have ev := q.w.even
  have hdl : (addT l ws).dropLast.length = (addT l ws).length - 1 := List.length_dropLast
  refine ⟨fun i k ek => q.w.rdg i k ?_, ?_⟩
  · unfold textR at ek
    have hi := (List.getElem?_eq_some_iff.mp ek).1
    rw [List.getElem?_dropLast, if_pos (by omega)] at ek
    exact ek
  · unfold textR
    omega
/-! ### lengths -/
theorem addL_len {l : List (Str × Str)} (g : GoodT l) (R : List Int) {c : Nat} (h : okLet l c) : R.length + 2 ≤ (addL l R c).length ∧ (addL l R c).length ≤ R.length + 12 := by
  obtain ⟨_, h2, h3, _⟩ := let_marks g h
  have e := addM_len R (TL.tl (mkOf l (sgn c)))
  have pos : 0 < (TL.tl (mkOf l (sgn c))).length := List.length_pos_iff.mpr h2
  unfold addL
  rw [setZ_len (List.length_pos_iff.mp (by omega))]
  omega
theorem addLs_len {l : List (Str × Str)} (g : GoodT l) (R : List Int) : ∀ cs : List Nat, (∀ c ∈ cs, okLet l c) → R.length + 2 * cs.length ≤ (cs.foldl (addL l) R).length ∧ (cs.foldl (addL l) R).length ≤ R.length + 12 * cs.length := by
  intro cs
  rw [← List.reverse_reverse cs]
  induction cs.reverse with
  | nil => intro _; exact ⟨Nat.le_refl _, Nat.le_refl _⟩
  | cons a cs ih =>
    intro h
    rw [List.reverse_cons] at h ⊢
    rw [List.foldl_append, List.length_append]
    have h1 := ih fun c hm => h c (List.mem_append_left _ hm)
    have h2 := addL_len g (cs.reverse.foldl (addL l) R) (h a (by simp))
    show _ ≤ (addL l _ a).length ∧ (addL l _ a).length ≤ _
    simp only [List.length_singleton]
    omega
theorem addW_len {l : List (Str × Str)} (g : GoodT l) (R : List Int) {w : Str} (h : okW l w) : R.length + 2 ≤ (addW l R w).length ∧ (addW l R w).length ≤ R.length + 12 * w.length := by
  have h1 := addLs_len g R _ h.2
  have pos : 0 < (TL.tl w).length := List.length_pos_iff.mpr (tl_ne h.1)
  have e : w.length = (TL.tl w).length := by simp [Str.length]
  unfold addW
  rw [setZ_len (List.length_pos_iff.mp (by omega))]
  omega
theorem addT_len {l : List (Str × Str)} (g : GoodT l) {b : Nat} : ∀ ws : List Str, (∀ w ∈ ws, okW l w ∧ w.length ≤ b) → 2 * ws.length ≤ (addT l ws).length ∧ (addT l ws).length ≤ 12 * b * ws.length := by
  intro ws
  rw [← List.reverse_reverse ws]
  induction ws.reverse with
  | nil => intro _; exact ⟨Nat.le_refl _, Nat.zero_le _⟩
  | cons a ws ih =>
    intro h
    rw [List.reverse_cons] at h ⊢
    obtain ⟨ha, hb⟩ := h a (by simp)
    have h1 := ih fun w hm => h w (List.mem_append_left _ hm)
    have h2 := addW_len g (addT l ws.reverse) ha
    have e : addT l (ws.reverse ++ [a]) = addW l (addT l ws.reverse) a := by
      unfold addT
      rw [List.foldl_append]
      rfl
    rw [e, List.length_append, List.length_singleton, Nat.mul_add (12 * b), Nat.mul_one]
    have h3 : 12 * a.length ≤ 12 * b := Nat.mul_le_mul_left _ hb
    omega
end KT
namespace KT
open PySem PySem.Spec PyProof.Rows L2
/-! ### promises -/
/-- words without blanks, few and short -/
structure WsOk (ws : List Str) : Prop where
  ne : ws ≠ []
  few : ws.length ≤ 40
  each : ∀ w ∈ ws, (32 : Nat) ∉ TL.tl w ∧ w.length ≤ 40
theorem WsOk.split {ws : List Str} (h : WsOk ws) : Txt.split (Txt.join " " ws) " " = ws := TL.split_join (y := " ") (s := 32) (S := []) (by decide +kernel) (by decide +kernel) h.ne fun p hp => (h.each p hp).1
theorem WsOk.len {ws : List Str} (h : WsOk ws) : (Txt.join " " ws).length ≤ 2000 := by
  have h1 := join_len " " ws
  have h2 := sum_le (fun x : Str => x.length) 40 ws fun x hx => (h.each x hx).2
  have h3 := h.few
  have h4 : (" " : Str).length = 1 := by decide +kernel
  rw [h4] at h1
  omega
def goodWs (l : List (Str × Str)) (ws : List Str) : Prop := ∀ w ∈ ws, okW l w
def spReadingOf (T : List Addr) (CT R : Addr) : Sp := fun vs H Q E => ∃ (xt lt : Addr) (ys : List V) (l : List (Str × Str)) (ws : List Str), vs = [.ref xt, .str (Txt.join " " ws)] ∧ TableAt CT H xt lt ys ∧ RowsT H ys l ∧ GoodT l ∧ WsOk ws ∧ Tb T H ∧
  ((goodWs l ws ∧ ∀ (p : Addr) (H' : Hp), H p = none → ExtT H H' → Tb T H' → H' p = some (.lst ((textR l ws).map V.int)) → Q (.ref p) H') ∨ (¬ goodWs l ws ∧ ∀ H', ExtT H H' → Tb T H' → E (.ref R) none H'))
theorem set_neg {R : List Int} (h : R ≠ []) (z : Int) : ixN (R.map V.int).length (-1) = some (R.length - 1) ∧ (R.map V.int).set (R.length - 1) (V.int z) = (setZ R z).map V.int := by
  rcases List.eq_nil_or_concat R with rfl | ⟨R', a, rfl⟩
  · exact absurd rfl h
  rw [List.concat_eq_append]
  constructor
  · rw [List.map_append, List.map_singleton, ixN_last, List.length_map, List.length_append, List.length_singleton]
    rfl
  · unfold setZ
    rw [List.dropLast_concat, List.map_append, List.map_append, List.length_append, List.length_singleton]
    have := set_last (R'.map V.int) (V.int a) (V.int z)
    rw [List.length_map] at this
    exact this
theorem take_snoc {α : Type} {l : List α} {i : Nat} {a : α} (e : l[i]? = some a) : l.take (i + 1) = l.take i ++ [a] := by
  rw [List.take_add_one, e]
  rfl
/-- all but the list at p, what is new and the tables stay -/
theorem tb_lst {T : List Addr} {H : Hp} {p : Addr} {o : HO} {xs : List V} (h : Tb T H) (e : H p = some (.lst xs)) : Tb T (upd H p o) := tb_put h e fun ps z => nomatch z
end KT
namespace KT
open PySem PySem.Spec PyProof.Rows L2
theorem all_let {l : List (Str × Str)} (g : GoodT l) (w : Str) : (w.cps.toList.all fun c => (valV (kvsM l) (.inr ⟨#[c]⟩)).isSome) = true ↔ ∀ c ∈ TL.tl w, okLet l c := by
  rw [List.all_eq_true]
  refine forall_congr' fun c => imp_congr_right fun _ => ?_
  rw [show (⟨#[c]⟩ : Str) = sgn c from rfl, kvsM_some g, decide_eq_true_eq]
  rfl
theorem num_at {K : PySem.W.Frag} {w : World} {no : Addr} (V_dot : KDct K w no "." (.int 1)) (V_dash : KDct K w no "-" (.int 3)) {c : Nat} (h : c = 46 ∨ c = 45) : KDct K w no ⟨#[c]⟩ (.int (numOf c)) := by
  rcases h with rfl | rfl
  · have e : (⟨#[46]⟩ : Str) = "." := by decide +kernel
    rw [e]
    exact V_dot
  · have e : (⟨#[45]⟩ : Str) = "-" := by decide +kernel
    rw [e]
    exact V_dash
theorem dget_k {H : Hp} {D : Addr} {kvs : List (Key × V)} {z : Str} {v : V} (e : H D = some (.dK kvs)) (h : valV kvs (.inr z) = some v) : DGet H D (.str z) (some v) := by
  have q := DGet.k (k := .inr z) e
  rw [h] at q
  exact q
theorem arr_at {w : Str} {j c : Nat} (h : w.cps[j]? = some c) : (TL.tl w)[j]? = some c := by rw [Array.getElem?_toList]; exact h
end KT
namespace KT
open PySem PySem.Spec PyProof.Rows L2
/-- nothing that stood, tables aside, is at x -/
def NewT (H : Hp) (x : Addr) : Prop := ∀ b o, H b = some o → (∀ ps, o ≠ .tbl ps) → b ≠ x
theorem NewT.of {H H' : Hp} {x : Addr} (e : ExtT H H') (n : H' x = none) : NewT H x := fun b o h t => ne_of_none (e b o h t) n
def spTapped (T : List Addr) (CT C R : Addr) : Sp := fun vs H Q E => ∃ (xt lt : Addr) (ys : List V) (l : List (Str × Str)) (ws : List Str) (u : Int), vs = [.ref xt, .str (Txt.join " " ws), .int u] ∧ TableAt CT H xt lt ys ∧ RowsT H ys l ∧ GoodT l ∧ WsOk ws ∧ Tb T H ∧
  ((goodWs l ws ∧ (textR l ws).length ≤ 25 ∧ 1 ≤ u ∧ u ≤ 999 ∧ ∀ (x la : Addr) (H' : Hp), NewT H x → NewT H la → ExtT H H' → Tb T H' → TapsAt C H' x la ((textR l ws).map (· * u)) → Q (.ref x) H') ∨
   ((¬ goodWs l ws ∨ 25 < (textR l ws).length ∨ u < 1 ∨ 999 < u) ∧ ∀ H', ExtT H H' → Tb T H' → E (.ref R) none H'))
theorem text_tps {l : List (Str × Str)} (g : GoodT l) {ws : List Str} (hn : ws ≠ []) (h : goodWs l ws) (le : (textR l ws).length ≤ 25) {u : Int} (h1 : 1 ≤ u) (h2 : u ≤ 999) : Tps ((textR l ws).map (· * u)) := by
  obtain ⟨r, o⟩ := text_rdg g hn h
  refine ⟨by rw [List.length_map]; exact o, by rw [List.length_map]; exact le, fun i z hz => ?_⟩
  rw [List.getElem?_map] at hz
  obtain ⟨k, ek, rfl⟩ := Option.map_eq_some_iff.mp hz
  rcases kinds_le (r i k ek) with rfl | rfl | rfl <;> constructor <;> omega
end KT
namespace KT
open PySem PySem.Spec PyProof.Rows L2
/-! ### the law's words -/
theorem signs_of {l : List (Str × Str)} : ∀ {xs : List V}, (∀ (i : Nat) (y : V), xs[i]? = some y → ∃ c, y = V.str (sgn c) ∧ okLet l c) → ∃ cs : List Nat, xs = (cs.map sgn).map V.str ∧ cs.length = xs.length ∧ ∀ c ∈ cs, okLet l c
  | [], _ => ⟨[], rfl, rfl, fun c h => nomatch h⟩
  | x :: xs, h => by
    obtain ⟨c, rfl, hc⟩ := h 0 x rfl
    obtain ⟨cs, rfl, e2, e3⟩ := signs_of (xs := xs) fun i y e => h (i + 1) y e
    refine ⟨c :: cs, rfl, by simpa using e2, fun d hd => ?_⟩
    rcases List.mem_cons.mp hd with rfl | hd
    · exact hc
    · exact e3 d hd
theorem one_sgn {z : Str} (h : z.length = 1) : ∃ c, z = sgn c := by
  have e : z.length = (TL.tl z).length := by simp [Str.length]
  rw [h] at e
  match q : TL.tl z with
  | [c] => exact ⟨c, TL.ext_tl q⟩
  | [] => rw [q] at e; cases e
  | _ :: _ :: _ => rw [q] at e; simp at e
theorem okLet_small {l : List (Str × Str)} (g : GoodT l) {c : Nat} (h : okLet l c) : c ≠ 32 ∧ 97 ≤ c ∧ c ≤ 122 := by
  obtain ⟨e, he, ec⟩ := List.mem_map.mp h
  obtain ⟨_, h2, _⟩ := g.one e he
  rw [ec] at h2
  unfold isSmall allIn at h2
  rw [Bool.and_eq_true] at h2
  have z := List.all_eq_true.mp h2.2 c (by show c ∈ [c]; simp)
  have z := of_decide_eq_true z
  have all : ∀ x ∈ letters26.cps.toList, x ≠ 32 ∧ 97 ≤ x ∧ x ≤ 122 := by decide +kernel
  exact all c z
theorem txt_len (cs : List Nat) : (txt cs).length = cs.length := by simp [Str.length, txt]
theorem okW_txt {l : List (Str × Str)} {cs : List Nat} (h : ∀ c ∈ cs, okLet l c) (n : cs ≠ []) : okW l (txt cs) := by
  refine ⟨fun z => n ?_, h⟩
  have : TL.tl (txt cs) = TL.tl "" := congrArg TL.tl z
  exact this
structure LawWs (l : List (Str × Str)) (ws : List Str) : Prop where
  ok : goodWs l ws
  ne : ws ≠ []
  few : ws.length ≤ 3
  short : ∀ w ∈ ws, w.length ≤ 3
theorem LawWs.wok {l : List (Str × Str)} (g : GoodT l) {ws : List Str} (h : LawWs l ws) : WsOk ws := ⟨h.ne, by have := h.few; omega, fun w hw => ⟨fun z => (okLet_small g ((h.ok w hw).2 32 z)).1 rfl, by have := h.short w hw; omega⟩⟩
def spWords : Sp := fun vs H Q _ => ∃ (d pr : Addr) (ys : List V) (l : List (Str × Str)), vs = [.ref d, .ref pr, .int 3] ∧ Dice H d ∧ pr ≠ d ∧ H pr = some (.lst ys) ∧ RowsT H ys l ∧ GoodT l ∧ l ≠ [] ∧
  ∀ (ws : List Str) (p : Addr) (H' : Hp), LawWs l ws → H p = none → H' p = some (.lst (ws.map V.str)) → Dice H' d → Kp d H H' → Q (.ref p) H'
end KT

/-! Calls during which a table of code objects, not theirs, is held as it is. -/
namespace KT
open PySem PySem.Spec PyProof.Rows L2
abbrev tabO (ps : Array Value) : Obj := { cls := .none, data := .fields ps }
/-- the table at P held -/
def heldZ (H : Hp) (P : Addr) (ps : Array Value) : Hp := upd H P (.frz (tabO ps) (.tbl ps))
/-- .. and let go -/
def freeZ (H : Hp) (P : Addr) (ps : Array Value) : Hp := upd H P (.tbl ps)
section
variable {prog : Program} {w : World} {K : PySem.W.Frag} {mg : Str → Option Value} {base : Heap} {P : Addr} {ps : Array Value} {H H' : Hp} {h : Heap}
theorem heldZ_at (b : Addr) (n : b ≠ P) : heldZ H P ps b = H b := upd_ne n
theorem ne_tbl {b : Addr} {o : HO} (hP : H P = some (.tbl ps)) (e : H b = some o) (n : ∀ q, o ≠ .tbl q) : b ≠ P := fun z => by
  rw [z, hP] at e
  exact n ps (Option.some.inj e).symm
theorem hok_held (hok : HOk prog w H h) (hP : H P = some (.tbl ps)) : HOk prog w (heldZ H P ps) h := fun b u e => by
  have g : h.get? P = some (tabO ps) := hok P _ hP
  by_cases z : b = P
  · rw [z] at e ⊢
    unfold heldZ at e
    rw [upd_same] at e
    cases e
    exact ⟨g, g⟩
  · rw [heldZ_at b z] at e
    refine (hok b u e).stay (fun c v _ q => q) (fun c q => ?_) fun c xs q => ?_
    · rw [heldZ_at c (ne_tbl hP q fun _ z => nomatch z)]
      exact q
    · rw [heldZ_at c (ne_tbl hP q fun _ z => nomatch z)]
      exact q
theorem hok_free (hok : HOk prog w H' h) (hP : H' P = some (.frz (tabO ps) (.tbl ps))) : HOk prog w (freeZ H' P ps) h := fun b u e => by
  obtain ⟨g, _⟩ := (show h.get? P = some (tabO ps) ∧ _ from hok P _ hP)
  have ne : ∀ {c : Addr} {o : HO}, H' c = some o → (∀ a v, o ≠ .frz a v) → c ≠ P := fun {c o} q n z => by
    rw [z, hP] at q
    exact n _ _ (Option.some.inj q).symm
  unfold freeZ at e ⊢
  by_cases z : b = P
  · rw [z] at e ⊢
    rw [upd_same] at e
    cases e
    exact g
  · rw [upd_ne z] at e
    refine (hok b u e).stay (fun c v _ q => q) (fun c q => ?_) fun c xs q => ?_
    · rw [upd_ne (ne q fun _ _ z => nomatch z)]
      exact q
    · rw [upd_ne (ne q fun _ _ z => nomatch z)]
      exact q
theorem env0_held {A : Around} {outer : List Env} {s : Shared} (e0 : Env0 prog w K mg base A outer s H) (hP : H P = some (.tbl ps)) : Env0 prog w K mg base A outer s (heldZ H P ps) := by
  have no : ∀ {b : Addr}, H b = none → heldZ H P ps b = none := fun {b} n => by
    rw [heldZ_at b fun z => by rw [z, hP] at n; cases n]
    exact n
  exact ⟨e0.frames, e0.mod, fun b o e => ⟨(e0.bs b o e).1, no (e0.bs b o e).2⟩, e0.bsz, e0.funs, fun b hb => no (e0.frf b hb), hok_held e0.hok hP, e0.bare⟩
theorem held_at {fs : List Addr} {h' : Heap} (hP : H P = some (.tbl ps)) (frzs : ∀ b o u, heldZ H P ps b = some (.frz o u) → H' b = some (.frz o u)) : H' P = some (.frz (tabO ps) (.tbl ps)) := frzs P _ _ upd_same
theorem un_free {fs : List Addr} {h' : Heap} (hP : H P = some (.tbl ps)) (u : Un fs [] (heldZ H P ps) H' h h') : Un fs [] H (freeZ H' P ps) h h' := by
  have no : ∀ {b : Addr}, H b = none → b ≠ P := fun {b} n z => by
    rw [z, hP] at n
    cases n
  have hz : ∀ {b : Addr}, H b = none → heldZ H P ps b = none := fun {b} n => by
    rw [heldZ_at b (no n)]
    exact n
  refine ⟨fun b o e n => u.keep b o e (hz n), fun b o e n => u.slot b o e (hz n), fun b o e n hx => ?_, u.there, fun b xs e => ?_, fun b o v e => ?_, fun b q e => ?_⟩
  · exact (upd_ne (no n)).trans (u.free b o e (hz n) hx)
  · have n := ne_tbl hP e fun _ z => nomatch z
    exact (upd_ne n).trans (u.tups b xs (by rw [heldZ_at b n]; exact e))
  · have n := ne_tbl hP e fun _ z => nomatch z
    exact (upd_ne n).trans (u.frzs b o v (by rw [heldZ_at b n]; exact e))
  · by_cases z : b = P
    · rw [z, hP] at e
      cases e
      exact ⟨#[], by rw [z]; show upd H' P (.tbl ps) P = _; rw [upd_same]; simp⟩
    · obtain ⟨more, q'⟩ := u.tbls b q (by rw [heldZ_at b z]; exact e)
      exact ⟨more, (upd_ne z).trans q'⟩
theorem ce_free {outer : List Env} {s s' : Shared} {Q : VK} {u : Value} (hP : H P = some (.tbl ps)) (c : CE outer prog w (heldZ H P ps) s (fun v H' => Q v (freeZ H' P ps)) u s') : CE outer prog w H s Q u s' := by
  obtain ⟨v, H', os, bare, un, hok, r, q⟩ := c
  exact ⟨v, _, os, bare, un_free hP un, hok_free hok (un.frzs P _ _ upd_same), r, q⟩
theorem cx_free {outer : List Env} {s s' : Shared} {E : XK} {u : Value} (hP : H P = some (.tbl ps)) (c : L2N.CX prog w outer (heldZ H P ps) s (fun cls d H' => E cls d (freeZ H' P ps)) u s') : L2N.CX prog w outer H s E u s' := by
  obtain ⟨a, B, H', cls, d, rfl, fl, hok, ub, na, os, ag, q⟩ := c
  have no : ∀ {b : Addr}, H b = none → b ≠ P := fun {b} n z => by
    rw [z, hP] at n
    cases n
  have hz : ∀ {b : Addr}, H b = none → heldZ H P ps b = none := fun {b} n => by
    rw [heldZ_at b (no n)]
    exact n
  have at' := ub.frzs P _ _ (upd_same (H := H) (a := P))
  refine ⟨a, B, freeZ H' P ps, cls, d, rfl, fl, hok_free hok at', ⟨fun b o e n => ub.keep b o e (hz n), ub.slot, fun b o e n => (upd_ne (no n)).trans (ub.free b o e (hz n)), ub.there, fun b xs e => ?_, fun b o v e => ?_, fun b q e => ?_⟩, ?_, os, ag, q⟩
  · have n := ne_tbl hP e fun _ z => nomatch z
    exact (upd_ne n).trans (ub.tups b xs (by rw [heldZ_at b n]; exact e))
  · have n := ne_tbl hP e fun _ z => nomatch z
    exact (upd_ne n).trans (ub.frzs b o v (by rw [heldZ_at b n]; exact e))
  · by_cases z : b = P
    · rw [z, hP] at e
      cases e
      exact ⟨#[], by rw [z]; show upd H' P (.tbl ps) P = _; rw [upd_same]; simp⟩
    · obtain ⟨more, q'⟩ := ub.tbls b q (by rw [heldZ_at b z]; exact e)
      exact ⟨more, (upd_ne z).trans q'⟩
  · have n : a ≠ P := fun z => by
      rw [z, at'] at na
      cases na
    exact (upd_ne n).trans na
end
def tCallZ (P : Addr) (sp : Sp) (E : L2.St → XK) (t : TA) : TE := fun σ H Q => t σ H fun vs H1 => ∃ ps, H1 P = some (.tbl ps) ∧ sp vs (heldZ H1 P ps) (fun v H' => Q v (freeZ H' P ps)) (fun cls d H' => E σ cls d (freeZ H' P ps))
section
variable {X : Cx} {P : Addr} {k : Nat} {x : Str} {ps : List Str} {sp : Sp} {e : Expr} {es : List Expr} {t : TA} {p pos : Pos}
theorem pe_callXZ {W : WX} (D : KDef X.prog X.w X.K X.mg X.base (L2N.CX X.prog X.w) k x ps sp) (tk : L2N.Takes X W) (hr : Room k X.A) (hg : Gl X x) (ha : PA X (e :: es) t) (hdb : (x == ("__debug__" : Str)) = false := by decide)
    (he : starEach (e :: es) X.env = (false, eval e X.env) :: starEach es X.env := by rfl) (hpl : (backTo pos (starEach es X.env)).any (·.1) = false := by rfl) : PE X (.Call (.Name x p) (e :: es) [] pos) (tCallZ P sp (WE W) t) := by
  obtain ⟨f, fd, hm, hk, hb, F⟩ := D.ex
  refine ⟨fun pins s σ H Q I h => ?_⟩
  refine wpAny_Call_Name_kw (ld_glob I hg hm ?_ hdb)
  refine PySem.W.callWith_K (h₀ := X.base) I.ok.mod.kin hk (thn (ha.run pos pins s σ H _ I h) fun us s1 ⟨vs, H1, I1, r, q, hP, hsp⟩ => ⟨I1.kIn, ?_⟩) he hpl
  have hl : us.length = ps.length := by rw [← r.length]; exact F.len _ _ _ _ hsp
  have bi := hb s1 us I1.kIn (by rw [List.append_nil]; exact hl)
  rw [List.append_nil] at bi
  refine wpAny_call (codeAny_mono (F.run X.A X.stack s1 _ ⟨us, []⟩ us vs _ _ hr (env0_held I1.env0 hP) bi r hsp) fun r s' hq => ?_)
  cases r with
  | error e => exact L2N.passAt tk σ _ _ _ e s' I1 (cx_free hP hq)
  | ok fl =>
    cases fl with
    | ret u => exact I1.after (ce_free hP hq)
    | next => exact False.elim hq
    | brk => exact False.elim hq
    | cont => exact False.elim hq
/-- making an instance -/
def tMakeZ (P C : Addr) (sp : Sp) (t : TA) : TE := fun σ H Q => t σ H fun vs H1 => ∃ ps, H1 P = some (.tbl ps) ∧ ∀ x dx, H1 x = none → H1 dx = none → dx ≠ x →
  sp (.ref x :: vs) (heldZ (upd (upd H1 dx (.own x)) x (.ins C dx [])) P ps) (fun v H2 => v = .non ∧ Q (.ref x) (freeZ H2 P ps)) E0
theorem pe_makeZ {C : Addr} (D : KMake X.prog X.w X.K X.mg X.base CX0 C k x ps sp) (hr : Room (k + 1) X.A) (hg : Gl X x) (ha : PA X (e :: es) t) (hdb : (x == ("__debug__" : Str)) = false := by decide)
    (he : starEach (e :: es) X.env = (false, eval e X.env) :: starEach es X.env := by rfl) (hpl : (backTo pos (starEach es X.env)).any (·.1) = false := by rfl) :
    PE X (.Call (.Name x p) (e :: es) [] pos) (tMakeZ P C sp t) := by
  obtain ⟨f, fd, hm, M, hb, F⟩ := D.ex
  refine ⟨fun pins s σ H Q I h => ?_⟩
  refine wpAny_Call_Name_kw (ld_glob I hg hm ?_ hdb)
  refine PySem.W.callWith_K (h₀ := X.base) I.ok.mod.kin M.kp (thn (ha.run pos pins s σ H _ I h) fun us s1 ⟨vs, H1, I1, r, q, hP, hsp⟩ => ⟨I1.kIn, ?_⟩) he hpl
  have nx := I1.hok.fresh (Nat.le_succ s1.heap.objs.size)
  have nd := I1.hok.fresh (Nat.le_refl s1.heap.objs.size)
  have sp1 := hsp (s1.heap.objs.size + 1) s1.heap.objs.size nx nd (Nat.ne_of_lt (Nat.lt_succ_self _))
  have I2 := Inv.made (C := C) I1
  have hP2 : upd (upd H1 s1.heap.objs.size (.own (s1.heap.objs.size + 1))) (s1.heap.objs.size + 1) (.ins C s1.heap.objs.size []) P = some (.tbl q) := by
    rw [upd_ne (ne_of_none hP nx), upd_ne (ne_of_none hP nd)]
    exact hP
  have r2 : Vals (V.ref (s1.heap.objs.size + 1) :: vs) (Value.ref (s1.heap.objs.size + 1) :: us) := .cons rfl r
  have hl : (Value.ref (s1.heap.objs.size + 1) :: us).length = ps.length := by
    rw [← r2.length]
    exact F.len _ _ _ _ sp1
  have bi := hb _ (Value.ref (s1.heap.objs.size + 1) :: us) I2.kIn (by rw [List.append_nil]; exact hl)
  rw [List.append_nil] at bi
  show wpAny _ _ (call (.ref C) us) _ _ _
  refine wpAny_call (make_map (f := f) I1.kIn M.makes M.init (beq_iff_eq.mp M.fn) (codeAny_mono (F.run _ X.stack _ _ ⟨Value.ref (s1.heap.objs.size + 1) :: us, []⟩ _ _ _ _ (hr.make C us []) (env0_held (I2.env0.make C us []) hP2) bi r2 sp1) fun r s' hq => ?_))
  cases r with
  | error e => exact False.elim hq
  | ok fl =>
    cases fl with
    | ret u =>
      obtain ⟨v, H', I3, rv, ev, q3⟩ := I2.after (Q := fun v H2 => v = .non ∧ Q (.ref (s1.heap.objs.size + 1)) H2) (ce_free hP2 hq)
      subst ev
      exact ⟨rv, ⟨V.ref (s1.heap.objs.size + 1), H', I3, rfl, q3⟩⟩
    | next => exact False.elim hq
    | brk => exact False.elim hq
    | cont => exact False.elim hq
end
/-! ### what stands -/
theorem ext_heldZ {H : Hp} {P : Addr} {ps : Array Value} (hP : H P = some (.tbl ps)) : ExtT H (heldZ H P ps) := fun b o e n => by
  rw [heldZ_at b (ne_tbl hP e n)]
  exact e
theorem ext_z {H H' : Hp} {P : Addr} {ps : Array Value} (hP : H P = some (.tbl ps)) (e : ExtT (heldZ H P ps) H') : ExtT H (freeZ H' P ps) := fun b o h n => (upd_ne (ne_tbl hP h n)).trans (e b o (ext_heldZ hP b o h n) n)
theorem tb_heldZ {T : List Addr} {H : Hp} {P : Addr} {ps : Array Value} (h : Tb T H) (n : P ∉ T) : Tb T (heldZ H P ps) := fun Q hQ => by
  obtain ⟨q, e, ok⟩ := h Q hQ
  exact ⟨q, (heldZ_at Q fun z : Q = P => n (z ▸ hQ)).trans e, ok⟩
theorem tb_freeZ {T : List Addr} {H : Hp} {P : Addr} {ps : Array Value} (h : Tb T H) (n : P ∉ T) : Tb T (freeZ H P ps) := fun Q hQ => by
  obtain ⟨q, e, ok⟩ := h Q hQ
  exact ⟨q, (upd_ne fun z : Q = P => n (z ▸ hQ)).trans e, ok⟩
theorem tabS_z {H : Hp} {P : Addr} {q : Str} (h : LamX.TabS H P q) : ∃ ps, H P = some (.tbl ps) ∧ ∀ H', ExtT (heldZ H P ps) H' → LamX.TabS (freeZ H' P ps) P q := by
  obtain ⟨ps, h1, h2, h3⟩ := h
  refine ⟨ps, h1, fun H' e => ⟨ps, upd_same, h2, fun pos cv hc => ?_⟩⟩
  obtain ⟨c, e1, e2⟩ := h3 pos cv hc
  exact ⟨c, e1, ext_z h1 e _ _ e2 fun qs => LamX.codeO_ne qs⟩
theorem tb_kpT {T : List Addr} {H H' : Hp} {P : Addr} (h : Tb T H) (n : P ∉ T) (k : Kp P H H') : Tb T H' := fun Q hQ => by
  obtain ⟨q, e, ok⟩ := h Q hQ
  exact ⟨q, k _ _ (fun z : Q = P => n (z ▸ hQ)) e, ok⟩
end KT

/-! Taps of a text: their widths are nought; what stands while a law hands lambdas on. -/
namespace KT
open PySem PySem.Spec PyProof.Rows L2
/-! ### times so many units long as the numbers -/
theorem at_mul {ks : List Int} {u : Int} {i : Nat} (h : i < ks.length) : at_ (ks.map (· * u)) i = at_ ks i * u := at_get (by rw [List.getElem?_map, get_at h]; rfl)
theorem ask_mul {ks : List Int} {u : Int} {i j : Nat} (hi : i < ks.length) (hj : j < ks.length) : askT (ks.map (· * u)) ks i j = 0 := by
  unfold askT
  rw [at_mul hi, at_mul hj, Int.mul_assoc, Int.mul_assoc, Int.mul_comm u (at_ ks j), Int.mul_comm u (at_ ks i), ← Int.mul_assoc, ← Int.mul_assoc, Int.mul_comm (at_ ks i) (at_ ks j), Int.sub_self]
theorem low_nought {b : Int} (h : 0 < b) : lowF 0 b = ((0, 1) : Fr) := by
  unfold lowF gI
  rw [Int.gcd_zero_left]
  have e : ((b.natAbs : Nat) : Int) = b := Int.natAbs_of_nonneg (by omega)
  rw [e, Int.zero_ediv, Int.ediv_self (by omega)]
theorem width_mul {ks : List Int} {u : Int} (T : Tps (ks.map (· * u))) : (widthOf (ks.map (· * u)) ks).1 = ((0, 1) : Fr) := by
  unfold widthOf
  show lowF (bestOf (ks.map (· * u)) ks).1.1 (bestOf (ks.map (· * u)) ks).1.2 = _
  rcases best_in (ts := ks.map (· * u)) (ks := ks) with h | ⟨i, j, hi, hj, h⟩
  · rw [h]
    exact low_nought (by decide)
  · rw [h]
    rw [List.length_map] at hi hj
    unfold askF
    rw [ask_mul hi hj]
    refine low_nought ?_
    unfold askB
    have h1 := (T.all i _ (get_at (by rw [List.length_map]; exact hi))).1
    have h2 := (T.all j _ (get_at (by rw [List.length_map]; exact hj))).1
    omega
theorem allowed_mul {ks : List Int} {u : Int} (T : Tps (ks.map (· * u))) (r : Rdg 0 ks) {w : Fr} (h0 : 0 ≤ w.1) : Allowed 0 (ks.map (· * u)) w ks := by
  refine ⟨r, by rw [List.length_map], fun i j hi hj => ?_⟩
  rw [List.length_map] at hi hj
  unfold leF askF
  rw [ask_mul hi hj]
  have h1 := (T.all i _ (get_at (by rw [List.length_map]; exact hi))).1
  have h2 := (T.all j _ (get_at (by rw [List.length_map]; exact hj))).1
  show 0 * w.2 ≤ w.1 * askB _ i j
  rw [Int.zero_mul]
  refine Int.mul_nonneg h0 ?_
  unfold askB
  omega
def nought : Fr := (0, 1)
theorem nought_wid : Wid nought := ⟨by decide, by decide, by decide, by decide⟩
theorem nought_in {ks : List Int} {u : Int} (T : Tps (ks.map (· * u))) (r : Rdg 0 ks) {w : Fr} (h0 : 0 ≤ w.1) {l : List El} (o : OrdBy 0 (ks.map (· * u)) w l) : ((nought, ks) : El) ∈ l := (o.iff _).mpr ⟨allowed_mul T r h0, (width_mul T).symm⟩
theorem nought_first {ks : List Int} {u : Int} (T : Tps (ks.map (· * u))) (r : Rdg 0 ks) {e : El} {l : List El} (o : OrdBy 0 (ks.map (· * u)) wideW (e :: l)) : e.1 = nought := by
  rcases List.mem_cons.mp (nought_in T r (by decide) o) with h | h
  · rw [← h]
  · have p := (List.pairwise_cons.mp o.ord).1 _ h
    rcases p with p | p
    · obtain ⟨al, ew⟩ := (o.iff e).mp List.mem_cons_self
      have wk := width_ok (T.tr al.rd al.len) T.pos
      rw [← ew] at wk
      have t0 := wk.t0
      unfold ltF nought at p
      have p : e.1.1 * 1 < 0 * e.1.2 := p
      rw [Int.zero_mul, Int.mul_one] at p
      omega
    · exact p.1
/-! ### texts that are none -/
theorem join_cons (sep : Str) (x : Str) {ws : List Str} (h : ws ≠ []) : Txt.join sep (x :: ws) = x ++ sep ++ Txt.join sep ws := by
  rw [TL.join_eq, TL.join_eq]
  cases ws with
  | nil => exact absurd rfl h
  | cons y r => rfl
def tails6 : List Str := [" ", "  e", "Q", "1", "z", "?"]
theorem nil_s (a : Str) : ("" : Str) ++ a = a := TL.ext_tl (by rw [TL.tl_append]; rfl)
theorem notLet {l : List (Str × Str)} (hl : ∀ e ∈ l, e.1 ∈ lets) {c : Nat} (h : sgn c ∉ lets) : ¬ okLet l c := fun z => by
  obtain ⟨e, he, ec⟩ := List.mem_map.mp z
  exact h (ec ▸ hl e he)
theorem tail_bad {l : List (Str × Str)} (g : GoodT l) (hl : ∀ e ∈ l, e.1 ∈ lets) {ws : List Str} (h : LawWs l ws) : ∀ t ∈ tails6, ∃ ws', WsOk ws' ∧ ¬ goodWs l ws' ∧ Txt.join " " ws ++ t = Txt.join " " ws' := by
  have wok := h.wok g
  obtain ⟨xs, a, rfl⟩ : ∃ xs a, ws = xs ++ [a] := by
    rcases List.eq_nil_or_concat ws with z | ⟨xs, a, z⟩
    · exact absurd z h.ne
    · exact ⟨xs, a, by rw [z, List.concat_eq_append]⟩
  have few := h.few
  have wf := wok.few
  have wa := wok.each a (by simp)
  have sa := h.short a (by simp)
  have one : ∀ {c : Nat}, sgn c ∉ lets → c ≠ 32 → ∃ ws', WsOk ws' ∧ ¬ goodWs l ws' ∧ Txt.join " " (xs ++ [a]) ++ sgn c = Txt.join " " ws' := fun {c} hc n => by
    refine ⟨xs ++ [a ++ sgn c], ⟨by simp, by simpa using wf, fun w hw => ?_⟩, fun gw => ?_, (join_app _ _ _ _).symm⟩
    · rcases List.mem_append.mp hw with q | q
      · exact wok.each w (List.mem_append_left _ q)
      · rw [List.mem_singleton.mp q]
        refine ⟨fun z => ?_, ?_⟩
        · rw [TL.tl_append] at z
          rcases List.mem_append.mp z with z | z
          · exact wa.1 z
          · exact n (List.mem_singleton.mp z).symm
        · rw [Str.length_append]
          have : (sgn c).length = 1 := rfl
          omega
    · refine notLet hl hc ((gw _ (List.mem_append_right _ (List.mem_singleton.mpr rfl))).2 c ?_)
      rw [TL.tl_append]
      exact List.mem_append_right _ (List.mem_singleton.mpr rfl)
  have two : ∀ w, w ∈ (xs ++ [a]) → w ∈ xs ++ [a] := fun _ h => h
  intro t ht
  unfold tails6 at ht
  simp only [List.mem_cons, List.not_mem_nil, or_false] at ht
  rcases ht with rfl | rfl | rfl | rfl | rfl | rfl
  · refine ⟨xs ++ [a] ++ [("" : Str)], ⟨by simp, by simp at few ⊢; omega, fun w hw => ?_⟩, fun gw => (gw ("" : Str) (by simp)).1 rfl, ?_⟩
    · rcases List.mem_append.mp hw with q | q
      · exact wok.each w q
      · rw [List.mem_singleton.mp q]
        exact ⟨(fun z => nomatch z), by decide⟩
    · rw [join_new, s_nil]
  · refine ⟨xs ++ [a] ++ [("" : Str)] ++ [("e" : Str)], ⟨by simp, by simp at few ⊢; omega, fun w hw => ?_⟩, fun gw => (gw ("" : Str) (by simp)).1 rfl, ?_⟩
    · rcases List.mem_append.mp hw with q | q
      · rcases List.mem_append.mp q with q | q
        · exact wok.each w q
        · rw [List.mem_singleton.mp q]
          exact ⟨(fun z => nomatch z), by decide⟩
      · rw [List.mem_singleton.mp q]
        exact ⟨by decide +kernel, by decide +kernel⟩
    · rw [join_new, join_new, s_nil, s_assoc, s_assoc]
      exact congrArg (Txt.join " " (xs ++ [a]) ++ ·) (by decide +kernel)
  · exact one (c := 81) (by decide +kernel) (by decide)
  · exact one (c := 49) (by decide +kernel) (by decide)
  · exact one (c := 122) (by decide +kernel) (by decide)
  · exact one (c := 63) (by decide +kernel) (by decide)
theorem none_bad {l : List (Str × Str)} (g : GoodT l) (hl : ∀ e ∈ l, e.1 ∈ lets) {ws : List Str} (h : LawWs l ws) {t : Str} (ht : t = "" ∨ t = " " ++ Txt.join " " ws ∨ t = "z") : ∃ ws', WsOk ws' ∧ ¬ goodWs l ws' ∧ t = Txt.join " " ws' := by
  have wok := h.wok g
  rcases ht with rfl | rfl | rfl
  · exact ⟨[("" : Str)], ⟨by simp, by decide, fun w hw => by rw [List.mem_singleton.mp hw]; exact ⟨(fun z => nomatch z), by decide⟩⟩, fun gw => (gw ("" : Str) (by simp)).1 rfl, rfl⟩
  · refine ⟨("" : Str) :: ws, ⟨by simp, by have := h.few; simp; omega, fun w hw => ?_⟩, fun gw => (gw ("" : Str) (by simp)).1 rfl, ?_⟩
    · rcases List.mem_cons.mp hw with rfl | q
      · exact ⟨(fun z => nomatch z), by decide⟩
      · exact wok.each w q
    · rw [join_cons _ _ h.ne, nil_s]
  · exact ⟨[("z" : Str)], ⟨by simp, by decide, fun w hw => by rw [List.mem_singleton.mp hw]; exact ⟨by decide +kernel, by decide +kernel⟩⟩, fun gw => notLet hl (c := 122) (by decide +kernel) ((gw "z" (by simp)).2 122 (by decide +kernel)), rfl⟩
theorem one_letter {l : List (Str × Str)} (g : GoodT l) {e : Str × Str} (he : e ∈ l) (n : Nat) (h1 : 1 ≤ n) (h2 : n ≤ 40) : WsOk (List.replicate n e.1) ∧ goodWs l (List.replicate n e.1) := by
  obtain ⟨c, hc⟩ := one_sgn (g.one e he).1
  have ok : okLet l c := List.mem_map.mpr ⟨e, he, hc⟩
  have okw : okW l e.1 := by
    rw [hc]
    refine ⟨fun z => ?_, fun d hd => ?_⟩
    · have : [c] = ([] : List Nat) := congrArg TL.tl z
      cases this
    · rw [List.mem_singleton.mp (show d ∈ [c] from hd)]
      exact ok
  refine ⟨⟨fun z => ?_, by rw [List.length_replicate]; exact h2, fun w hw => ?_⟩, fun w hw => ?_⟩
  · have := congrArg List.length z
    rw [List.length_replicate] at this
    simp at this
    omega
  · rw [List.eq_of_mem_replicate hw, hc]
    exact ⟨fun z => (okLet_small g ok).1 (List.mem_singleton.mp z).symm, by show (1 : Nat) ≤ 40; decide⟩
  · rw [List.eq_of_mem_replicate hw]
    exact okw
theorem fourteen {l : List (Str × Str)} (g : GoodT l) {e : Str × Str} (he : e ∈ l) : 25 < (textR l (List.replicate 14 e.1)).length := by
  obtain ⟨w, q⟩ := one_letter g he 14 (by decide) (by decide)
  have h := (addT_len g (b := 40) _ fun x hx => ⟨q x hx, (w.each x hx).2⟩).1
  rw [List.length_replicate] at h
  unfold textR
  rw [List.length_dropLast]
  omega
/-! ### what stands -/
def zed (TP : Addr) (sp : Sp) : Sp := fun vs H Q E => ∃ ps, H TP = some (.tbl ps) ∧ sp vs (heldZ H TP ps) (fun v H' => Q v (freeZ H' TP ps)) (fun cls d H' => E cls d (freeZ H' TP ps))
structure S14 (T : List Addr) (CT TP : Addr) (H : Hp) (xt lt pr d : Addr) (ys : List V) (l : List (Str × Str)) : Prop where
  tab : TableAt CT H xt lt ys
  pr : H pr = some (.lst ys)
  rows : RowsT H ys l
  dice : Dice H d
  ts : LamX.TabS H TP lamQ
  tb : Tb T H
theorem RowsT.extL {H H' : Hp} {d : Addr} {vs : List V} {l : List (Str × Str)} (h : RowsT H vs l) (k : ExtL d H H') (dd : Dice H d) : RowsT H' vs l := ⟨h.1, fun i e he => by
  obtain ⟨T, a, b⟩ := h.2 i e he
  obtain ⟨x, y, zs, q, _⟩ := dd
  exact ⟨T, a, k _ _ (ne_lst b q fun ys z => nomatch z) b fun ps z => nomatch z⟩⟩
section
variable {T : List Addr} {CT TP : Addr} {H H' : Hp} {xt lt pr d : Addr} {ys : List V} {l : List (Str × Str)}
theorem S14.same (h : S14 T CT TP H xt lt pr d ys l) (s : Same H H') : S14 T CT TP H' xt lt pr d ys l := ⟨h.tab.ext (ext_same s), s _ _ h.pr, h.rows.ext (ext_same s), h.dice.same s, h.ts.ext s, tb_same h.tb s⟩
theorem S14.ext (h : S14 T CT TP H xt lt pr d ys l) (s : ExtT H H') (t : LamX.TabS H' TP lamQ) (b : Tb T H') : S14 T CT TP H' xt lt pr d ys l := ⟨h.tab.ext s, s _ _ h.pr (fun ps z => nomatch z), h.rows.ext s, h.dice.ext s, t, b⟩
theorem S14.extL (h : S14 T CT TP H xt lt pr d ys l) (nx : xt ≠ d) (nl : lt ≠ d) (np : pr ≠ d) (s : ExtL d H H') (dd : Dice H' d) (t : LamX.TabS H' TP lamQ) (b : Tb T H') : S14 T CT TP H' xt lt pr d ys l :=
  ⟨⟨h.tab.ob.imp fun dx e => s _ _ nx e (fun ps z => nomatch z), s _ _ nl h.tab.at_ (fun ps z => nomatch z)⟩, s _ _ np h.pr (fun ps z => nomatch z), h.rows.extL s h.dice, dd, t, b⟩
theorem S14.kp (h : S14 T CT TP H xt lt pr d ys l) (nx : xt ≠ d) (nl : lt ≠ d) (np : pr ≠ d) (k : Kp d H H') (dd : Dice H' d) : S14 T CT TP H' xt lt pr d ys l := h.extL nx nl np (fun b o n e _ => k b o n e) dd (tabS_dice h.ts k h.dice) (tb_kp h.tb k h.dice)
theorem S14.rd (h : S14 T CT TP H xt lt pr d ys l) {R : Addr} {E : XK} {Q : VK} (g : GoodT l) (hTP : TP ∉ T) {z : Str} (hz : ∃ ws', WsOk ws' ∧ ¬ goodWs l ws' ∧ z = Txt.join " " ws') (hE : ∀ H', ExtT H H' → LamX.TabS H' TP lamQ → Tb T H' → E (.ref R) none H') : zed TP (spReadingOf T CT R) [.ref xt, .str z] H Q E := by
  obtain ⟨ps, hP, back⟩ := tabS_z h.ts
  obtain ⟨ws', wok, bad, rfl⟩ := hz
  exact ⟨ps, hP, xt, lt, ys, l, ws', rfl, h.tab.ext (ext_heldZ hP), h.rows.ext (ext_heldZ hP), g, wok, tb_heldZ h.tb hTP, .inr ⟨bad, fun H' e t => hE _ (ext_z hP e) (back H' e) (tb_freeZ t hTP)⟩⟩
theorem S14.tp (h : S14 T CT TP H xt lt pr d ys l) {C R : Addr} {E : XK} {Q : VK} (g : GoodT l) (hTP : TP ∉ T) {z : Str} {u : Int} {ws' : List Str} (wok : WsOk ws') (hz : z = Txt.join " " ws') (bad : ¬ goodWs l ws' ∨ 25 < (textR l ws').length ∨ u < 1 ∨ 999 < u)
    (hE : ∀ H', ExtT H H' → LamX.TabS H' TP lamQ → Tb T H' → E (.ref R) none H') : zed TP (spTapped T CT C R) [.ref xt, .str z, .int u] H Q E := by
  obtain ⟨ps, hP, back⟩ := tabS_z h.ts
  subst hz
  exact ⟨ps, hP, xt, lt, ys, l, ws', u, rfl, h.tab.ext (ext_heldZ hP), h.rows.ext (ext_heldZ hP), g, wok, tb_heldZ h.tb hTP, .inr ⟨bad, fun H' e t => hE _ (ext_z hP e) (back H' e) (tb_freeZ t hTP)⟩⟩
end
/-- what a def that calls a lambda within a try tells, where there is one kind of refusal -/
def ttRef1 (R : Addr) : (Hp → VK → XK → Prop) → List V → Hp → VK → Prop := fun tl vs H Q => vs = [] ∧
  ∀ (Qn : VK) (E : XK), (∀ v H', Q (.bl false) H' → Qn v H') → (∀ (cls : Value) (d : Option Addr) (H' : Hp), cls = .ref R → XdAt H' d → (∀ H2, Same H' H2 → Q (.bl true) H2) → E cls d H') → tl H Qn E
def spLawLT (K : PySem.W.Frag) (T : List Addr) (TP : Addr) : Sp := fun vs H Q _ => ∃ (a : Addr) (ns : List Int), vs = [.ref a] ∧ SqL K H a (ns.map V.int) ∧ ns.length ≤ 63 ∧ LamX.TabS H TP lamQ ∧ Tb T H ∧ ∀ H', Q (.bl true) H'
/-- rows as data -/
def rowsD (l : List (Str × Str)) : List PyData := l.map fun e => .tuple [.str e.1, .str e.2]
theorem dp_rows {K : PySem.W.Frag} {H : Hp} : ∀ {ys : List V} {l : List (Str × Str)}, RowsT H ys l → DpAll K H ys (rowsD l)
  | [], [], _ => .nil
  | [], _ :: _, h => by cases h.1
  | _ :: _, [], h => by cases h.1
  | y :: ys, e :: l, h => by
    obtain ⟨T, a, b⟩ := h.2 0 e rfl
    cases a
    exact .cons (.tup (SqT.of b) (.cons (.str _) (.cons (.str _) .nil))) (dp_rows ⟨Nat.succ.inj h.1, fun i e he => h.2 (i + 1) e he⟩)
theorem lets_str : ∀ x ∈ lets, PyData.strOk x = true := by decide +kernel
theorem marks_str : ∀ x ∈ marks21, PyData.strOk x = true := by decide +kernel
theorem tabRows_can : ∀ l : List (Str × Str), (∀ e ∈ l, PyData.strOk e.1 = true ∧ PyData.strOk e.2 = true) → PyData.canLayAll0 (rowsD l) = true ∧ PyData.depthAll (rowsD l) ≤ 2
  | [], _ => by simp [rowsD, PyData.canLayAll0, PyData.depthAll]
  | e :: l, h => by
    obtain ⟨a, b⟩ := tabRows_can l fun x hx => h x (List.mem_cons_of_mem _ hx)
    obtain ⟨h1, h2⟩ := h e List.mem_cons_self
    show PyData.canLayAll0 (PyData.tuple [.str e.1, .str e.2] :: rowsD l) = true ∧ PyData.depthAll (PyData.tuple [.str e.1, .str e.2] :: rowsD l) ≤ 2
    simp only [PyData.canLayAll0, PyData.canLay0, PyData.depthAll, PyData.depth, Bool.and_eq_true]
    exact ⟨⟨⟨h1, h2, True.intro⟩, a⟩, by omega⟩
theorem tabRows_shaped (l : List (Str × Str)) (h : ∀ e ∈ l, PyData.strOk e.1 = true ∧ PyData.strOk e.2 = true) : SeqAt.shaped (.list (rowsD l)) = true := by
  obtain ⟨a, b⟩ := tabRows_can l h
  have h2 : PyData.depth (.list (rowsD l)) ≤ 64 := by
    simp only [PyData.depth]
    omega
  show (PyData.canLay0 (.list (rowsD l)) && decide (PyData.depth (.list (rowsD l)) ≤ 64)) = true
  rw [Bool.and_eq_true]
  exact ⟨by simp only [PyData.canLay0]; exact a, decide_eq_true h2⟩
theorem tabRows_nil (l : List (Str × Str)) : PyData.eqv (.list (rowsD l)) (.list []) = decide (l = []) := by
  cases l with
  | nil => simp [rowsD, PyData.eqv, PyData.eqvAll]
  | cons e l => simp [rowsD, PyData.eqv, PyData.eqvAll]
end KT
namespace KT
open PySem PySem.Spec PyProof.Rows L2
theorem e_good : GoodT [(("e" : Str), ("." : Str))] := by
  refine ⟨by decide, fun e he => ?_, fun i j a b hij ha hb => ?_⟩
  · rw [List.mem_singleton.mp he]
    exact ⟨by decide +kernel, by decide +kernel, by decide +kernel, by decide +kernel⟩
  · have := (List.getElem?_eq_some_iff.mp hb).1
    simp at this
    omega
theorem makeZ_ext {H H4 : Hp} {TP x dx CT : Addr} {ps : Array Value} (hP : H TP = some (.tbl ps)) (nx : H x = none) (ndx : H dx = none) (ne : dx ≠ x)
    (keep : ∀ b o, b ≠ x → heldZ (upd (upd H dx (.own x)) x (.ins CT dx [])) TP ps b = some o → (∀ ps, o ≠ .tbl ps) → H4 b = some o) : ExtT (heldZ H TP ps) H4 := fun b o e nt => by
  have s : Same H (upd (upd H dx (.own x)) x (.ins CT dx [])) := (sm (o := .own x) ndx).trans (sm (o := .ins CT dx []) (by rw [upd_ne ne.symm]; exact nx))
  by_cases z : b = TP
  · rw [z] at e ⊢
    unfold heldZ at e
    rw [upd_same] at e
    refine keep TP o (ne_of_none hP nx) ?_ nt
    unfold heldZ
    rw [upd_same]
    exact e
  · rw [heldZ_at b z] at e
    exact keep b o (ne_of_none e nx) ((heldZ_at b z).trans (s _ _ e)) nt
theorem rows_ne_dice {H H' : Hp} {d la : Addr} {ys : List V} {l : List (Str × Str)} (rt : RowsT H ys l) (ne : l ≠ []) (e : H' la = some (.lst ys)) (dd : Dice H' d) : la ≠ d := fun z => by
  obtain ⟨u, v, zs, e1, _⟩ := dd
  rw [z, e1] at e
  have e3 : ys = V.int u :: V.int v :: zs.map V.int := (HO.lst.inj (Option.some.inj e)).symm
  have h0 : 0 < l.length := List.length_pos_iff.mpr ne
  obtain ⟨T', t1, _⟩ := rt.2 0 _ (List.getElem?_eq_getElem h0)
  rw [e3] at t1
  cases t1
theorem flat_rep (z : Str) : (List.replicate ((14 : Int).toNat) [V.str z]).flatten = (List.replicate 14 z).map V.str := rfl
end KT
namespace KT
open PySem PySem.Spec PyProof.Rows L2
theorem rep14_len {z : Str} (h : z.length ≤ 10) : ((List.replicate 14 z).map (fun x : Str => x.length)).sum + (List.replicate 14 z).length * (" " : Str).length ≤ 16777216 := by
  have h2 := sum_le (fun x : Str => x.length) 10 (List.replicate 14 z) fun x hx => by rw [List.eq_of_mem_replicate hx]; exact h
  have h4 : (" " : Str).length = 1 := by decide +kernel
  rw [h4]
  rw [List.length_replicate] at h2 ⊢
  omega
end KT
namespace KT
open PySem PySem.Spec PyProof.Rows L2
theorem LAt.diceL {H H' : Hp} {f d : Addr} {F : LD} (h : LAt H f F) (dd : Dice H d) (x : ExtL d H H') : LAt H' f F := by
  obtain ⟨a, b, zs, e, _⟩ := dd
  exact h.lst e x
theorem taps_freeZ {C : Addr} {H : Hp} {x l P : Addr} {ts : List Int} {ps : Array Value} (h : TapsAt C H x l ts) (e : H P = some (.frz (tabO ps) (.tbl ps))) : TapsAt C (freeZ H P ps) x l ts := by
  obtain ⟨⟨dx, e1⟩, e2⟩ := h
  refine ⟨⟨dx, (upd_ne fun z : x = P => ?_).trans e1⟩, (upd_ne fun z : l = P => ?_).trans e2⟩
  · rw [z, e] at e1
    cases e1
  · rw [z, e] at e2
    cases e2
theorem taps_ext {C : Addr} {H H' : Hp} {x l : Addr} {ts : List Int} (h : TapsAt C H x l ts) (e : ExtT H H') : TapsAt C H' x l ts := by
  obtain ⟨⟨dx, e1⟩, e2⟩ := h
  exact ⟨⟨dx, e _ _ e1 (fun ps z => nomatch z)⟩, e _ _ e2 (fun ps z => nomatch z)⟩
end KT

/-! Books: words of a spelled reading, what a book keeps. -/
namespace KT
open PySem PySem.Spec PyProof.Rows L2
def wsOf (l : List (Str × Str)) (ks : List Int) : List Str := (marksOf ks).map (wordOf (fOf l))
theorem spelled_ws (l : List (Str × Str)) (ks : List Int) : spelledOf l ks = Txt.join " " (wsOf l ks) := rfl
theorem kvsOf_valP (l : List (Str × Str)) {p : Str → Prop} (h : ∀ e ∈ l, p e.1) (k : Key) (v : V) (q : valV (kvsOf l) k = some v) : ∃ s : Str, v = .str s ∧ p s := by
  rw [← List.reverse_reverse l] at h q
  revert h q
  induction l.reverse with
  | nil =>
    intro h q
    cases q
  | cons e l ih =>
    intro h q
    rw [List.reverse_cons, kvsOf_snoc, valV_put] at q
    split at q
    · cases q
      exact ⟨_, rfl, h e (by simp)⟩
    · exact ih (fun e he => h e (by simp at he ⊢; exact .inl he)) q
theorem fOf_P {l : List (Str × Str)} {p : Str → Prop} (h : ∀ e ∈ l, p e.1) (hq : p "?") (z : Str) : p (fOf l z) := by
  unfold fOf
  cases q : valV (kvsOf l) (.inr z) with
  | none => exact hq
  | some v =>
    obtain ⟨s, rfl, hs⟩ := kvsOf_valP l h _ v q
    exact hs
theorem fOf_sgn {l : List (Str × Str)} (g : GoodT l) (z : Str) : ∃ c : Nat, fOf l z = sgn c ∧ (c = 63 ∨ okLet l c) := by
  refine fOf_P (p := fun s => ∃ c : Nat, s = sgn c ∧ (c = 63 ∨ okLet l c)) (fun e he => ?_) ⟨63, by decide +kernel, .inl rfl⟩ z
  obtain ⟨c, hc⟩ := one_sgn (g.one e he).1
  exact ⟨c, hc, .inr (List.mem_map.mpr ⟨e, he, hc⟩)⟩
theorem words_sgn {l : List (Str × Str)} (g : GoodT l) : ∀ ms : List Str, ∃ cs : List Nat, ms.map (fOf l) = cs.map sgn ∧ cs.length = ms.length ∧ ∀ c ∈ cs, c = 63 ∨ okLet l c
  | [] => ⟨[], rfl, rfl, fun c hc => nomatch hc⟩
  | m :: ms => by
    obtain ⟨c, e1, h1⟩ := fOf_sgn g m
    obtain ⟨cs, e2, e3, h2⟩ := words_sgn g ms
    refine ⟨c :: cs, by rw [List.map_cons, List.map_cons, e1, e2], by rw [List.length_cons, List.length_cons, e3], fun x hx => ?_⟩
    rcases List.mem_cons.mp hx with rfl | hx
    · exact h1
    · exact h2 x hx
theorem fold_ne : ∀ (ks : List Int) (i : Nat) (st : St3), (∀ w ∈ st.1, w ≠ []) → ∀ w ∈ (wFold i ks st).1, w ≠ []
  | [], _, _, h => h
  | k :: ks, i, st, h => fold_ne ks (i + 1) (wStep i k st) (by
    unfold wStep
    split
    · exact h
    · split
      · exact h
      · split
        · intro w hw
          rcases List.mem_append.mp hw with hw | hw
          · exact h w hw
          · rw [List.mem_singleton.mp hw]
            simp
        · exact h)
theorem marks_ne (ks : List Int) : ∀ w ∈ marksOf ks, w ≠ [] := fun w hw => by
  unfold marksOf wAll at hw
  rcases List.mem_append.mp hw with hw | hw
  · exact fold_ne ks 0 ([], [], "") (fun w hw => nomatch hw) w hw
  · rw [List.mem_singleton.mp hw]
    simp
theorem marks_some (ks : List Int) : marksOf ks ≠ [] := by
  unfold marksOf wAll
  simp
theorem wsOf_each {l : List (Str × Str)} (g : GoodT l) {ks : List Int} {u : Str} (h : u ∈ wsOf l ks) : u ≠ "" ∧ u.length ≤ ks.length + 1 ∧ ∀ c ∈ TL.tl u, c = 63 ∨ okLet l c := by
  obtain ⟨ms, hm, rfl⟩ := List.mem_map.mp h
  obtain ⟨cs, e1, e2, e3⟩ := words_sgn g ms
  have e : wordOf (fOf l) ms = txt cs := by
    unfold wordOf
    rw [e1, join_nil]
  have n := marks_ne ks ms hm
  have b := (marks_len ks).2 ms hm
  rw [e]
  refine ⟨fun z => n ?_, by rw [txt_len, e2]; exact b, e3⟩
  have z : cs = [] := congrArg TL.tl z
  rw [z] at e2
  exact List.length_eq_zero_iff.mp e2.symm
theorem wsOf_ok {l : List (Str × Str)} (g : GoodT l) {ks : List Int} (h : ks.length ≤ 30) : WsOk (wsOf l ks) := by
  refine ⟨fun z => marks_some ks (List.map_eq_nil_iff.mp z), ?_, fun u hu => ?_⟩
  · have := (marks_len ks).1
    unfold wsOf
    rw [List.length_map]
    omega
  · obtain ⟨h1, h2, h3⟩ := wsOf_each g hu
    refine ⟨fun z => ?_, by omega⟩
    rcases h3 32 z with h | h
    · cases h
    · exact (okLet_small g h).1 rfl
/-- a book that is taken -/
structure GoodB (bs : List Str) : Prop where
  few : bs.length ≤ 1000
  small : ∀ z ∈ bs, isSmall z = true ∧ z.length ≤ 1000
  new : bs.Nodup
def spCheckBook (K : PySem.W.Frag) (T : List Addr) : Sp := fun vs H Q _ => ∃ (b : Addr) (bs : List Str), vs = [.ref b] ∧ SqL K H b (bs.map V.str) ∧ GoodB bs ∧ Tb T H ∧ ∀ H', ExtT H H' → Tb T H' → Q .non H'
def inB (l : List (Str × Str)) (bs : List Str) (e : El) : Bool := (wsOf l e.2).all fun z => decide (z ∈ bs)
def knownOf (l : List (Str × Str)) (bs : List Str) (es : List El) : List El := es.filter (inB l bs)
/-- the rows of a list of known ones; made since H -/
def KnN (l : List (Str × Str)) (H H' : Hp) (vs : List V) (es : List El) : Prop := vs.length = es.length ∧ ∀ (i : Nat) (e : El), es[i]? = some e → ∃ T r q : Addr, vs[i]? = some (.ref T) ∧ NewT H r ∧ H' T = some (.tup [.str (spelledOf l e.2), .ref r, .ref q]) ∧ H' r = some (.lst (e.2.map V.int)) ∧ H' q = some (.tup (frV e.1))
theorem KnN.ext {l : List (Str × Str)} {H H1 H2 : Hp} {vs : List V} {es : List El} (h : KnN l H H1 vs es) (s : ExtT H1 H2) : KnN l H H2 vs es := ⟨h.1, fun i e he => by
  obtain ⟨T, r, q, a, n, b, c, d⟩ := h.2 i e he
  exact ⟨T, r, q, a, n, s _ _ b (fun ps z => nomatch z), s _ _ c (fun ps z => nomatch z), s _ _ d (fun ps z => nomatch z)⟩⟩
theorem NewT.back {H H' : Hp} {x : Addr} (e : ExtT H H') (n : NewT H' x) : NewT H x := fun b o h t => n b o (e b o h t) t
theorem KnN.older {l : List (Str × Str)} {H0 H H' : Hp} {vs : List V} {es : List El} (h : KnN l H H' vs es) (s : ExtT H0 H) : KnN l H0 H' vs es := ⟨h.1, fun i e he => by
  obtain ⟨T, r, q, a, n, rest⟩ := h.2 i e he
  exact ⟨T, r, q, a, n.back s, rest⟩⟩
theorem KnN.nil {l : List (Str × Str)} {H H' : Hp} : KnN l H H' [] [] := ⟨rfl, fun i e he => nomatch he⟩
theorem KnN.snoc {l : List (Str × Str)} {H H' : Hp} {vs : List V} {es : List El} {e : El} {T r q : Addr} (h : KnN l H H' vs es) (n : NewT H r) (e1 : H' T = some (.tup [.str (spelledOf l e.2), .ref r, .ref q])) (e2 : H' r = some (.lst (e.2.map V.int))) (e3 : H' q = some (.tup (frV e.1))) : KnN l H H' (vs ++ [.ref T]) (es ++ [e]) := by
  refine ⟨by simp [h.1], fun i f hf => ?_⟩
  by_cases c : i < es.length
  · rw [List.getElem?_append_left c] at hf
    obtain ⟨T', r', q', a, rest⟩ := h.2 i f hf
    exact ⟨T', r', q', by rw [List.getElem?_append_left (by rw [h.1]; exact c)]; exact a, rest⟩
  · rw [List.getElem?_append_right (by omega)] at hf
    have c0 : i - es.length = 0 := by
      cases c1 : i - es.length with
      | zero => rfl
      | succ n =>
        rw [c1] at hf
        cases hf
    rw [c0] at hf
    cases hf
    exact ⟨T, r, q, by rw [List.getElem?_append_right (by rw [h.1]; omega), h.1, c0]; rfl, n, e1, e2, e3⟩
theorem KnN.put {l : List (Str × Str)} {H0 H : Hp} {vs : List V} {es : List El} {p : Addr} {o : HO} (h : KnN l H0 H vs es) (ep : H p = some (.lst vs)) : KnN l H0 (upd H p o) vs es := ⟨h.1, fun i e he => by
  obtain ⟨T, r, q, a, n, e1, e2, e3⟩ := h.2 i e he
  refine ⟨T, r, q, a, n, (upd_ne fun z => ?_).trans e1, (upd_ne fun z => ?_).trans e2, (upd_ne fun z => ?_).trans e3⟩
  · rw [z, ep] at e1
    cases e1
  · rw [z, ep] at e2
    have z2 : vs = e.2.map V.int := HO.lst.inj (Option.some.inj e2)
    rw [z2, List.getElem?_map] at a
    obtain ⟨k, _, hk⟩ := Option.map_eq_some_iff.mp a
    cases hk
  · rw [z, ep] at e3
    cases e3⟩
/-- readings of a melody of so many times -/
def RowsOk (ts : List Int) (es : List El) : Prop := es.length ≤ 40 ∧ ∀ e ∈ es, Rdg 0 e.2 ∧ e.2.length = ts.length
theorem rows_ok {ts : List Int} {w : Fr} {es : List El} (T : Tms ts) (pos : 0 < ts.length) (W : Wid w) (ob : OrdBy 0 ts w es) : RowsOk ts es := ⟨by have := ord_few T pos W ob; omega, fun e he => by
  have a := ((ob.iff e).mp he).1
  exact ⟨a.rd, a.len⟩⟩
def spInBook (K : PySem.W.Frag) (T : List Addr) (CT C : Addr) : Sp := fun vs H Q _ => ∃ (xt b x f lt la : Addr) (ys zs : List V) (l : List (Str × Str)) (bs : List Str) (ts : List Int) (es : List El) (H0 : Hp), vs = [.ref xt, .ref b, .ref x, .ref f] ∧ TableAt CT H xt lt ys ∧ RowsT H ys l ∧ GoodT l ∧ SqL K H b (bs.map V.str) ∧ bs.length ≤ 1000 ∧
  TapsAt C H x la ts ∧ Tps ts ∧ H f = some (.lst zs) ∧ ElsN H0 H zs es ∧ RowsOk ts es ∧ Tb T H ∧
  ∀ (p : Addr) (vs' : List V) (H' : Hp), NewT H p → ExtT H H' → Tb T H' → H' p = some (.lst vs') → KnN l H0 H' vs' (knownOf l bs es) → Q (.ref p) H'
def spWorded (K : PySem.W.Frag) (T : List Addr) (CT C : Addr) : Sp := fun vs H Q _ => ∃ (xt b x p lt la : Addr) (ys : List V) (l : List (Str × Str)) (bs : List Str) (ts : List Int) (w : Fr), vs = [.ref xt, .ref b, .ref x, .ref p] ∧ TableAt CT H xt lt ys ∧ RowsT H ys l ∧ GoodT l ∧ SqL K H b (bs.map V.str) ∧ GoodB bs ∧
  TapsAt C H x la ts ∧ Tps ts ∧ SqT K H p (frV w) ∧ Wid w ∧ Tb T H ∧
  ∀ (r : Addr) (vs' : List V) (es : List El) (H' : Hp), OrdBy 0 ts w es → NewT H r → ExtT H H' → Tb T H' → H' r = some (.lst vs') → KnN l H H' vs' (knownOf l bs es) → Q (.ref r) H'
def spTold (K : PySem.W.Frag) (T : List Addr) (CT C : Addr) : Sp := fun vs H Q _ => ∃ (xt b x lt la : Addr) (ys : List V) (l : List (Str × Str)) (bs : List Str) (ts : List Int), vs = [.ref xt, .ref b, .ref x] ∧ TableAt CT H xt lt ys ∧ RowsT H ys l ∧ GoodT l ∧ SqL K H b (bs.map V.str) ∧ GoodB bs ∧
  TapsAt C H x la ts ∧ Tps ts ∧ Tb T H ∧
  ∀ es, OrdBy 0 ts wideW es → (knownOf l bs es = [] → ∀ H', ExtT H H' → Tb T H' → Q .non H') ∧
    ∀ e es', knownOf l bs es = e :: es' → ∀ (p q : Addr) (H' : Hp), NewT H p → ExtT H H' → Tb T H' → H' p = some (.tup [.str (spelledOf l e.2), .ref q]) → H' q = some (.tup (frV e.1)) → Q (.ref p) H'
/-- the law's own: only fresh objects -/
def spKept (K : PySem.W.Frag) : Sp := fun vs H Q _ => ∃ (a b f : Addr) (ys zs : List V) (l : List (Str × Str)) (bs : List Str) (es : List El) (H0 : Hp), vs = [.ref a, .ref b, .ref f] ∧ SqL K H a ys ∧ RowsT H ys l ∧ GoodT l ∧ SqL K H b (bs.map V.str) ∧ bs.length ≤ 1000 ∧
  H f = some (.lst zs) ∧ ElsN H0 H zs es ∧ es.length ≤ 40 ∧ (∀ e ∈ es, Rdg 0 e.2 ∧ e.2.length ≤ 25) ∧
  ∀ (p : Addr) (vs' : List V) (H' : Hp), H p = none → Same H H' → H' p = some (.lst vs') → KnN l H0 H' vs' (knownOf l bs es) → Q (.ref p) H'
/-! ### lists of texts as data -/
theorem DpAll.txts {K : PySem.W.Frag} {H : Hp} : ∀ zs : List Str, DpAll K H (zs.map V.str) (zs.map PyData.str)
  | [] => .nil
  | z :: zs => .cons (.str z) (DpAll.txts zs)
theorem dp_txts {K : PySem.W.Frag} {H : Hp} {a : Addr} {zs : List Str} (h : SqL K H a (zs.map V.str)) : Dp K H (.ref a) (.list (zs.map PyData.str)) := .lst h (DpAll.txts zs)
theorem strOk_of {z : Str} (h : ∀ c ∈ TL.tl z, c < 1114112) : PyData.strOk z = true := by
  unfold PyData.strOk
  rw [Array.all_eq_true']
  intro c hc
  exact decide_eq_true (h c (Array.mem_toList_iff.mpr hc))
theorem strOk_ws {l : List (Str × Str)} (g : GoodT l) {ks : List Int} : ∀ u ∈ wsOf l ks, PyData.strOk u = true := fun u hu => strOk_of fun c hc => by
  rcases (wsOf_each g hu).2.2 c hc with h | h
  · omega
  · have := (okLet_small g h).2
    omega
theorem canLay_txts : ∀ zs : List Str, (∀ z ∈ zs, PyData.strOk z = true) → PyData.canLayAll0 (zs.map PyData.str) = true
  | [], _ => by simp [PyData.canLayAll0]
  | n :: ns, h => by simp [PyData.canLayAll0, PyData.canLay0, canLay_txts ns fun z hz => h z (List.mem_cons_of_mem _ hz), h n List.mem_cons_self]
theorem depth_txts (zs : List Str) : PyData.depthAll (zs.map PyData.str) ≤ 1 := by
  induction zs with
  | nil => simp [PyData.depthAll]
  | cons n ns ih =>
    simp [PyData.depthAll, PyData.depth]
    omega
theorem shaped_txts {zs : List Str} (k : ∀ z ∈ zs, PyData.strOk z = true) : SeqAt.shaped (.list (zs.map PyData.str)) = true := by
  have h := depth_txts zs
  simp [SeqAt.shaped, PyData.canLay0, PyData.depth, canLay_txts zs k]
  omega
theorem eqvT_nil (zs : List Str) : PyData.eqv (.list (zs.map PyData.str)) (.list []) = zs.isEmpty := by
  cases zs <;> simp [PyData.eqv, PyData.eqvAll]
theorem eqvT_same (zs : List Str) : PyData.eqv (.list (zs.map PyData.str)) (.list (zs.map PyData.str)) = true := by
  simp only [PyData.eqv]
  induction zs with
  | nil => simp [PyData.eqvAll]
  | cons n ns ih => simp [PyData.eqvAll, PyData.eqv, ih]
theorem inV_strs (z : Str) (l : List Str) : inV (V.str z) (l.map V.str) = decide (z ∈ l) := by
  unfold inV
  induction l with
  | nil => simp
  | cons a l ih =>
    rw [List.map_cons, List.any_cons, ih]
    show ((a == z) || decide (z ∈ l)) = _
    by_cases h : a = z
    · subst h
      simp
    · have h2 : z ≠ a := fun e => h e.symm
      simp [h, h2]
theorem flat_strs (l : List Str) : (l.map V.str).all flatV = true := by
  rw [List.all_eq_true]
  intro v hv
  obtain ⟨z, _, rfl⟩ := List.mem_map.mp hv
  rfl
theorem none_out (ws bs : List Str) : (ws.filter fun z => !decide (z ∈ bs)).isEmpty = ws.all fun z => decide (z ∈ bs) := by
  induction ws with
  | nil => rfl
  | cons w ws ih =>
    rw [List.filter_cons, List.all_cons]
    cases h : decide (w ∈ bs) with
    | true => simpa [h] using ih
    | false => simp
/-! ### the law's book -/
/-- all kept but the dice and a list -/
def KpB (d B : Addr) (H H' : Hp) : Prop := ∀ b o, b ≠ d → b ≠ B → H b = some o → H' b = some o
theorem KpB.refl {d B : Addr} {H : Hp} : KpB d B H H := fun _ _ _ _ e => e
theorem KpB.trans {d B : Addr} {H H1 H2 : Hp} (a : KpB d B H H1) (b : KpB d B H1 H2) : KpB d B H H2 := fun c o n m e => b c o n m (a c o n m e)
theorem KpB.of {d B : Addr} {H H' : Hp} (s : Same H H') : KpB d B H H' := fun _ _ _ _ e => s _ _ e
theorem KpB.kp {d B : Addr} {H H' : Hp} (k : Kp d H H') : KpB d B H H' := fun _ _ n _ e => k _ _ n e
theorem KpB.put {d B : Addr} {H : Hp} {o : HO} : KpB d B H (upd H B o) := fun b u _ m e => by
  rw [upd_ne m]
  exact e
theorem RowsT.kpB {d B : Addr} {H H' : Hp} {ys us : List V} {l : List (Str × Str)} (h : RowsT H ys l) (k : KpB d B H H') (dd : Dice H d) (eB : H B = some (.lst us)) : RowsT H' ys l := ⟨h.1, fun i e he => by
  obtain ⟨T, a, b⟩ := h.2 i e he
  obtain ⟨u, v, ws, ed, _⟩ := dd
  refine ⟨T, a, k _ _ (fun z => ?_) (fun z => ?_) b⟩
  · rw [z, ed] at b
    cases b
  · rw [z, eB] at b
    cases b⟩
structure BkOk (n : Nat) (bs : List Str) : Prop where
  ne : bs ≠ []
  few : bs.length ≤ n
  small : ∀ z ∈ bs, isSmall z = true ∧ z.length ≤ 40
  new : bs.Nodup
theorem bk_zz : BkOk (1 + 26 * 0) ["zz"] := ⟨by simp, Nat.le_refl _, fun z hz => by
  rw [List.mem_singleton.mp hz]
  exact ⟨by decide +kernel, by decide +kernel⟩, by simp⟩
theorem BkOk.snoc {n : Nat} {bs : List Str} {z : Str} (h : BkOk n bs) (s : isSmall z = true) (l : z.length ≤ 40) (m : z ∉ bs) : BkOk (n + 1) (bs ++ [z]) := by
  refine ⟨by simp, by have := h.few; simp; omega, fun y hy => ?_, ?_⟩
  · rcases List.mem_append.mp hy with hy | hy
    · exact h.small y hy
    · rw [List.mem_singleton.mp hy]
      exact ⟨s, l⟩
  · rw [List.nodup_append]
    refine ⟨h.new, by simp, fun a ha b hb => ?_⟩
    rw [List.mem_singleton.mp hb]
    exact fun z => m (z ▸ ha)
theorem BkOk.mono {n m : Nat} {bs : List Str} (h : BkOk n bs) (l : n ≤ m) : BkOk m bs := ⟨h.ne, Nat.le_trans h.few l, h.small, h.new⟩
theorem BkOk.drop {n k : Nat} {bs : List Str} (h : BkOk n bs) (l : n ≤ 1000) : GoodB (bs.drop k) := ⟨by have := h.few; rw [List.length_drop]; omega, fun z hz => by
  obtain ⟨a, b⟩ := h.small z (List.mem_of_mem_drop hz)
  exact ⟨a, by omega⟩, h.new.sublist (List.drop_sublist k bs)⟩
theorem strOk_small {z : Str} (h : isSmall z = true) : PyData.strOk z = true := strOk_of fun c hc => by
  unfold isSmall allIn at h
  rw [Bool.and_eq_true] at h
  have z := of_decide_eq_true (List.all_eq_true.mp h.2 c hc)
  have all : ∀ x ∈ letters26.cps.toList, x < 1114112 := by decide +kernel
  exact all c z
theorem small_word {l : List (Str × Str)} (g : GoodT l) {ks : List Int} {u : Str} (h : u ∈ wsOf l ks) (n : 63 ∉ TL.tl u) : isSmall u = true := by
  obtain ⟨h1, _, h3⟩ := wsOf_each g h
  unfold isSmall allIn
  rw [Bool.and_eq_true]
  refine ⟨decide_eq_true h1, List.all_eq_true.mpr fun c hc => ?_⟩
  rcases h3 c hc with rfl | h
  · exact absurd hc n
  · obtain ⟨e, he, ec⟩ := List.mem_map.mp h
    obtain ⟨_, h2, _⟩ := g.one e he
    rw [ec] at h2
    unfold isSmall allIn at h2
    rw [Bool.and_eq_true] at h2
    exact List.all_eq_true.mp h2.2 c (by show c ∈ [c]; simp)
def spLawBook (K : PySem.W.Frag) (C : Addr) : Sp := fun vs H Q _ => ∃ (d a x la : Addr) (ys : List V) (l : List (Str × Str)) (ts : List Int), vs = [.ref d, .ref a, .ref x] ∧ Dice H d ∧ a ≠ d ∧ H a = some (.lst ys) ∧ RowsT H ys l ∧ GoodT l ∧ TapsAt C H x la ts ∧ Tps ts ∧
  ∀ (bs : List Str) (p : Addr) (H' : Hp), GoodB bs → H p = none → H' p = some (.lst (bs.map V.str)) → Dice H' d → Kp d H H' → Q (.ref p) H'
/-! ### reading and tapping of good texts -/
def spReadingG (T : List Addr) (CT : Addr) : Sp := fun vs H Q _ => ∃ (xt lt : Addr) (ys : List V) (l : List (Str × Str)) (ws : List Str), vs = [.ref xt, .str (Txt.join " " ws)] ∧ TableAt CT H xt lt ys ∧ RowsT H ys l ∧ GoodT l ∧ WsOk ws ∧ Tb T H ∧ goodWs l ws ∧
  ∀ (p : Addr) (H' : Hp), H p = none → ExtT H H' → Tb T H' → H' p = some (.lst ((textR l ws).map V.int)) → Q (.ref p) H'
def spTappedG (T : List Addr) (CT C : Addr) : Sp := fun vs H Q _ => ∃ (xt lt : Addr) (ys : List V) (l : List (Str × Str)) (ws : List Str) (u : Int), vs = [.ref xt, .str (Txt.join " " ws), .int u] ∧ TableAt CT H xt lt ys ∧ RowsT H ys l ∧ GoodT l ∧ WsOk ws ∧ Tb T H ∧
  goodWs l ws ∧ (textR l ws).length ≤ 25 ∧ 1 ≤ u ∧ u ≤ 999 ∧ ∀ (x la : Addr) (H' : Hp), NewT H x → NewT H la → ExtT H H' → Tb T H' → TapsAt C H' x la ((textR l ws).map (· * u)) → Q (.ref x) H'
end KT

/-! The text of a sheet; the law's own sheets. -/
namespace KT
open PySem PySem.Spec PyProof.Rows L2
theorem ip_ext {X : Cx} : PIp X .Add rExt2 := fun pins s σ H x y v u Q I r1 r2 h => iop_ext pins s σ H x y v u Q I r1 r2 h
/-- f'..' by name (within a comprehension the reading must be no open function) -/
def tJoin (ts : List TE) : TE := fun σ H Q => tJs ts Str.empty σ H fun out H1 => Q (.str out) H1
theorem pe_joinedN {X : Cx} {v1 v2 : Expr} {rest : List Expr} {ts : List TE} {pos : Pos} (h : PJ X (v1 :: v2 :: rest) ts) : PE X (.JoinedStr (v1 :: v2 :: rest) pos) (tJoin ts) := pe_joined h
/-! ### rows of a sheet -/
def numS (i : Int) : Str := ((toString i : String) : Str)
def headRow (ts : List Int) : Str := "taps " ++ Txt.join " " (ts.map numS)
def letRow (e : Str × Str) : Str := (((Str.empty ++ "letter ") ++ e.1) ++ " ") ++ e.2
def wordRow (z : Str) : Str := (Str.empty ++ "word ") ++ z
def sheetRows (ts : List Int) (l : List (Str × Str)) (bs : List Str) : List Str := [headRow ts] ++ l.map letRow ++ bs.map wordRow
def sheetOf (ts : List Int) (l : List (Str × Str)) (bs : List Str) : Str := Txt.join "\n" (sheetRows ts l bs)
theorem num_len {t : Int} (h0 : 0 ≤ t) (h1 : t ≤ 9999) : (numS t).length ≤ 10 := toString_length_le h0 (by decide) (by omega)
theorem num_log {t : Int} (h0 : 0 ≤ t) (h1 : t ≤ 9999) : t.natAbs.log2 < 1920 := by
  have h : t.natAbs.log2 < 14 ∨ t.natAbs = 0 := by
    by_cases z : t.natAbs = 0
    · exact .inr z
    · exact .inl ((Nat.log2_lt z).mpr (by omega))
  rcases h with h | h
  · omega
  · rw [h]
    decide
theorem nums_len {ts : List Int} (h : Tps ts) : ((ts.map numS).map (·.length)).sum + (ts.map numS).length * (" " : Str).length ≤ 1000 := by
  have h2 := sum_le (fun x : Str => x.length) 10 (ts.map numS) fun x hx => by
    obtain ⟨t, ht, rfl⟩ := List.mem_map.mp hx
    obtain ⟨i, hi, ei⟩ := List.getElem_of_mem ht
    have := h.all i t (by rw [List.getElem?_eq_getElem hi, ei])
    exact num_len (by omega) (by omega)
  have h3 := h.le
  have h4 : (" " : Str).length = 1 := by decide +kernel
  rw [List.length_map] at h2 ⊢
  rw [h4]
  omega
theorem head_len {ts : List Int} (h : Tps ts) : (headRow ts).length ≤ 1100 := by
  have h1 := join_len " " (ts.map numS)
  have h2 := nums_len h
  have h3 : ("taps " : Str).length = 5 := by decide +kernel
  unfold headRow
  rw [Str.length_append, h3]
  omega
theorem let_len {e : Str × Str} (h1 : e.1.length = 1) (h2 : e.2.length ≤ 6) : (letRow e).length ≤ 20 := by
  have h3 : ("letter " : Str).length = 7 := by decide +kernel
  have h4 : (" " : Str).length = 1 := by decide +kernel
  have h5 : Str.empty.length = 0 := rfl
  unfold letRow
  simp only [Str.length_append, h3, h4, h5]
  omega
theorem word_len {z : Str} (h : z.length ≤ 1000) : (wordRow z).length ≤ 1100 := by
  have h3 : ("word " : Str).length = 5 := by decide +kernel
  have h5 : Str.empty.length = 0 := rfl
  unfold wordRow
  simp only [Str.length_append, h3, h5]
  omega
theorem rows_len {ts : List Int} {l : List (Str × Str)} {bs : List Str} (h : Tps ts) (g : GoodT l) (b : GoodB bs) : ((sheetRows ts l bs).map (·.length)).sum + (sheetRows ts l bs).length * ("\n" : Str).length ≤ 16777216 := by
  have h2 := sum_le (fun x : Str => x.length) 1100 (sheetRows ts l bs) fun x hx => by
    unfold sheetRows at hx
    rw [List.mem_append, List.mem_append, List.mem_singleton] at hx
    rcases hx with (rfl | hx) | hx
    · exact head_len h
    · obtain ⟨e, he, rfl⟩ := List.mem_map.mp hx
      obtain ⟨a, _, c, _⟩ := g.one e he
      have := let_len a c
      show (letRow e).length ≤ 1100
      omega
    · obtain ⟨z, hz, rfl⟩ := List.mem_map.mp hx
      exact word_len (b.small z hz).2
  have h3 : (sheetRows ts l bs).length = 1 + l.length + bs.length := by
    unfold sheetRows
    simp
    omega
  have h4 : ("\n" : Str).length = 1 := by decide +kernel
  have h5 := g.few
  have h6 := b.few
  rw [h4]
  rw [h3] at h2 ⊢
  omega
/-! ### signs -/
theorem num_signs {i : Int} : ∀ c ∈ TL.tl (numS i), 45 ≤ c ∧ c ≤ 57 := fun c hc => by
  by_cases h : 45 ≤ c ∧ c ≤ 57
  · exact h
  · exact absurd hc (int_text_free' c ⟨by omega, by omega⟩ i)
theorem small_signs {z : Str} (h : isSmall z = true) : ∀ c ∈ TL.tl z, 97 ≤ c ∧ c ≤ 122 := fun c hc => by
  unfold isSmall allIn at h
  rw [Bool.and_eq_true] at h
  have z := of_decide_eq_true (List.all_eq_true.mp h.2 c hc)
  have all : ∀ x ∈ letters26.cps.toList, 97 ≤ x ∧ x ≤ 122 := by decide +kernel
  exact all c z
theorem marks_signs {z : Str} (h : isMarks z = true) : ∀ c ∈ TL.tl z, c = 46 ∨ c = 45 := fun c hc => by
  unfold isMarks at h
  rw [Bool.and_eq_true] at h
  have z := of_decide_eq_true (List.all_eq_true.mp h.2 c hc)
  rcases List.mem_cons.mp z with e | e
  · exact .inl (by injection e with e; injection e with e; injection e)
  · have e := List.mem_singleton.mp e
    exact .inr (by injection e with e; injection e with e; injection e)
theorem joinL_signs (y : List Nat) : ∀ (ps : List (List Nat)) (c : Nat), c ∈ TL.joinL y ps → c ∈ y ∨ ∃ p ∈ ps, c ∈ p
  | [], c, h => nomatch h
  | [p], c, h => .inr ⟨p, List.mem_singleton.mpr rfl, h⟩
  | p :: q :: r, c, h => by
    have h : c ∈ p ++ (y ++ TL.joinL y (q :: r)) := h
    rcases List.mem_append.mp h with h | h
    · exact .inr ⟨p, List.mem_cons_self, h⟩
    · rcases List.mem_append.mp h with h | h
      · exact .inl h
      · rcases joinL_signs y (q :: r) c h with h | ⟨z, hz, h⟩
        · exact .inl h
        · exact .inr ⟨z, List.mem_cons_of_mem _ hz, h⟩
theorem join_signs {y : Str} {ps : List Str} {c : Nat} (h : c ∈ TL.tl (Txt.join y ps)) : c ∈ TL.tl y ∨ ∃ p ∈ ps, c ∈ TL.tl p := by
  rw [TL.join_eq, TL.tl_join] at h
  rcases joinL_signs _ _ c h with h | ⟨p, hp, h⟩
  · exact .inl h
  · obtain ⟨u, hu, rfl⟩ := List.mem_map.mp hp
    exact .inr ⟨u, hu, h⟩
theorem row_signs {ts : List Int} {l : List (Str × Str)} {bs : List Str} (g : GoodT l) (b : GoodB bs) : ∀ z ∈ sheetRows ts l bs, ∀ c ∈ TL.tl z, 32 ≤ c ∧ c ≤ 122 := fun z hz c hc => by
  have f1 : ∀ c ∈ TL.tl "taps ", 32 ≤ c ∧ c ≤ 122 := by decide +kernel
  have f2 : ∀ c ∈ TL.tl "letter ", 32 ≤ c ∧ c ≤ 122 := by decide +kernel
  have f3 : ∀ c ∈ TL.tl "word ", 32 ≤ c ∧ c ≤ 122 := by decide +kernel
  have f4 : ∀ c ∈ TL.tl " ", 32 ≤ c ∧ c ≤ 122 := by decide +kernel
  have f5 : ∀ c ∈ TL.tl Str.empty, 32 ≤ c ∧ c ≤ 122 := fun c h => nomatch h
  unfold sheetRows at hz
  rw [List.mem_append, List.mem_append, List.mem_singleton] at hz
  rcases hz with (rfl | hz) | hz
  · unfold headRow at hc
    rw [TL.tl_append, List.mem_append] at hc
    rcases hc with hc | hc
    · exact f1 c hc
    · rcases join_signs hc with hc | ⟨p, hp, hc⟩
      · exact f4 c hc
      · obtain ⟨t, _, rfl⟩ := List.mem_map.mp hp
        have := num_signs c hc
        omega
  · obtain ⟨e, he, rfl⟩ := List.mem_map.mp hz
    obtain ⟨_, a, _, m⟩ := g.one e he
    unfold letRow at hc
    simp only [TL.tl_append, List.mem_append] at hc
    rcases hc with (((hc | hc) | hc) | hc) | hc
    · exact f5 c hc
    · exact f2 c hc
    · have := small_signs a c hc
      omega
    · exact f4 c hc
    · have := marks_signs m c hc
      omega
  · obtain ⟨w, hw, rfl⟩ := List.mem_map.mp hz
    unfold wordRow at hc
    simp only [TL.tl_append, List.mem_append] at hc
    rcases hc with (hc | hc) | hc
    · exact f5 c hc
    · exact f3 c hc
    · have := small_signs (b.small w hw).1 c hc
      omega
theorem sheet_ok {ts : List Int} {l : List (Str × Str)} {bs : List Str} (g : GoodT l) (b : GoodB bs) : PyData.strOk (sheetOf ts l bs) = true := strOk_of fun c hc => by
  have f : ∀ c ∈ TL.tl "\n", c < 1114112 := by decide +kernel
  rcases join_signs hc with hc | ⟨p, hp, hc⟩
  · exact f c hc
  · have := row_signs g b p hp c hc
    omega
theorem spelled_ok {l : List (Str × Str)} (g : GoodT l) (ks : List Int) : PyData.strOk (spelledOf l ks) = true := strOk_of fun c hc => by
  have f : ∀ c ∈ TL.tl " ", c < 1114112 := by decide +kernel
  rw [spelled_ws] at hc
  rcases join_signs hc with h | ⟨u, hu, h⟩
  · exact f c h
  · rcases (wsOf_each g hu).2.2 c h with h | h
    · omega
    · have := (okLet_small g h).2
      omega
def spWritten (K : PySem.W.Frag) (T : List Addr) (CT C : Addr) : Sp := fun vs H Q _ => ∃ (x xt b la lt : Addr) (ys : List V) (l : List (Str × Str)) (bs : List Str) (ts : List Int), vs = [.ref x, .ref xt, .ref b] ∧ TapsAt C H x la ts ∧ Tps ts ∧ TableAt CT H xt lt ys ∧ RowsT H ys l ∧ GoodT l ∧ SqL K H b (bs.map V.str) ∧ GoodB bs ∧ Tb T H ∧
  ∀ H', ExtT H H' → Tb T H' → Q (.str (sheetOf ts l bs)) H'
/-! ### the law's own sheet -/
def books4 : List Str := ["et", "tea", "message", "man"]
theorem good_books (k : Nat) : GoodB (books4.drop k) := by
  have a : ∀ z ∈ books4, isSmall z = true ∧ z.length ≤ 1000 := by decide +kernel
  have b : books4.Nodup := by decide +kernel
  exact ⟨by rw [List.length_drop]; have : books4.length = 4 := rfl; omega, fun z hz => a z (List.mem_of_mem_drop hz), b.sublist (List.drop_sublist k books4)⟩
def rowZ : Str × Str := ("z", ".----.")
theorem GoodT.addZ {l : List (Str × Str)} (g : GoodT l) (h : ∀ e ∈ l, e.1 ∈ lets ∧ e.2 ∈ marks21) (le : l.length ≤ 16) : GoodT (l ++ [rowZ]) := by
  have hz : rowZ.1.length = 1 ∧ isSmall rowZ.1 = true ∧ rowZ.2.length ≤ 6 ∧ isMarks rowZ.2 = true := by decide +kernel
  have nl : ∀ x ∈ lets, rowZ.1 ≠ x ∧ rowZ.2 ≠ x := by decide +kernel
  have nm : ∀ x ∈ marks21, rowZ.1 ≠ x ∧ rowZ.2 ≠ x := by decide +kernel
  refine ⟨by rw [List.length_append]; show l.length + 1 ≤ 30; omega, fun e he => ?_, fun i j a b hij ea eb => ?_⟩
  · rcases List.mem_append.mp he with he | he
    · exact g.one e he
    · rw [List.mem_singleton.mp he]
      exact hz
  · by_cases hj : j < l.length
    · rw [List.getElem?_append_left hj] at eb
      rw [List.getElem?_append_left (by omega)] at ea
      exact g.new i j a b hij ea eb
    · have hj2 := (List.getElem?_eq_some_iff.mp eb).1
      rw [List.length_append] at hj2
      have hj2 : j < l.length + 1 := hj2
      have ej : j - l.length = 0 := by omega
      rw [List.getElem?_append_right (by omega), ej] at eb
      cases eb
      rw [List.getElem?_append_left (by omega)] at ea
      obtain ⟨m1, m2⟩ := h a (List.mem_of_getElem? ea)
      exact ⟨(nl _ m1).1, (nm _ m2).1, (nl _ m1).2, (nm _ m2).2⟩
theorem addZ_rows {H : Hp} {ys : List V} {l : List (Str × Str)} {TZ : Addr} {n : Nat} (hn : n ≤ 1) (rt : RowsT H ys l) (eT : H TZ = some (.tup [.str "z", .str ".----."])) : RowsT H (ys ++ (List.replicate n [V.ref TZ]).flatten) (l ++ List.replicate n rowZ) := by
  rcases (by omega : n = 0 ∨ n = 1) with rfl | rfl
  · have e1 : ys ++ (List.replicate 0 [V.ref TZ]).flatten = ys := List.append_nil ys
    have e2 : l ++ List.replicate 0 rowZ = l := List.append_nil l
    rw [e1, e2]
    exact rt
  · refine ⟨by rw [List.length_append, List.length_append, rt.1]; rfl, fun i e he => ?_⟩
    by_cases hi : i < l.length
    · rw [List.getElem?_append_left hi] at he
      obtain ⟨T, a, b⟩ := rt.2 i e he
      exact ⟨T, by rw [List.getElem?_append_left (by rw [rt.1]; exact hi)]; exact a, b⟩
    · have h2 := (List.getElem?_eq_some_iff.mp he).1
      rw [List.length_append] at h2
      have h2 : i < l.length + 1 := h2
      have e0 : i - l.length = 0 := by omega
      rw [List.getElem?_append_right (by omega), e0] at he
      cases he
      exact ⟨TZ, by rw [List.getElem?_append_right (by rw [rt.1]; omega), rt.1, e0]; rfl, eT⟩
theorem GoodT.addN {l : List (Str × Str)} {n : Nat} (hn : n ≤ 1) (g : GoodT l) (h : ∀ e ∈ l, e.1 ∈ lets ∧ e.2 ∈ marks21) (le : l.length ≤ 16) : GoodT (l ++ List.replicate n rowZ) := by
  rcases (by omega : n = 0 ∨ n = 1) with rfl | rfl
  · have e2 : l ++ List.replicate 0 rowZ = l := List.append_nil l
    rw [e2]
    exact g
  · exact g.addZ h le
/-- a new list of rows, the taps' times, a book -/
def spSheet : Sp := fun vs H Q _ => ∃ d : Addr, vs = [.ref d] ∧ Dice H d ∧ ∀ (ts : List Int) (l : List (Str × Str)) (bs : List Str) (ys : List V) (p pt pr pb : Addr) (H' : Hp), Tps ts → GoodT l → GoodB bs → H p = none → H pt = none → H pr = none → H pb = none →
  H' p = some (.tup [.ref pt, .ref pr, .ref pb]) → H' pt = some (.lst (ts.map V.int)) → H' pr = some (.lst ys) → RowsT H' ys l → H' pb = some (.lst (bs.map V.str)) → (l.length ≤ 17 ∧ ∃ k, bs = books4.drop k) → Dice H' d → Kp d H H' → Q (.ref p) H'
end KT

/-! Own rule: all(f(x) for x in a list), f a def of the program that may do what its promise says. -/
namespace KT
open PySem PySem.Spec PyProof.Rows L2
/-! ### a generator expression that may change what it likes: its turns by a statement W -/
/-- between a yield and the next waking: what stood stands -/
structure Woke (s s' : Shared) : Prop where
  heap : ∀ b o, s.heap.get? b = some o → s'.heap.get? b = some o
  os : s'.os = s.os
  bare : AllBare s'.gens
  size : s.gens.size ≤ s'.gens.size
theorem Woke.trans {a b c : Shared} (x : Woke a b) (y : Woke b c) : Woke a c := ⟨fun d o e => y.heap d o (x.heap d o e), y.os.trans x.os, y.bare, Nat.le_trans x.size y.size⟩
structure Turns (prog : Program) (w : World) (A' : Around) (it : Addr) (x : Str) (px : Pos) (elt : Expr) (cenv : Env) (N : Nat) (tr : Nat → Bool) (W : Nat → Shared → Prop) (Wd : Shared → Prop) : Prop where
  woke : ∀ j s s', W j s → Woke s s' → W j s'
  item : ∀ j s (E : Value → Shared → Prop), j < N → W j s → wpAny (model prog w) A' (pyNext (.ref it)) (fun r s1 => ∃ v, r = some v ∧
    wpAny (model prog w) A' (assign (.Name x px) cenv v) (fun _ s2 => wpAny (model prog w) A' (eval elt cenv) (fun y s' => y = .bool (tr j) ∧ W (j + 1) s') E s2) E s1) E s
  done : ∀ s (Q : Option Value → Shared → Prop) (E : Value → Shared → Prop), W N s → (∀ s', Wd s' → Q none s') → wpAny (model prog w) A' (pyNext (.ref it)) Q E s
  self : ∀ (A'' : Around) s (Q : Value → Shared → Prop) (E : Value → Shared → Prop), W 0 s → (∀ s', W 0 s' → Q (.ref it) s') → wpAny (model prog w) A'' (pyIter (.ref it)) Q E s
def turnY (N : Nat) (tr : Nat → Bool) (W : Nat → Shared → Prop) : Protocol := fun n s₀ v s kap => v = .bool (tr (N - 1 - n)) ∧ W (N - n) s ∧ ∀ s'', Woke s s'' → kap (.send .none) s''
def turnR (Wd : Shared → Prop) : PySem.GenEnd := fun n s₀ r s₁ => r = .ok .next ∧ (n = 0 ∧ Wd s₁)
section
variable {prog : Program} {w : World} {A : Around} {elt iter : Expr} {x : Str} {px pos : Pos} {scope : Scope} {it : Addr} {cenv : Env} {N : Nat} {tr : Nat → Bool} {W : Nat → Shared → Prop} {Wd : Shared → Prop}
theorem over_comp : A.over (.compLoop (.GeneratorExp elt [⟨.Name x px, iter, [], 0⟩] scope pos) 0 (.ref it) .none cenv) [] = A.deeper cenv := by
  first
    | rfl
    | (obtain ⟨hd, d, fr, gs, u⟩ := A; simp [Around.over, Around.deeper, marksOver, frameCount, unitsOf, envsOf, guardsOf, pushEnvs, pushGuards, Code.envs, Code.env?, Code.isFrame, Code.guards, Code.isGuard, Code.weight, Code.frames, Code.isCreation, Code.isCaller, Code.cUnits])
theorem over_start : A.over (.compStart (.GeneratorExp elt [⟨.Name x px, iter, [], 0⟩] scope pos) 0 (.ref it) .none cenv) [] = A.deeper cenv := by
  first
    | rfl
    | (obtain ⟨hd, d, fr, gs, u⟩ := A; simp [Around.over, Around.deeper, marksOver, frameCount, unitsOf, envsOf, guardsOf, pushEnvs, pushGuards, Code.envs, Code.env?, Code.isFrame, Code.guards, Code.isGuard, Code.weight, Code.frames, Code.isCreation, Code.isCaller, Code.cUnits])
theorem seg_turns (T : Turns prog w (A.deeper cenv) it x px elt cenv N tr W Wd) (hco : cenv.scope.isCoroutine = false) : ∀ (k j : Nat) (s₀ s : Shared), N - j = k → j ≤ N → W j s →
    Seg (model prog w) A (turnR Wd) (turnY N tr W) k s₀ (.compLoop (.GeneratorExp elt [⟨.Name x px, iter, [], 0⟩] scope pos) 0 (.ref it) .none cenv)
      ((model prog w).den (.compLoop (.GeneratorExp elt [⟨.Name x px, iter, [], 0⟩] scope pos) 0 (.ref it) .none cenv)) [] s := by
  intro k
  induction k with
  | zero =>
    intro j s₀ s hk hj hw
    obtain rfl : j = N := by omega
    show Seg _ A _ _ _ s₀ _ ((compTurn (.GeneratorExp elt [⟨.Name x px, iter, [], 0⟩] scope pos) 0 (.ref it) .none cenv).onRaise (leaving cenv)) [] s
    rw [compTurn_gen, Sem.onRaise_eq_wrap]
    refine seg_bind_wrap (wpAny_standAt ?_)
    refine seg_bind_wrap ?_
    rw [over_comp]
    refine T.done s _ _ hw fun s' hw' => ?_
    exact seg_end (.ok .next) ⟨rfl, rfl, hw'⟩
  | succ k ih =>
    intro j s₀ s hk hj hw
    have hlt : j < N := by omega
    show Seg _ A _ _ _ s₀ _ ((compTurn (.GeneratorExp elt [⟨.Name x px, iter, [], 0⟩] scope pos) 0 (.ref it) .none cenv).onRaise (leaving cenv)) [] s
    rw [compTurn_gen, Sem.onRaise_eq_wrap]
    refine seg_bind_wrap (wpAny_standAt ?_)
    refine seg_bind_wrap ?_
    rw [over_comp]
    refine wpAny_mono (T.item j s _ hlt hw) (fun r s1 hr => ?_) fun _ _ e => e
    obtain ⟨v, rfl, h⟩ := hr
    refine seg_bind_wrap (wpAny_of_eq (rfl : letOwnedTupleGo (.Name x px) (.ref it) v = pure ()) ?_)
    refine seg_bind_wrap ?_
    rw [over_comp]
    refine wpAny_mono h (fun _ s2 h2 => ?_) fun _ _ e => e
    simp only [List.forIn_nil]
    refine seg_bind_wrap (wpAny_pure ?_)
    simp only [if_true]
    have hy : ∀ v, yieldOut cenv v = yieldValue v := fun v => by simp only [yieldOut, hco, Bool.false_eq_true, if_false]
    simp only [hy]
    rw [Sem.bind_eq_wrap', Sem.bind_eq_wrap', Sem.wrap_wrap, Sem.wrap_wrap]
    refine seg_wrap ?_
    rw [over_comp]
    refine wpAny_mono h2 (fun y s3 h3 => ?_) fun _ _ e => e
    obtain ⟨rfl, w3⟩ := h3
    have e1 : N - 1 - k = j := by omega
    have e2 : N - k = j + 1 := by omega
    refine seg_at (seg_yield rfl rfl rfl ⟨by rw [e1], by rw [e2]; exact w3, fun s'' hs => ?_⟩)
    exact seg_again rfl (ih (j + 1) s'' s'' (by omega) hlt (T.woke _ _ _ w3 hs))
theorem seg_begin (T : Turns prog w (A.deeper cenv) it x px elt cenv N tr W Wd) (hco : cenv.scope.isCoroutine = false) (s₀ s : Shared) (hw : W 0 s) :
    Seg (model prog w) A (turnR Wd) (turnY N tr W) N s₀ (.compStart (.GeneratorExp elt [⟨.Name x px, iter, [], 0⟩] scope pos) 0 (.ref it) .none cenv)
      ((model prog w).den (.compStart (.GeneratorExp elt [⟨.Name x px, iter, [], 0⟩] scope pos) 0 (.ref it) .none cenv)) [] s := by
  have loop : ∀ s, W 0 s → _ := fun s hw => seg_turns (iter := iter) (scope := scope) (pos := pos) T hco N 0 s₀ s (Nat.sub_zero _) (Nat.zero_le _) hw
  show Seg _ A _ _ _ s₀ _ ((compStart (.GeneratorExp elt [⟨.Name x px, iter, [], 0⟩] scope pos) 0 (.ref it) .none cenv).onRaise (leaving cenv)) [] s
  unfold compStart
  rw [Sem.onRaise_eq_wrap]
  show Seg _ A _ _ _ s₀ _ ((ask >>= _).wrap _ _ _ _) [] s
  refine seg_bind_wrap (wpAny_askSetting ?_)
  split
  · exact seg_again rfl (loop s hw)
  · refine seg_bind_wrap (wpAny_rule ?_)
    first
      | (refine seg_bind_wrap (wpAny_standAt ?_); exact seg_bind_wrap (T.self _ s _ _ hw fun s' hw' => seg_again rfl (loop s' hw')))
      | (show Seg _ A _ _ _ s₀ _ ((standAt iter.pos >>= _).wrap _ _ _ _) [] s; refine seg_bind_wrap (wpAny_standAt ?_); exact seg_bind_wrap (T.self _ s _ _ hw fun s' hw' => seg_again rfl (loop s' hw')))
end
/-! ### the generator between its turns -/
structure GenW (prog : Program) (w : World) (A : Around) (a : Addr) (g N : Nat) (tr : Nat → Bool) (W : Nat → Shared → Prop) (Wd : Shared → Prop) (j : Nat) (s : Shared) : Prop where
  at_ : W j s
  gs : ∃ gs, s.gens[g]? = some gs ∧ ∀ s'', Woke s s'' → gs.Goes (model prog w) A.in1 (turnR Wd) (turnY N tr W) (N - j) (.send .none) s''
/-- what W tells of the generator's object -/
def Tells (a : Addr) (g : Nat) (W : Nat → Shared → Prop) : Prop := ∀ j s, W j s → s.heap.IsGen a g ∧ s.heap.NoLimit ∧ g < s.gens.size ∧ AllBare s.gens
theorem bare_set {s : Shared} {g : Nat} {x : GenState} (h : AllBare s.gens) (hx : x.bare = true) : AllBare (s.setGen g x).gens := by
  intro y hy
  obtain ⟨i, hi, rfl⟩ := Array.mem_iff_getElem.mp hy
  by_cases e : i = g
  · subst e
    simp [Shared.setGen, hx]
  · have hi2 : i < s.gens.size := by simpa [Shared.setGen] using hi
    have h1 := (GenOnly.setGen s g x).2 i e
    rw [Array.getElem?_eq_getElem hi, Array.getElem?_eq_getElem hi2] at h1
    rw [Option.some.inj h1]
    exact h _ (Array.getElem_mem hi2)
theorem woke_set {s : Shared} {g : Nat} {x : GenState} (h : AllBare s.gens) (hx : x.bare = true) : Woke s (s.setGen g x) := ⟨fun _ _ e => e, rfl, bare_set h hx, by simp [Shared.setGen]⟩
section
variable {prog : Program} {w : World} {A : Around} {a : Addr} {g N : Nat} {tr : Nat → Bool} {W : Nat → Shared → Prop} {Wd : Shared → Prop} {s : Shared}
theorem gen_item {j : Nat} {Q : Option Value → Shared → Prop} {E : Value → Shared → Prop} (hh : A.handled = none) (hroom : A.depth < recursionLimit) (tl : Tells a g W) (wk : ∀ j s s', W j s → Woke s s' → W j s') (hj : j < N) (G : GenW prog w A a g N tr W Wd j s)
    (hQ : ∀ s', GenW prog w A a g N tr W Wd (j + 1) s' → Q (some (.bool (tr j))) s') : wpAny (model prog w) A (pyNext (.ref a)) Q E s := by
  obtain ⟨hw, gs, hgs, hgo⟩ := G
  obtain ⟨hg, hl, _, hb⟩ := tl j s hw
  obtain ⟨m, hm⟩ : ∃ m, N - j = m + 1 := ⟨N - j - 1, by omega⟩
  rw [hm] at hgo
  refine wpAny_pyNext_genexpQ (P := fun n s₀ s₁ => n = 0 ∧ Wd s₁) hh hl hroom hg hgs (hgo _ (woke_set hb rfl)) (fun v s₁ gs' hgb hv => ?_) (fun s₁ hp h' hk => ?_)
  · obtain ⟨hv, hw1, hkap⟩ := hv
    have e1 : N - 1 - (m + 1 - 1) = j := by omega
    have e2 : N - (m + 1 - 1) = j + 1 := by omega
    rw [e1] at hv
    rw [e2] at hw1
    subst hv
    obtain ⟨_, _, hlt, hb1⟩ := tl _ _ hw1
    have wk1 : Woke s₁ (s₁.setGen g gs') := woke_set hb1 hgb
    refine hQ _ ⟨wk _ _ _ hw1 wk1, gs', by simp [Shared.setGen, hlt], fun s'' hs => ?_⟩
    have e3 : N - (j + 1) = m := by omega
    rw [e3]
    exact hkap s'' (wk1.trans hs)
  · exact absurd hp.1 (Nat.succ_ne_zero m)
theorem gen_done {Q : Option Value → Shared → Prop} {E : Value → Shared → Prop} (hh : A.handled = none) (hroom : A.depth < recursionLimit) (tl : Tells a g W) (wd : ∀ s s', Wd s → Woke s s' → Wd s') (td : ∀ s, Wd s → AllBare s.gens) (G : GenW prog w A a g N tr W Wd N s)
    (hQ : ∀ s', Wd s' → Q none s') : wpAny (model prog w) A (pyNext (.ref a)) Q E s := by
  obtain ⟨hw, gs, hgs, hgo⟩ := G
  obtain ⟨hg, hl, _, hb⟩ := tl N s hw
  rw [Nat.sub_self] at hgo
  refine wpAny_pyNext_genexpQ (P := fun n s₀ s₁ => n = 0 ∧ Wd s₁) hh hl hroom hg hgs (hgo _ (woke_set hb rfl)) (fun v s₁ gs' hgb hv => ?_) (fun s₁ hp h' hk => ?_)
  · obtain ⟨_, hw1, hkap⟩ := hv
    exact False.elim (hkap s₁ ⟨fun _ _ e => e, rfl, (tl _ _ hw1).2.2.2, Nat.le_refl _⟩)
  · have hb1 := td _ hp.2
    exact hQ _ (wd _ _ hp.2 ⟨fun b o e => hk b o e, rfl, bare_set hb1 rfl, by simp [Shared.setGen]⟩)
theorem all_loopW {R : Result → Shared → Prop} (hh : A.handled = none) (hroom : A.in1.depth < recursionLimit) (tl : Tells a g W) (wk : ∀ j s s', W j s → Woke s s' → W j s') (wd : ∀ s s', Wd s → Woke s s' → Wd s') (td : ∀ s, Wd s → AllBare s.gens) (hR : ∀ j s', W j s' → R (.ok (.ret (.bool ((List.range N).all tr)))) s') (hD : ∀ s', Wd s' → R (.ok (.ret (.bool ((List.range N).all tr)))) s') : ∀ (k j : Nat) (s : Shared), N - j = k → j ≤ N → (∀ i, i < j → tr i = true) →
    GenW prog w A.in1 a g N tr W Wd j s → codeAny (model prog w) A (.builtin "all.loop" ⟨[.ref a], []⟩) R s := by
  intro k
  induction k with
  | zero =>
    intro j s hk hj ht G
    obtain rfl : j = N := by omega
    refine codeAny_builtin F.entry_all_loop ?_
    rw [Around.under_plainId F.plain_all_loop _]
    show wpAny _ A.in1 (pyNext (.ref a) >>= _) _ _ s
    refine wpAny_bind (gen_done (A := A.in1) hh hroom tl wd td G fun s' hw => ?_)
    refine wpAny_bind (wpAny_rule (wpAny_pure ?_))
    have e : (List.range j).all tr = true := List.all_eq_true.mpr fun i hi => ht i (List.mem_range.mp hi)
    have := hD s' hw
    rw [e] at this
    exact this
  | succ k ih =>
    intro j s hk hj ht G
    have hlt : j < N := by omega
    refine codeAny_builtin F.entry_all_loop ?_
    rw [Around.under_plainId F.plain_all_loop _]
    show wpAny _ A.in1 (pyNext (.ref a) >>= _) _ _ s
    refine wpAny_bind (gen_item (A := A.in1) hh hroom tl wk hlt G fun s' hw => ?_)
    refine wpAny_bind (wpAny_holding (wpAny_truthy_bool ?_))
    refine wpAny_bind (wpAny_letGo ?_)
    cases hb : tr j with
    | true =>
      simp only [if_true]
      exact wpAny_pure ⟨plainId_quiet F.plain_all_loop _, ih (j + 1) _ (by omega) hlt (fun i hi => by
        by_cases e : i = j
        · rw [e]
          exact hb
        · exact ht i (by omega)) hw⟩
    | false =>
      simp only [Bool.false_eq_true, if_false]
      have e : (List.range N).all tr = false := by
        rw [List.all_eq_false]
        exact ⟨j, List.mem_range.mpr hlt, by rw [hb]; decide⟩
      have := hR _ s' hw.at_
      rw [e] at this
      exact wpAny_bind (wpAny_rule (wpAny_pure this))
theorem call_allW {Q : Value → Shared → Prop} {E : Value → Shared → Prop} (hh : A.handled = none) (hroom : A.in1.depth < recursionLimit) (tl : Tells a g W) (wk : ∀ j s s', W j s → Woke s s' → W j s') (wd : ∀ s s', Wd s → Woke s s' → Wd s') (td : ∀ s, Wd s → AllBare s.gens) (G : GenW prog w A.in1 a g N tr W Wd 0 s) (hQ : ∀ j s', W j s' → Q (.bool ((List.range N).all tr)) s') (hD : ∀ s', Wd s' → Q (.bool ((List.range N).all tr)) s') :
    wpAny (model prog w) A (call (.builtin "all") [.ref a]) Q E s := by
  refine call_function_tree F.kind_all F.plain_all F.entry_all (F.args_all1 _) ?_
  unfold Builtin.«all»
  refine wpAny_bind (m := oneArg "all" _) (wpAny_pure ?_)
  refine wpAny_bind (wpAny_pyIter_gen (tl _ _ G.at_).1 ?_)
  exact wpAny_pure ⟨plainId_quiet F.plain_all_loop _, all_loopW hh hroom tl wk wd td hQ hD N 0 s (Nat.sub_zero _) (Nat.zero_le _) (fun i hi => absurd hi (Nat.not_lt_zero i)) G⟩
end
/-! ### the element is f(x), f a def of the program -/
/-- at turn j -/
def WF (X : Cx) (pins : List (Addr × Obj)) (σ : L2.St) (H1 : Hp) (T : List Addr) (it C a : Addr) (g : Nat) (L : Addr) (j : Nat) (s : Shared) : Prop :=
  ∃ (H' : Hp) (m : Str → Option Value), Inv X pins σ H' s ∧ ExtT H1 H' ∧ Tb T H' ∧ s.heap.IsListIter it L j ∧ s.heap.Ns C m ∧ H' it = none ∧ H' C = none ∧ H' a = none ∧ s.heap.IsGen a g ∧ g < s.gens.size
/-- at the end -/
def WFd (X : Cx) (pins : List (Addr × Obj)) (σ : L2.St) (H1 : Hp) (T : List Addr) (s : Shared) : Prop := ∃ H' : Hp, Inv X pins σ H' s ∧ ExtT H1 H' ∧ Tb T H'
section
variable {X : Cx} {pins : List (Addr × Obj)} {σ : L2.St} {H1 : Hp} {s1 : Shared} {T : List Addr} {it C a L : Addr} {g : Nat}
theorem inv_woke {H' : Hp} {s s' : Shared} (I : Inv X pins σ H' s) (k : Woke s s') : Inv X pins σ H' s' := I.call' (ch := []) k.os (Un.kept k.heap) (I.hok.kept k.heap) k.bare (fun b z => absurd z (by simp))
theorem wf_woke {j : Nat} {s s' : Shared} (h : WF X pins σ H1 T it C a g L j s) (k : Woke s s') : WF X pins σ H1 T it C a g L j s' := by
  obtain ⟨H', m, I, x, tb, hit, hns, f1, f2, f3, hg, hgl⟩ := h
  exact ⟨H', m, inv_woke I k, x, tb, hit.at fun o e => k.heap _ o e, hns.keeps k.heap, f1, f2, f3, (let ⟨o, nm, qn, ho, r⟩ := hg; ⟨o, nm, qn, k.heap _ o ho, r⟩), Nat.lt_of_lt_of_le hgl k.size⟩
theorem wfd_woke {s s' : Shared} (h : WFd X pins σ H1 T s) (k : Woke s s') : WFd X pins σ H1 T s' := by
  obtain ⟨H', I, x, tb⟩ := h
  exact ⟨H', inv_woke I k, x, tb⟩
theorem wf_tells : Tells a g (WF X pins σ H1 T it C a g L) := fun j s h => by
  obtain ⟨H', m, I, x, tb, hit, hns, f1, f2, f3, hg, hgl⟩ := h
  exact ⟨hg, I.nolimit, hgl, I.bare⟩
theorem wf_end {j : Nat} {s : Shared} (h : WF X pins σ H1 T it C a g L j s) : WFd X pins σ H1 T s := by
  obtain ⟨H', m, I, x, tb, _⟩ := h
  exact ⟨H', I, x, tb⟩
/-- behind a call of a def from the generator's frame -/
theorem after_gen {cenv : Env} {H' : Hp} {s s' : Shared} {Q : VK} {u : Value} (I : Inv X pins σ H' s) (hC : cenv.frame = some C) (f2 : FpOk X pins H' C) (h : CE (cenv :: X.stack) X.prog X.w H' s Q u s') :
    ∃ (v : V) (H2 : Hp), Inv X pins σ H2 s' ∧ RelV v u ∧ Q v H2 ∧ (∀ b o, s.heap.get? b = some o → H' b = none → b ∉ C :: frs X.stack → s'.heap.get? b = some o) ∧ (∀ b o, s.heap.get? b = some o → H' b = none → H2 b = none) ∧ ∀ m, s.heap.Ns C m → s'.heap.Ns C m := by
  obtain ⟨v, H2, os, bare, un, hok, r, q⟩ := h
  have ef : frs (cenv :: X.stack) = C :: frs X.stack := by
    unfold frs
    rw [List.filterMap_cons, hC]
  rw [ef] at un
  have un2 : Un (frs X.stack) [C] H' H2 s.heap s'.heap := ⟨fun b o e n hb hx => un.keep b o e n (fun z => (List.mem_cons.mp z).elim (fun y => hx (List.mem_singleton.mpr y)) hb) (by simp), fun b o e n hb hx => un.slot b o e n (List.mem_cons_of_mem _ hb) (by simp),
    fun b o e n hx => un.free b o e n (by simp), fun b o e hx => un.there b o e (by simp), un.tups, un.frzs, un.tbls⟩
  obtain ⟨f0, f1, f3, f4, f5, f6⟩ := f2
  refine ⟨v, H2, I.call' (ch := [C]) os un2 hok bare (fun b hb => ?_), r, q, fun b o e n hb => un.keep b o e n hb (by simp), fun b o e n => un.free b o e n (by simp), fun m hm => ?_⟩
  · rw [List.mem_singleton.mp hb]
    exact ⟨f4, f1, f5, f6⟩
  · obtain ⟨o', es', ep', ho', r'⟩ := hm
    obtain ⟨sl, e⟩ := un.slot C o' ho' f0 List.mem_cons_self (by simp)
    exact ⟨_, es', ep', e, r'⟩
theorem turns_call {A0 : Around} {cenv : Env} {x f p : Str} {px p1 p2 pos : Pos} {ws : List Str} {pb : Str → Bool} {k : Nat} {fa : Addr} {fd : FuncData} {sp : Sp} (F : FnOk X.prog X.w X.K X.mg X.base CX0 k fa fd [p] sp) (hbd : Binds X.K fd [p] []) (hm : X.mg f = some (.ref fa)) (hkp : PySem.W.keepIn X.K (.ref fa) = true)
    (hsp : ∀ z ∈ ws, ∀ (H : Hp) (Q : VK), Tb T H → (∀ H', ExtT H H' → Tb T H' → Q (.bl (pb z)) H') → sp [.str z] H Q E0)
    (hr : Room k (A0.deeper cenv)) (hfr : A0.frames = some X.stack) (I1 : Inv X pins σ H1 s1) (eL : H1 L = some (.lst (ws.map V.str)))
    (y1 : s1.heap.objs.size ≤ it) (y2 : s1.heap.objs.size ≤ C) (y3 : s1.heap.objs.size ≤ a) (n1 : it ≠ C) (n2 : a ≠ C) (n3 : it ≠ a)
    (hC : cenv.frame = some C) (hloc : cenv.locals = C) (hgl : cenv.globals = mainGlobals) (hkind : cenv.scope.kind = .function) (hx : cenv.scope.names.lookup x = some .local) (hf : cenv.scope.names.lookup f = some .globalImplicit)
    (hd : (x == ("__debug__" : Str)) = false := by decide) (hdf : (f == ("__debug__" : Str)) = false := by decide) (hst : starEach [.Name x p2] cenv = (false, eval (.Name x p2) cenv) :: starEach [] cenv := by rfl) :
    Turns X.prog X.w (A0.deeper cenv) it x px (.Call (.Name f p1) [.Name x p2] [] pos) cenv ws.length (trL pb ws) (WF X pins σ H1 T it C a g L) (WFd X pins σ H1 T) := by
  have hp : (cenv.scope.kind == .class || (cenv.scope.kind == .module && cenv.locals != cenv.globals)) = false := by
    rw [hkind]
    rfl
  refine ⟨fun j s s' h k => wf_woke h k, fun j s E hj h => ?_, fun s Q E h hQ => ?_, fun A'' s Q E h hQ => ?_⟩
  · obtain ⟨H', m, I, xx, tb, hit, hns, f1, f2, f3, hg, hgz⟩ := h
    have eL' : H' L = some (.lst (ws.map V.str)) := xx _ _ eL (fun ps z => nomatch z)
    obtain ⟨its, rv, hl, hz⟩ := I.list (.inl (.inl eL'))
    have ez := List.getElem?_eq_getElem hj
    obtain ⟨u, hu, ru⟩ := rv.get (show (ws.map V.str)[j]? = some (V.str ws[j]) by rw [List.getElem?_map, ez]; rfl)
    obtain ⟨t, rfl⟩ := (show ∃ t, u = Value.str ws[j] t from ru)
    have F1 := I1.fpOk y1 f1
    have F2 := I1.fpOk y2 f2
    refine wpAny_pyNext_list_item hit hl.isList (show its.toArray[j]? = some (.str ws[j] t) by simpa using hu) fun h1 hit1 hs1 => ⟨_, rfl, ?_⟩
    have k1 : ∀ b o, b ≠ it → s.heap.get? b = some o → h1.get? b = some o := fun b o hb e => hs1.extBut b o hb e
    have J1 : Inv X pins σ H' { s with heap := h1 } := I.turned (t' := s.toks) (it := it) k1 f1 F1.2.1 F1.2.2.2.1 F1.2.2.2.2.1 F1.2.2.2.2.2
    have ns1 : h1.Ns C m := hns.at' fun o e => k1 _ o n1.symm e
    refine wpAny_assign_Name (wpAny_storeName_local (by simpa [Env.kindOf] using hx) (by rw [hloc]; exact ns1) (fun h2 hn2 hs2 => ?_) hp)
    rw [hloc] at hn2 hs2
    have k2 : ∀ b o, b ≠ C → h1.get? b = some o → h2.get? b = some o := fun b o hb e => hs2.extBut b o hb e
    have J2 : Inv X pins σ H' { s with heap := h2, toks := s.toks + 1 } := Inv.turned (s := { s with heap := h1 }) (h' := h2) (t' := s.toks + 1) (it := C) J1 k2 f2 F2.2.1 F2.2.2.2.1 F2.2.2.2.2.1 F2.2.2.2.2.2
    have hit2 : h2.IsListIter it L (j + 1) := hit1.at fun o e => k2 _ o n1 e
    have hg2 : h2.IsGen a g := let ⟨o, nm, qn, ho, r⟩ := hg; ⟨o, nm, qn, k2 _ o n2 (k1 _ o n3.symm ho), r⟩
    refine _root_.GenW.wpAny_gsz (n := g + 1) hgz ?_
    refine wpAny_Call_Name_kw (Calls.Name_function_global hkind hf (Calls.loadGlobal_global (by rw [hgl]; exact J2.mod.glob.keeps J2.bk) hm ?_) hdf)
    refine PySem.W.callWith_K (h₀ := X.base) J2.ok.mod.kin hkp ?_ hst (by rfl)
    rw [hst]
    refine Calls.spliced_cons (wpAny_Name (wpAny_loadName_local hkind hx (by rw [hloc]; exact hn2) (show (if x = x then some (Value.str ws[j] t) else m x) = some (.str ws[j] t) from if_pos rfl) ?_) hd)
    refine Calls.spliced_nil ⟨J2.kIn, ?_⟩
    have hb0 : X.base.get? C = none := by
      cases e : X.base.get? C with
      | none => rfl
      | some o =>
        have h3 := Heap.lt_size e
        have h4 := I1.ok.bsz
        have h5 := I1.sz
        exact absurd (Nat.lt_of_lt_of_le h3 (Nat.le_trans h4 (Nat.le_trans h5 y2))) (Nat.lt_irrefl _)
    have e0 : Env0 X.prog X.w X.K X.mg X.base (A0.deeper cenv) (cenv :: X.stack) { s with heap := h2, toks := s.toks + 1 } H' :=
      ⟨Around.frames_deeper hfr, J2.ok.mod, J2.bs, Nat.le_trans J2.ok.bsz J2.sz, .cons (by rw [hkind]; decide) hC hn2 hb0 J2.stack, fun b hb => by
        unfold frs at hb
        rw [List.filterMap_cons, hC] at hb
        rcases List.mem_cons.mp hb with rfl | hb
        · exact f2
        · exact J2.stkFree b hb, J2.hok, J2.bare⟩
    refine wpAny_call (codeAny_mono (F.run (A0.deeper cenv) (cenv :: X.stack) _ H' ⟨[.str ws[j] t], []⟩ [.str ws[j] t] [.str ws[j]] (fun v H2 => v = .bl (pb ws[j]) ∧ ExtT H' H2 ∧ Tb T H2) E0 hr e0 (hbd _ [.str ws[j] t] J2.kIn rfl) (.cons ⟨t, rfl⟩ .nil)
      (hsp _ (List.getElem_mem hj) H' _ tb fun H2 x2 t2 => ⟨rfl, x2, t2⟩)) fun r s' hq => ?_)
    cases r with
    | error e => exact False.elim hq
    | ok fl =>
      cases fl with
      | next => exact False.elim hq
      | brk => exact False.elim hq
      | cont => exact False.elim hq
      | ret u =>
        obtain ⟨v, H2, I2, rv2, ⟨rfl, x2, t2⟩, keep, free, nsk⟩ := after_gen J2 hC F2 hq
        intro hgz2
        have hv : u = Value.bool (pb ws[j]) := rv2
        have nfs : ∀ {b : Addr}, s1.heap.objs.size ≤ b → b ≠ C → b ∉ C :: frs X.stack := fun {b} hb n z => by
          rcases List.mem_cons.mp z with z | z
          · exact n z
          · rcases List.mem_cons.mp (I1.stkSub b z) with z | z
            · exact Nat.ne_of_gt (Nat.lt_of_lt_of_le I1.lt hb) z
            · exact I1.nofs hb z
        refine ⟨by rw [hv, trL_at ez], H2, _, I2, xx.trans x2, t2, hit2.at fun o e => keep _ o e f1 (nfs y1 n1), nsk _ hn2, ?_, ?_, ?_, (let ⟨o, nm, qn, ho, r⟩ := hg2; ⟨o, nm, qn, keep _ o ho f3 (nfs y3 n2), r⟩), hgz2⟩
        · obtain ⟨o, ho, _⟩ := hit2
          exact free _ o ho f1
        · obtain ⟨o, _, _, ho, _⟩ := hn2
          exact free _ o ho f2
        · obtain ⟨o, _, _, ho, _⟩ := hg2
          exact free _ o ho f3
  · obtain ⟨H', m, I, xx, tb, hit, hns, f1, f2, f3, hg, hgz⟩ := h
    have eL' : H' L = some (.lst (ws.map V.str)) := xx _ _ eL (fun ps z => nomatch z)
    obtain ⟨its, rv, hl, hz⟩ := I.list (.inl (.inl eL'))
    have len : its.length = ws.length := by rw [← rv.length, List.length_map]
    have F1 := I1.fpOk y1 f1
    refine wpAny_pyNext_list_end hr.hd hit hl.isList (by simp [len]) fun h1 hs1 => hQ _ ⟨H', ?_, xx, tb⟩
    exact I.turned (t' := s.toks) (it := it) (fun b o hb e => hs1 b o hb e) f1 F1.2.1 F1.2.2.2.1 F1.2.2.2.2.1 F1.2.2.2.2.2
  · obtain ⟨H', m, I, xx, tb, hit, r⟩ := id h
    exact wpAny_pyIter_listiter hit (hQ s h)
end
/-! ### all(f(x) for x in a list) -/
def tAllF (T : List Addr) (pb : Str → Bool) (ok : Str → Prop) (te : TE) : TE := fun σ H Q => te σ H fun v H1 => ∃ (L : Addr) (ws : List Str), v = .ref L ∧ H1 L = some (.lst (ws.map V.str)) ∧ Tb T H1 ∧ (∀ z ∈ ws, ok z) ∧ ∀ H2, ExtT H1 H2 → Tb T H2 → Q (.bl (ws.all pb)) H2
theorem pe_allF {X : Cx} {T : List Addr} {c P : Addr} {iter : Expr} {x f p : Str} {px pa p1 p2 pos2 gpos pos : Pos} {scope : Scope} {pb : Str → Bool} {ok : Str → Prop} {te : TE} {k : Nat} {sp : Sp} (D : KDef X.prog X.w X.K X.mg X.base CX0 k f [p] sp)
    (hsp : ∀ z, ok z → ∀ (H : Hp) (Q : VK), Tb T H → (∀ H', ExtT H H' → Tb T H' → Q (.bl (pb z)) H') → sp [.str z] H Q E0) (hPT : P ∈ T) (hr : Room (k + 3) X.A) (hg : Gl X "all") (hm : X.mg "all" = none) (hb : bootBuiltins "all" = some (.builtin "all")) (TB : GxR.TabB X.base X.mg c P) (hcode : X.env.code = .ref c) (S : GxR.GenS X.env scope x)
    (hf : scope.names.lookup f = some .globalImplicit) (hi : PE X iter te) (hs : ∀ v, genFold iter X.env v = pure v := by intro _; rfl) (hd : (x == ("__debug__" : Str)) = false := by decide) (hdf : (f == ("__debug__" : Str)) = false := by decide)
    (he : starEach [.GeneratorExp (.Call (.Name f p1) [.Name x p2] [] pos2) [⟨.Name x px, iter, [], 0⟩] scope gpos] X.env = (false, eval (.GeneratorExp (.Call (.Name f p1) [.Name x p2] [] pos2) [⟨.Name x px, iter, [], 0⟩] scope gpos) X.env) :: starEach [] X.env := by rfl) :
    PE X (.Call (.Name "all" pa) [.GeneratorExp (.Call (.Name f p1) [.Name x p2] [] pos2) [⟨.Name x px, iter, [], 0⟩] scope gpos] [] pos) (tAllF T pb ok te) := by
  obtain ⟨fa, fd, hmf, hkp, hbd, F⟩ := D.ex
  refine ⟨fun pins s σ H Q I h => ?_⟩
  refine wpAny_Call_Name_kw (ld_blt I hg hm hb (PyProof.Rows.callWith_builtin1 ?_ he (by rfl)))
  rw [he]
  show wpAny _ _ (spliced ((false, eval (.GeneratorExp (.Call (.Name f p1) [.Name x p2] [] pos2) [⟨.Name x px, iter, [], 0⟩] scope gpos) X.env) :: backTo pos (starEach [] X.env))) _ _ s
  refine Calls.spliced_cons ?_
  refine wpAny_GeneratorExp_make S.co (closure_ok S.free) S.cell S.dot S.kind (by have := hr.dp; omega) (thn (hi.run pins s σ H _ I h) fun xv s1 ⟨v, H1, I1, r1, q1⟩ => ?_) hs
  obtain ⟨L, ws, rfl, eL, tb, hok, q⟩ := q1
  obtain rfl : xv = Value.ref L := r1
  obtain ⟨ps, hP, ht⟩ := tb P hPT
  obtain ⟨its, rv, hl, hz⟩ := I1.list (.inl (.inl eL))
  refine wpAny_pyIter_list hl.isList ?_
  have hPs : s1.heap.get? P = some { cls := .none, data := .fields ps } := I1.hok P _ hP
  have hP2 : (s1.heap.push ({ cls := .type "list_iterator", data := .fields #[.ref L, .int 0 0] } : Obj)).get? P = some { cls := .none, data := .fields ps } := Heap.get?_push_of_some _ hPs
  have cd : PySem.W.CodeHd (s1.heap.push ({ cls := .type "list_iterator", data := .fields #[.ref L, .int 0 0] } : Obj)) c P := TB.code.keeps fun b u e => Heap.get?_push_of_some _ (I1.bk b u e)
  have itr : (s1.heap.push ({ cls := .type "list_iterator", data := .fields #[.ref L, .int 0 0] } : Obj)).IsListIter s1.heap.objs.size L 0 := ⟨_, Heap.get?_push_size _ rfl, rfl, rfl⟩
  have lim : (s1.heap.push ({ cls := .type "list_iterator", data := .fields #[.ref L, .int 0 0] } : Obj)).NoLimit := I1.nolimit.push _
  have plt : P < s1.heap.objs.size := Heap.lt_size hPs
  refine ⟨lim, ?_⟩
  have go : ∀ (code : Value) (h3 : Heap) (tk : Nat) (ps' : Array Value), CodeOk X s1 ({ cls := .type "list_iterator", data := .fields #[.ref L, .int 0 0] } : Obj) P ps ps' h3 → wpAny (model X.prog X.w) X.A (builtinsFor X.env.globals X.env.builtins) (fun bi s₄ =>
      ∀ h' : Heap, h'.Ns s₄.heap.objs.size (fun y => if y = ".0" then some (.ref s1.heap.objs.size) else none) → Heap.SameBut s₄.heap.objs.size (s₄.heap.push { cls := .type "frame", data := .dict #[] }) h' →
        (fun u s5 => wpAny (model X.prog X.w) X.A (spliced (backTo pos (starEach [] X.env))) (fun vs s6 => wpAny (model X.prog X.w) X.A (call (.builtin "all") (u :: vs)) (EP X pins σ Q) X.xe s6) X.xe s5) (.ref h'.objs.size) { s₄ with
          gens := s₄.gens.push (.fresh (.compStart (.GeneratorExp (.Call (.Name f p1) [.Name x p2] [] pos2) [⟨.Name x px, iter, [], 0⟩] scope gpos) 0 (.ref s1.heap.objs.size) .none (genEnv scope (cloFrom X.env.cells scope.names []) s₄.heap.objs.size code bi X.env))),
          toks := s₄.toks + 1 + 1 + 1,
          heap := h'.push { cls := .type "generator", data := .fields #[.int s₄.gens.size 0, .str "<genexpr>" (s₄.toks + 1), .str (X.env.qual ++ "<genexpr>") (s₄.toks + 1 + 1)] } }) X.xe { s1 with heap := h3, toks := tk } := by
    intro code h3 tk ps' C
    obtain ⟨bm, ob, e1, e2, e3, e4, e5, e6, e7, e8⟩ := TB.bm
    have big : s1.heap.objs.size < h3.objs.size := Nat.lt_of_lt_of_le (by rw [Heap.size_push]; exact Nat.lt_succ_self _) C.size
    have base : ∀ b u, X.base.get? b = some u → h3.get? b = some u := fun b u e => C.keep (table_free I1 hP e) (I1.bk b u e)
    refine wpAny_builtinsFor (m := X.mg) (by rw [I1.ok.glob]; exact I1.mod.glob.keeps base) e1 e2 (C.keep e4 (I1.bk _ _ e5)) e6 e7 e8 ?_
    intro h' hn' hs'
    have hsz : h'.objs.size = h3.objs.size + 1 := by rw [hs'.1, Heap.size_push]
    have k5 : ∀ b o, h3.get? b = some o → (h'.push ({ cls := .type "generator", data := .fields #[.int s1.gens.size 0, .str "<genexpr>" (tk + 1), .str (X.env.qual ++ "<genexpr>") (tk + 1 + 1)] } : Obj)).get? b = some o :=
      fun b o e => Heap.get?_push_of_some _ (hs'.extBut b o (Nat.ne_of_lt (Heap.lt_size e)) (Heap.get?_push_of_some _ e))
    obtain ⟨more, rfl⟩ := C.more
    have J := GxR.inv_tab (more := more) (h' := h'.push ({ cls := .type "generator", data := .fields #[.int s1.gens.size 0, .str "<genexpr>" (tk + 1), .str (X.env.qual ++ "<genexpr>") (tk + 1 + 1)] } : Obj))
      (g' := s1.gens.push (.fresh (.compStart (.GeneratorExp (.Call (.Name f p1) [.Name x p2] [] pos2) [⟨.Name x px, iter, [], 0⟩] scope gpos) 0 (.ref s1.heap.objs.size) .none (genEnv scope (cloFrom X.env.cells scope.names []) h3.objs.size code builtinsNs X.env))))
      (d' := s1.drawn) (t' := tk + 1 + 1 + 1) I1 hP (fun b u hb e => k5 b u (C.keep hb e)) (k5 P _ C.tab) (I1.bare.push rfl)
    have tbd : GxR.Tabbed P H1 (upd H1 P (.tbl (ps ++ more))) := ⟨⟨ps ++ more, upd_same, C.ok⟩, fun b hb => upd_ne hb⟩
    have fz : ∀ {b : Addr}, s1.heap.objs.size ≤ b → upd H1 P (.tbl (ps ++ more)) b = none := fun {b} hb => by
      rw [upd_ne (Nat.ne_of_gt (Nat.lt_of_lt_of_le plt hb))]
      exact I1.hok.fresh hb
    have eL5 : upd H1 P (.tbl (ps ++ more)) L = some (.lst (ws.map V.str)) := by
      rw [upd_ne fun z => by rw [z, hP] at eL; cases eL]
      exact eL
    have hA : X.A.in1.in1.frames = some X.stack := I1.ok.frames
    have hr3 : Room k (X.A.in1.in1.deeper (genEnv scope (cloFrom X.env.cells scope.names []) h3.objs.size code builtinsNs X.env)) := (hr.in1.in1).deeper _
    have W0 : WF X pins σ H1 T s1.heap.objs.size h3.objs.size h'.objs.size s1.gens.size L 0 _ := ⟨_, _, J, ext_tabbed ⟨ps, hP, ht⟩ tbd, tb_tabbed tb tbd, (itr.extBut C.ext (Nat.ne_of_gt plt)).at fun o e => k5 _ o e, hn'.push _, fz (Nat.le_refl _), fz (Nat.le_of_lt big), fz (by omega), ⟨_, _, _, Heap.get?_push_size _ rfl, rfl, rfl, rfl⟩, by rw [Array.size_push]; exact Nat.lt_succ_self _⟩
    have TT := turns_call (g := s1.gens.size) (px := px) (p1 := p1) (p2 := p2) (pos := pos2) (x := x) (f := f)  F hbd hmf hkp (fun z hz => hsp z (hok z hz)) hr3 hA I1 eL (Nat.le_refl s1.heap.objs.size) (Nat.le_of_lt big) (show s1.heap.objs.size ≤ h'.objs.size by omega) (show s1.heap.objs.size ≠ h3.objs.size by omega) (show h'.objs.size ≠ h3.objs.size by omega) (show s1.heap.objs.size ≠ h'.objs.size by omega) rfl rfl I1.ok.glob S.kind S.loc hf hd hdf
    have fin : ∀ s', WFd X pins σ H1 T s' → EP X pins σ Q (.bool ((List.range ws.length).all (trL pb ws))) s' := fun s' ⟨H2, I2, x2, t2⟩ => by
      rw [all_at]
      exact ⟨.bl _, H2, I2, rfl, q H2 x2 t2⟩
    refine Calls.spliced_nil ?_
    exact call_allW (A := X.A) hr.hd (by have := hr.in1.dp; omega) wf_tells (fun j s s' h k => wf_woke h k) (fun s s' h k => wfd_woke h k) (fun s h => by
      obtain ⟨_, I2, _⟩ := h
      exact I2.bare) ⟨W0, _, Array.getElem?_push_size .., fun s'' wk => ⟨rfl, seg_begin (A := X.A.in1.in1) TT S.co s'' s'' (wf_woke W0 wk)⟩⟩ (fun j s' hw => fin s' (wf_end hw)) fin
  cases hf2 : codeAmong gpos ps.toList with
  | none =>
    refine wpAny_genexprCodeX hcode (cd.code hP2 ht) (cd.tab hP2) hf2 fun c' h' tk hx hge hlt hco' _ htab' _ => ?_
    obtain ⟨o1, vs, f1, tf, fl, tg, inF, tx, tt, op, _, _, _, _, _, _, _, _, _, htr, _⟩ := hco'
    exact go _ h' tk _ ⟨hx, Nat.le_trans hge (Nat.le_of_lt hlt), htab'.2, ⟨_, rfl⟩, htr⟩
  | some cv =>
    refine wpAny_genexprCode_hit hcode (cd.code hP2 ht) hf2 ?_
    exact go cv _ s1.toks ps ⟨Heap.ExtBut.refl _ _, Nat.le_refl _, hP2, ⟨#[], by simp⟩, ht⟩
end KT

/-! A sheet read: rows of words. -/
namespace KT
open PySem PySem.Spec PyProof.Rows L2
def figures10 : Str := "0123456789"
def isNum (z : Str) : Bool := decide (1 ≤ z.length ∧ z.length ≤ 4) && (!decide ((TL.tl z).head? = some 48) && allIn z figures10)
def w0 (r : List Str) : Str := r.getD 0 ""
def isFirst (r : List Str) : Bool := decide (w0 r = ("taps" : Str)) && (decide (2 ≤ r.length) && (r.drop 1).all isNum)
def isNext (r a : List Str) : Bool := if ("" : Str) ∈ r then false else if w0 r = ("letter" : Str) then decide (r.length = 3) && !decide (w0 a = ("word" : Str)) else decide (w0 r = ("word" : Str)) && decide (r.length = 2)
def spIsNum (T : List Addr) : Sp := fun vs H Q _ => ∃ z : Str, vs = [.str z] ∧ z.length ≤ 1000 ∧ Tb T H ∧ ∀ H', ExtT H H' → Tb T H' → Q (.bl (isNum z)) H'
theorem num_sp {T : List Addr} : ∀ z : Str, z.length ≤ 1000 → ∀ (H : Hp) (Q : VK), Tb T H → (∀ H', ExtT H H' → Tb T H' → Q (.bl (isNum z)) H') → spIsNum T [.str z] H Q E0 := fun z hz H Q tb q => ⟨z, rfl, hz, tb, q⟩
/-- words of a row: one or more, short -/
structure RowW (r : List Str) : Prop where
  ne : r ≠ []
  few : r.length ≤ 100
  each : ∀ z ∈ r, z.length ≤ 1000 ∧ (32 : Nat) ∉ TL.tl z ∧ (10 : Nat) ∉ TL.tl z
def spIsFirst (K : PySem.W.Frag) (T : List Addr) : Sp := fun vs H Q _ => ∃ (a : Addr) (r : List Str), vs = [.ref a] ∧ SqL K H a (r.map V.str) ∧ RowW r ∧ Tb T H ∧ ∀ H', ExtT H H' → Tb T H' → Q (.bl (isFirst r)) H'
def spIsNext (K : PySem.W.Frag) : Sp := fun vs H Q _ => ∃ (a b : Addr) (r u : List Str), vs = [.ref a, .ref b] ∧ SqL K H a (r.map V.str) ∧ SqL K H b (u.map V.str) ∧ RowW r ∧ RowW u ∧ ∀ H', Same H H' → Q (.bl (isNext r u)) H'
/-- lists of words at places -/
def RowsW (K : PySem.W.Frag) (H : Hp) (vs : List V) (R : List (List Str)) : Prop := vs.length = R.length ∧ ∀ (i : Nat) (r : List Str), R[i]? = some r → ∃ a : Addr, vs[i]? = some (.ref a) ∧ SqL K H a (r.map V.str)
theorem RowsW.ext {K : PySem.W.Frag} {H H' : Hp} {vs : List V} {R : List (List Str)} (h : RowsW K H vs R) (s : ExtT H H') : RowsW K H' vs R := ⟨h.1, fun i e he => by
  obtain ⟨a, g1, g2⟩ := h.2 i e he
  exact ⟨a, g1, ext_seq g2 s⟩⟩
structure SheetW (R : List (List Str)) : Prop where
  ne : R ≠ []
  few : R.length ≤ 1100
  each : ∀ r ∈ R, RowW r
/-- the rows up to the n-th are so -/
def okTo (R : List (List Str)) (n : Nat) : Prop := ∀ i, i < n → i < R.length → (i = 0 → isFirst (R.getD 0 []) = true) ∧ (0 < i → isNext (R.getD i []) (R.getD (i - 1) []) = true)
def spCheckSheet (K : PySem.W.Frag) (T : List Addr) : Sp := fun vs H Q _ => ∃ (a : Addr) (xs : List V) (R : List (List Str)), vs = [.ref a] ∧ SqL K H a xs ∧ RowsW K H xs R ∧ SheetW R ∧ okTo R R.length ∧ Tb T H ∧ ∀ H', ExtT H H' → Tb T H' → Q .non H'
/-! ### the words of a sheet's rows -/
def headW (ts : List Int) : List Str := "taps" :: ts.map numS
def letW (e : Str × Str) : List Str := ["letter", e.1, e.2]
def wordW (z : Str) : List Str := ["word", z]
def sheetWs (ts : List Int) (l : List (Str × Str)) (bs : List Str) : List (List Str) := [headW ts] ++ l.map letW ++ bs.map wordW
def textOf (R : List (List Str)) : Str := Txt.join "\n" (R.map (Txt.join " "))
theorem join_cons2 (y a b : Str) (r : List Str) : Txt.join y (a :: b :: r) = a ++ y ++ Txt.join y (b :: r) := by
  rw [TL.join_eq, TL.join_eq]
  rfl
theorem join_one (y a : Str) : Txt.join y [a] = a := by
  rw [TL.join_eq]
  rfl
theorem e_app (a : Str) : Str.empty ++ a = a := TL.ext_tl (by rw [TL.tl_append]; rfl)
theorem head_words {ts : List Int} (h : ts ≠ []) : headRow ts = Txt.join " " (headW ts) := by
  cases ts with
  | nil => exact absurd rfl h
  | cons t ts =>
    unfold headRow headW
    rw [List.map_cons, join_cons2]
    have : ("taps " : Str) = "taps" ++ " " := by decide +kernel
    rw [this]
theorem let_words (e : Str × Str) : letRow e = Txt.join " " (letW e) := by
  unfold letRow letW
  have : ("letter " : Str) = "letter" ++ " " := by decide +kernel
  rw [join_cons2, join_cons2, join_one, e_app, this]
  simp only [s_assoc]
theorem word_words (z : Str) : wordRow z = Txt.join " " (wordW z) := by
  unfold wordRow wordW
  have : ("word " : Str) = "word" ++ " " := by decide +kernel
  rw [join_cons2, join_one, e_app, this]
theorem sheet_text {ts : List Int} {l : List (Str × Str)} {bs : List Str} (h : ts ≠ []) : sheetOf ts l bs = textOf (sheetWs ts l bs) := by
  unfold sheetOf textOf sheetRows sheetWs
  rw [List.map_append, List.map_append, List.map_map, List.map_map, head_words h]
  have e1 : l.map letRow = l.map (Txt.join " " ∘ letW) := List.map_congr_left fun e _ => let_words e
  have e2 : bs.map wordRow = bs.map (Txt.join " " ∘ wordW) := List.map_congr_left fun z _ => word_words z
  rw [e1, e2]
  rfl
theorem mem_sheet {ts : List Int} {l : List (Str × Str)} {bs : List Str} {r : List Str} (h : r ∈ sheetWs ts l bs) : r = headW ts ∨ (∃ e ∈ l, r = letW e) ∨ ∃ z ∈ bs, r = wordW z := by
  unfold sheetWs at h
  rw [List.mem_append, List.mem_append, List.mem_singleton] at h
  rcases h with (h | h) | h
  · exact .inl h
  · obtain ⟨e, he, q⟩ := List.mem_map.mp h
    exact .inr (.inl ⟨e, he, q.symm⟩)
  · obtain ⟨e, he, q⟩ := List.mem_map.mp h
    exact .inr (.inr ⟨e, he, q.symm⟩)
/-- a word as it may stand in a row -/
def WordOk (z : Str) : Prop := z ≠ "" ∧ z.length ≤ 1000 ∧ (32 : Nat) ∉ TL.tl z ∧ (10 : Nat) ∉ TL.tl z
/-- times, texts and words as they may be written -/
structure Parts (ts : List Int) (l : List (Str × Str)) (bs : List Str) : Prop where
  ne : ts ≠ []
  few : ts.length ≤ 25
  all : ∀ (i : Nat) (t : Int), ts[i]? = some t → 1 ≤ t ∧ t ≤ 9999
  lets : l.length ≤ 60
  let_ : ∀ e ∈ l, WordOk e.1 ∧ WordOk e.2
  bks : bs.length ≤ 1000
  book : ∀ z ∈ bs, WordOk z
theorem Parts.mem {ts : List Int} {l : List (Str × Str)} {bs : List Str} (h : Parts ts l bs) {t : Int} (m : t ∈ ts) : 1 ≤ t ∧ t ≤ 9999 := by
  obtain ⟨i, hi, e⟩ := List.getElem_of_mem m
  exact h.all i t (by rw [List.getElem?_eq_getElem hi, e])
theorem head_dec : ∀ a b : Fin 100, 100 * a.val + b.val = 0 ∨ ((Nat.toDigits 10 (100 * a.val + b.val)).map Char.toNat).head? ≠ some 48 := by decide +kernel
theorem num_isNum {t : Int} (h1 : 1 ≤ t) (h2 : t ≤ 9999) : isNum (numS t) = true := by
  obtain ⟨m, rfl⟩ := Int.eq_ofNat_of_zero_le (show 0 ≤ t by omega)
  have sg : TL.tl (numS (m : Int)) = (Nat.toDigits 10 m).map Char.toNat := PySem.W.KIN.signs_num m
  have l4 : (numS (m : Int)).length ≤ 4 := toString_length_le (by omega) (by decide) (by omega)
  have l1 : 1 ≤ (numS (m : Int)).length := PySem.W.KLn.one_le (by omega)
  have hd : ((Nat.toDigits 10 m).map Char.toNat).head? ≠ some 48 := by
    have := head_dec ⟨m / 100, by omega⟩ ⟨m % 100, by omega⟩
    rw [show 100 * (m / 100) + m % 100 = m by omega] at this
    rcases this with h | h
    · omega
    · exact h
  unfold isNum
  rw [decide_eq_true (show 1 ≤ (numS (m : Int)).length ∧ (numS (m : Int)).length ≤ 4 by omega), Bool.true_and, sg, decide_eq_false hd]
  show allIn (numS (m : Int)) figures10 = true
  unfold allIn
  rw [List.all_eq_true]
  intro c hc
  have hc : c ∈ TL.tl (numS (m : Int)) := hc
  rw [sg] at hc
  obtain ⟨ch, hm, rfl⟩ := List.mem_map.mp hc
  have := digit_range (Nat.isDigit_of_mem_toDigits (by decide) (by decide) hm)
  have all : ∀ x : Fin 58, 48 ≤ x.val → x.val ∈ figures10.cps.toList := by decide +kernel
  exact decide_eq_true (all ⟨ch.toNat, by omega⟩ this.1)
theorem num_word {t : Int} (h1 : 1 ≤ t) (h2 : t ≤ 9999) : WordOk (numS t) := by
  have l1 : 1 ≤ (numS t).length := PySem.W.KLn.one_le (by omega)
  have l2 := num_len (t := t) (by omega) h2
  refine ⟨fun z => ?_, by omega, fun m => ?_, fun m => ?_⟩
  · rw [z] at l1
    exact absurd l1 (by decide)
  · have := num_signs _ m
    omega
  · have := num_signs _ m
    omega
theorem small_word2 {z : Str} (h : isSmall z = true) (l : z.length ≤ 1000) : WordOk z := by
  refine ⟨fun e => ?_, l, fun m => ?_, fun m => ?_⟩
  · rw [e] at h
    cases h
  · have := small_signs h _ m
    omega
  · have := small_signs h _ m
    omega
theorem marks_word {z : Str} (h : isMarks z = true) (l : z.length ≤ 1000) : WordOk z := by
  refine ⟨fun e => ?_, l, fun m => ?_, fun m => ?_⟩
  · rw [e] at h
    exact absurd h (by decide +kernel)
  · have := marks_signs h _ m
    omega
  · have := marks_signs h _ m
    omega
theorem parts_good {ts : List Int} {l : List (Str × Str)} {bs : List Str} (tp : Tps ts) (g : GoodT l) (b : GoodB bs) : Parts ts l bs := by
  refine ⟨List.length_pos_iff.mp tp.pos, tp.le, tp.all, by have := g.few; omega, fun e he => ?_, b.few, fun z hz => small_word2 (b.small z hz).1 (b.small z hz).2⟩
  obtain ⟨a, c, d, m⟩ := g.one e he
  exact ⟨small_word2 c (by omega), marks_word m (by omega)⟩
theorem rows_w {ts : List Int} {l : List (Str × Str)} {bs : List Str} (h : Parts ts l bs) : SheetW (sheetWs ts l bs) := by
  have cw : ∀ z ∈ (["taps", "letter", "word"] : List Str), z.length ≤ 1000 ∧ (32 : Nat) ∉ TL.tl z ∧ (10 : Nat) ∉ TL.tl z := by decide +kernel
  refine ⟨by unfold sheetWs; simp, ?_, fun r hr => ?_⟩
  · have h1 := h.lets
    have h2 := h.bks
    unfold sheetWs
    simp only [List.length_append, List.length_map, List.length_singleton]
    omega
  · have few := h.few
    rcases mem_sheet hr with rfl | ⟨e, he, rfl⟩ | ⟨z, hz, rfl⟩
    · refine ⟨List.cons_ne_nil _ _, ?_, fun z hz => ?_⟩
      · unfold headW
        rw [List.length_cons, List.length_map]
        omega
      · rcases List.mem_cons.mp hz with rfl | hz
        · exact cw _ (by simp)
        · obtain ⟨t, ht, rfl⟩ := List.mem_map.mp hz
          exact (num_word (h.mem ht).1 (h.mem ht).2).2
    · refine ⟨List.cons_ne_nil _ _, by show 3 ≤ 100; decide, fun z hz => ?_⟩
      obtain ⟨w1, w2⟩ := h.let_ e he
      rcases List.mem_cons.mp hz with rfl | hz
      · exact cw _ (by simp)
      rcases List.mem_cons.mp hz with rfl | hz
      · exact w1.2
      · rw [List.mem_singleton.mp hz]
        exact w2.2
    · refine ⟨List.cons_ne_nil _ _, by show 2 ≤ 100; decide, fun y hy => ?_⟩
      rcases List.mem_cons.mp hy with rfl | hy
      · exact cw _ (by simp)
      · rw [List.mem_singleton.mp hy]
        exact (h.book z hz).2
theorem first_ok {ts : List Int} {l : List (Str × Str)} {bs : List Str} (h : Parts ts l bs) : isFirst (headW ts) = true := by
  have ne : 0 < ts.length := List.length_pos_iff.mpr h.ne
  unfold isFirst headW
  rw [show w0 ("taps" :: ts.map numS) = ("taps" : Str) from rfl, decide_eq_true rfl, Bool.true_and, decide_eq_true (by rw [List.length_cons, List.length_map]; omega), Bool.true_and]
  show (ts.map numS).all isNum = true
  rw [List.all_eq_true]
  intro z hz
  obtain ⟨t, ht, rfl⟩ := List.mem_map.mp hz
  exact num_isNum (h.mem ht).1 (h.mem ht).2
theorem str_ne : ("letter" : Str) ≠ "word" ∧ ("taps" : Str) ≠ "word" ∧ ("taps" : Str) ≠ "letter" ∧ ("word" : Str) ≠ "letter" ∧ ("letter" : Str) ≠ "" ∧ ("word" : Str) ≠ "" ∧ ("taps" : Str) ≠ "" := by decide +kernel
theorem next_let {e : Str × Str} {a : List Str} (h1 : e.1 ≠ "") (h2 : e.2 ≠ "") (ha : w0 a ≠ "word") : isNext (letW e) a = true := by
  unfold isNext letW
  rw [if_neg (by
    intro m
    rcases List.mem_cons.mp m with m | m
    · exact str_ne.2.2.2.2.1 m.symm
    rcases List.mem_cons.mp m with m | m
    · exact h1 m.symm
    · exact h2 (List.mem_singleton.mp m).symm), if_pos (show w0 ["letter", e.1, e.2] = ("letter" : Str) from rfl), decide_eq_false ha]
  rfl
theorem next_word {z : Str} {a : List Str} (h1 : z ≠ "") : isNext (wordW z) a = true := by
  unfold isNext wordW
  rw [if_neg (by
    intro m
    rcases List.mem_cons.mp m with m | m
    · exact str_ne.2.2.2.2.2.1 m.symm
    · exact h1 (List.mem_singleton.mp m).symm), if_neg (show w0 ["word", z] ≠ "letter" from str_ne.2.2.2.1), show w0 ["word", z] = ("word" : Str) from rfl, decide_eq_true rfl]
  rfl
theorem sheet_at {ts : List Int} {l : List (Str × Str)} {bs : List Str} {i : Nat} {r : List Str} (e : (sheetWs ts l bs)[i]? = some r) : (i = 0 ∧ r = headW ts) ∨ (∃ (j : Nat) (x : Str × Str), i = j + 1 ∧ l[j]? = some x ∧ r = letW x) ∨ ∃ (j : Nat) (z : Str), i = j + 1 + l.length ∧ bs[j]? = some z ∧ r = wordW z := by
  unfold sheetWs at e
  by_cases h : i < 1 + l.length
  · rw [List.getElem?_append_left (by simp only [List.length_append, List.length_map, List.length_singleton]; exact h)] at e
    cases i with
    | zero =>
      cases e
      exact .inl ⟨rfl, rfl⟩
    | succ j =>
      have e : (l.map letW)[j]? = some r := e
      rw [List.getElem?_map] at e
      obtain ⟨x, hx, rfl⟩ := Option.map_eq_some_iff.mp e
      exact .inr (.inl ⟨j, x, rfl, hx, rfl⟩)
  · rw [List.getElem?_append_right (by simp only [List.length_append, List.length_map, List.length_singleton]; omega)] at e
    rw [List.getElem?_map] at e
    obtain ⟨z, hz, rfl⟩ := Option.map_eq_some_iff.mp e
    simp only [List.length_append, List.length_map, List.length_singleton] at hz
    exact .inr (.inr ⟨i - (1 + l.length), z, by omega, hz, rfl⟩)
theorem ok_sheet {ts : List Int} {l : List (Str × Str)} {bs : List Str} (h : Parts ts l bs) : okTo (sheetWs ts l bs) (sheetWs ts l bs).length := fun i hi hl => by
  have ei := List.getElem?_eq_getElem hl
  refine ⟨fun z => ?_, fun z => ?_⟩
  · subst z
    exact first_ok h
  · rw [List.getD_eq_getElem?_getD, ei, Option.getD_some]
    have el := List.getElem?_eq_getElem (show i - 1 < (sheetWs ts l bs).length by omega)
    rw [List.getD_eq_getElem?_getD, el, Option.getD_some]
    rcases sheet_at ei with ⟨q, _⟩ | ⟨j, x, rfl, hx, e⟩ | ⟨j, y, rfl, hy, e⟩
    · omega
    · rw [e]
      obtain ⟨w1, w2⟩ := h.let_ x (List.mem_of_getElem? hx)
      refine next_let w1.1 w2.1 ?_
      have jl := (List.getElem?_eq_some_iff.mp hx).1
      rcases sheet_at el with ⟨_, e2⟩ | ⟨k, u, _, _, e2⟩ | ⟨k, u, q, _, _⟩
      · rw [e2]
        exact str_ne.2.1
      · rw [e2]
        exact str_ne.1
      · omega
    · rw [e]
      exact next_word (h.book y (List.mem_of_getElem? hy)).1
/-! ### reading a sheet -/
theorem split_rows {R : List (List Str)} (h : SheetW R) : Txt.split (textOf R) "\n" = R.map (Txt.join " ") := by
  refine TL.split_join (y := "\n") (s := 10) (S := []) (by decide +kernel) (by decide +kernel) (fun z => h.ne (List.map_eq_nil_iff.mp z)) fun p hp m => ?_
  obtain ⟨r, hr, rfl⟩ := List.mem_map.mp hp
  rcases join_signs m with m | ⟨z, hz, m⟩
  · exact absurd m (by decide +kernel)
  · exact ((h.each r hr).each z hz).2.2 m
theorem split_row {r : List Str} (h : RowW r) : Txt.split (Txt.join " " r) " " = r := TL.split_join (y := " ") (s := 32) (S := []) (by decide +kernel) (by decide +kernel) h.ne fun p hp => (h.each p hp).2.1
theorem row_len {r : List Str} (h : RowW r) : (Txt.join " " r).length ≤ 110000 := by
  have h1 := join_len " " r
  have h2 := sum_le (fun x : Str => x.length) 1000 r fun x hx => (h.each x hx).1
  have h3 := h.few
  have h4 : (" " : Str).length = 1 := by decide +kernel
  rw [h4] at h1
  omega
/-- a sheet that is short enough -/
def Short (R : List (List Str)) : Prop := (textOf R).length ≤ 900000
/-- what is read of rows -/
def letsOf (R : List (List Str)) : List (Str × Str) := R.filterMap fun r => if w0 r = ("letter" : Str) then some (r.getD 1 "", r.getD 2 "") else none
def wordsIn (R : List (List Str)) : List Str := R.filterMap fun r => if w0 r = ("word" : Str) then some (r.getD 1 "") else none
theorem lets_of (ts : List Int) (l : List (Str × Str)) (bs : List Str) : letsOf (sheetWs ts l bs) = l := by
  unfold letsOf sheetWs
  rw [List.filterMap_append, List.filterMap_append]
  have e1 : ∀ l : List (Str × Str), (l.map letW).filterMap (fun r => if w0 r = ("letter" : Str) then some (r.getD 1 "", r.getD 2 "") else none) = l := fun l => by
    induction l with
    | nil => rfl
    | cons a l ih =>
      rw [List.map_cons, List.filterMap_cons, if_pos (show w0 (letW a) = ("letter" : Str) from rfl), ih]
      rfl
  have e2 : ∀ l : List Str, (l.map wordW).filterMap (fun r => if w0 r = ("letter" : Str) then some (r.getD 1 "", r.getD 2 "") else none) = [] := fun l => by
    induction l with
    | nil => rfl
    | cons a l ih => rw [List.map_cons, List.filterMap_cons, if_neg (show w0 (wordW a) ≠ ("letter" : Str) from str_ne.2.2.2.1), ih]
  rw [e1, e2, List.filterMap_cons, if_neg (show w0 (headW ts) ≠ ("letter" : Str) from str_ne.2.2.1), List.append_nil]
  rfl
theorem words_in (ts : List Int) (l : List (Str × Str)) (bs : List Str) : wordsIn (sheetWs ts l bs) = bs := by
  unfold wordsIn sheetWs
  rw [List.filterMap_append, List.filterMap_append]
  have e1 : ∀ l : List Str, (l.map wordW).filterMap (fun r => if w0 r = ("word" : Str) then some (r.getD 1 "") else none) = l := fun l => by
    induction l with
    | nil => rfl
    | cons a l ih =>
      rw [List.map_cons, List.filterMap_cons, if_pos (show w0 (wordW a) = ("word" : Str) from rfl), ih]
      rfl
  have e2 : ∀ l : List (Str × Str), (l.map letW).filterMap (fun r => if w0 r = ("word" : Str) then some (r.getD 1 "") else none) = [] := fun l => by
    induction l with
    | nil => rfl
    | cons a l ih => rw [List.map_cons, List.filterMap_cons, if_neg (show w0 (letW a) ≠ ("word" : Str) from str_ne.1), ih]
  rw [e1, e2, List.filterMap_cons, if_neg (show w0 (headW ts) ≠ ("word" : Str) from str_ne.2.1), List.append_nil]
  rfl
/-- a row's own words, where its first one tells its sort -/
def SortedW (R : List (List Str)) : Prop := ∀ r ∈ R, (w0 r = ("letter" : Str) → 3 ≤ r.length) ∧ (w0 r = ("word" : Str) → 2 ≤ r.length)
theorem sorted_sheet (ts : List Int) (l : List (Str × Str)) (bs : List Str) : SortedW (sheetWs ts l bs) := fun r hr => by
  rcases mem_sheet hr with rfl | ⟨e, _, rfl⟩ | ⟨z, _, rfl⟩
  · exact ⟨fun z => absurd z str_ne.2.2.1, fun z => absurd z str_ne.2.1⟩
  · exact ⟨fun _ => by show 3 ≤ 3; decide, fun z => absurd z str_ne.1⟩
  · exact ⟨fun z => absurd z str_ne.2.2.2.1, fun _ => by show 2 ≤ 2; decide⟩
theorem lets_snoc {R : List (List Str)} {i : Nat} {r : List Str} (e : R[i]? = some r) : letsOf (R.take (i + 1)) = letsOf (R.take i) ++ (if w0 r = ("letter" : Str) then [(r.getD 1 "", r.getD 2 "")] else []) := by
  unfold letsOf
  rw [take_succ e, List.filterMap_append, List.filterMap_cons, List.filterMap_nil]
  by_cases h : w0 r = ("letter" : Str)
  · rw [if_pos h, if_pos h]
  · rw [if_neg h, if_neg h]
theorem words_snoc {R : List (List Str)} {i : Nat} {r : List Str} (e : R[i]? = some r) : wordsIn (R.take (i + 1)) = wordsIn (R.take i) ++ (if w0 r = ("word" : Str) then [r.getD 1 ""] else []) := by
  unfold wordsIn
  rw [take_succ e, List.filterMap_append, List.filterMap_cons, List.filterMap_nil]
  by_cases h : w0 r = ("word" : Str)
  · rw [if_pos h, if_pos h]
  · rw [if_neg h, if_neg h]
theorem RowsT.snocT {H : Hp} {vs : List V} {l : List (Str × Str)} {e : Str × Str} {T : Addr} (h : RowsT H vs l) (g : H T = some (.tup [.str e.1, .str e.2])) : RowsT H (vs ++ [.ref T]) (l ++ [e]) := by
  refine ⟨by rw [List.length_append, List.length_append, h.1]; rfl, fun i u hu => ?_⟩
  by_cases c : i < l.length
  · rw [List.getElem?_append_left c] at hu
    obtain ⟨T', a, b⟩ := h.2 i u hu
    exact ⟨T', by rw [List.getElem?_append_left (by rw [h.1]; exact c)]; exact a, b⟩
  · have hl := (List.getElem?_eq_some_iff.mp hu).1
    rw [List.length_append] at hl
    have hl : i < l.length + 1 := hl
    have c0 : i - l.length = 0 := by omega
    rw [List.getElem?_append_right (by omega), c0] at hu
    cases hu
    exact ⟨T, by rw [List.getElem?_append_right (by rw [h.1]; omega), h.1, c0]; rfl, g⟩
theorem RowsT.putT {H : Hp} {vs ys : List V} {l : List (Str × Str)} {D : Addr} {o : HO} (h : RowsT H vs l) (e : H D = some (.lst ys)) : RowsT (upd H D o) vs l := ⟨h.1, fun i u hu => by
  obtain ⟨T, a, b⟩ := h.2 i u hu
  exact ⟨T, a, (upd_ne fun z => by rw [z, e] at b; cases b).trans b⟩⟩
theorem at_w {r : List Str} {j : Nat} (h : j < r.length) : atI (r.map V.str) (j : Int) = some (V.str (r.getD j "")) := aI (by omega) (by
  rw [Int.toNat_natCast, List.getElem?_map, List.getElem?_eq_getElem h, List.getD_eq_getElem?_getD, List.getElem?_eq_getElem h]
  rfl)
theorem at_0 {r : List Str} (h : RowW r) : atI (r.map V.str) 0 = some (V.str (w0 r)) := at_w (j := 0) (List.length_pos_iff.mpr h.ne)
theorem str_dec {x y : Str} : decide (V.str x = V.str y) = decide (x = y) := by
  by_cases h : x = y
  · rw [h, decide_eq_true rfl, decide_eq_true rfl]
  · rw [decide_eq_false h, decide_eq_false fun z => h (V.str.inj z)]
def spRead (K : PySem.W.Frag) (T : List Addr) (CT C : Addr) : Sp := fun vs H Q _ => ∃ (ts : List Int) (l : List (Str × Str)) (bs : List Str), vs = [.str (textOf (sheetWs ts l bs))] ∧ Short (sheetWs ts l bs) ∧ Tps ts ∧ GoodT l ∧ GoodB bs ∧ Tb T H ∧
  ∀ (p x xt b la lt : Addr) (ys : List V) (H' : Hp), NewT H p → ExtT H H' → Tb T H' → H' p = some (.tup [.ref x, .ref xt, .ref b]) → TapsAt C H' x la ts → TableAt CT H' xt lt ys → RowsT H' ys l → H' b = some (.lst (bs.map V.str)) → Q (.ref p) H'
/-! ### the law's rows -/
def spLines (K : PySem.W.Frag) : Sp := fun vs H Q _ => ∃ (p pt pr pb : Addr) (ys : List V) (ts : List Int) (l : List (Str × Str)) (bs : List Str), vs = [.ref p] ∧ SqT K H p [.ref pt, .ref pr, .ref pb] ∧ SqL K H pt (ts.map V.int) ∧ SqL K H pr ys ∧ RowsT H ys l ∧ SqL K H pb (bs.map V.str) ∧ Tps ts ∧ GoodT l ∧ GoodB bs ∧
  ∀ (r : Addr) (H' : Hp), H r = none → Same H H' → H' r = some (.lst ((sheetRows ts l bs).map V.str)) → Q (.ref r) H'
/-- the law's own sheet at p -/
structure SheetAt (H : Hp) (p pt pr pb : Addr) (ys : List V) (ts : List Int) (l : List (Str × Str)) (bs : List Str) : Prop where
  at_ : H p = some (.tup [.ref pt, .ref pr, .ref pb])
  t : H pt = some (.lst (ts.map V.int))
  r : H pr = some (.lst ys)
  rows : RowsT H ys l
  b : H pb = some (.lst (bs.map V.str))
theorem SheetAt.ext {H H' : Hp} {p pt pr pb : Addr} {ys : List V} {ts : List Int} {l : List (Str × Str)} {bs : List Str} (h : SheetAt H p pt pr pb ys ts l bs) (s : ExtT H H') : SheetAt H' p pt pr pb ys ts l bs :=
  ⟨s _ _ h.at_ (fun ps z => nomatch z), s _ _ h.t (fun ps z => nomatch z), s _ _ h.r (fun ps z => nomatch z), h.rows.ext s, s _ _ h.b (fun ps z => nomatch z)⟩
/-- what such a sheet holds -/
structure SheetOk (ts : List Int) (l : List (Str × Str)) (bs : List Str) : Prop where
  tp : Tps ts
  good : GoodT l
  gb : GoodB bs
  few : l.length ≤ 17 ∧ ∃ k, bs = books4.drop k
theorem SheetOk.short {ts : List Int} {l : List (Str × Str)} {bs : List Str} (h : SheetOk ts l bs) : Short (sheetWs ts l bs) := by
  obtain ⟨tp, g, b, lf, k, rfl⟩ := h
  unfold Short
  rw [← sheet_text (List.length_pos_iff.mp tp.pos)]
  have h1 := join_len "\n" (sheetRows ts l (books4.drop k))
  have h2 := sum_le (fun x : Str => x.length) 1100 (sheetRows ts l (books4.drop k)) fun x hx => by
    unfold sheetRows at hx
    rw [List.mem_append, List.mem_append, List.mem_singleton] at hx
    rcases hx with (rfl | hx) | hx
    · exact head_len tp
    · obtain ⟨e, he, rfl⟩ := List.mem_map.mp hx
      obtain ⟨a, _, c, _⟩ := g.one e he
      have := let_len a c
      show (letRow e).length ≤ 1100
      omega
    · obtain ⟨z, hz, rfl⟩ := List.mem_map.mp hx
      exact word_len (b.small z hz).2
  have h3 : (sheetRows ts l (books4.drop k)).length ≤ 22 := by
    unfold sheetRows
    simp only [List.length_append, List.length_map, List.length_singleton, List.length_drop]
    have : books4.length = 4 := rfl
    omega
  have h4 : ("\n" : Str).length = 1 := by decide +kernel
  rw [h4] at h1
  show (Txt.join "\n" (sheetRows ts l (books4.drop k))).length ≤ 900000
  omega
def sheetD (ts : List Int) (l : List (Str × Str)) (bs : List Str) : PyData := .tuple [.list (ts.map PyData.int), .list (rowsD l), .list (bs.map PyData.str)]
theorem dok_sheet {ts : List Int} {l : List (Str × Str)} {bs : List Str} (h : SheetOk ts l bs) : dOk 4 (sheetD ts l bs) := by
  have le := h.tp.le
  have few := h.good.few
  have fb := h.gb.few
  refine ⟨by show 3 ≤ 1000000; decide, fun d hd => ?_⟩
  simp only [List.mem_cons, List.not_mem_nil, or_false] at hd
  rcases hd with rfl | rfl | rfl
  · refine ⟨by rw [List.length_map]; omega, fun d hd => ?_⟩
    obtain ⟨i, _, rfl⟩ := List.mem_map.mp hd
    exact True.intro
  · refine ⟨by unfold rowsD; rw [List.length_map]; omega, fun d hd => ?_⟩
    obtain ⟨e, _, rfl⟩ := List.mem_map.mp hd
    refine ⟨by show 2 ≤ 1000000; decide, fun d hd => ?_⟩
    simp only [List.mem_cons, List.not_mem_nil, or_false] at hd
    rcases hd with rfl | rfl <;> exact True.intro
  · refine ⟨by rw [List.length_map]; omega, fun d hd => ?_⟩
    obtain ⟨i, _, rfl⟩ := List.mem_map.mp hd
    exact True.intro
theorem dp_sheet {K : PySem.W.Frag} {H : Hp} {p a b c : Addr} {ys : List V} {ts : List Int} {l : List (Str × Str)} {bs : List Str} (e : H p = some (.tup [.ref a, .ref b, .ref c])) (ea : H a = some (.lst (ts.map V.int))) (eb : H b = some (.lst ys)) (rt : RowsT H ys l) (ec : H c = some (.lst (bs.map V.str))) : Dp K H (.ref p) (sheetD ts l bs) :=
  .tup (SqT.of e) (.cons (dp_ints (SqL.of ea)) (.cons (.lst (SqL.of eb) (dp_rows rt)) (.cons (dp_txts (SqL.of ec)) .nil)))
end KT

/-! Texts that are refused: what is wrong, and where. -/
namespace KT
open PySem PySem.Spec PyProof.Rows L2
/-! ### errors made: what stood stands -/
theorem made_same3 {H1 : Hp} {a d : Addr} {o1 o2 o3 o5 : HO} (na : H1 a = none) (nd : H1 d = none) : Same H1 (upd (del (upd (upd (upd H1 a o1) d o2) a o3) a) d o5) := fun b o e => by
  have ha : b ≠ a := ne_of_none e na
  have hd : b ≠ d := ne_of_none e nd
  rw [upd_ne hd, del_ne ha, upd_ne ha, upd_ne hd, upd_ne ha]
  exact e
theorem made_same4 {H1 : Hp} {a d : Addr} {o1 o2 o3 o4 o5 : HO} (na : H1 a = none) (nd : H1 d = none) : Same H1 (upd (del (upd (upd (upd (upd H1 a o1) d o2) a o3) d o4) a) d o5) := fun b o e => by
  have ha : b ≠ a := ne_of_none e na
  have hd : b ≠ d := ne_of_none e nd
  rw [upd_ne hd, del_ne ha, upd_ne hd, upd_ne ha, upd_ne hd, upd_ne ha]
  exact e
def rowF (i : Int) : List (Str × V) := [("row", .int i)]
def spTextInit (C : Addr) : Sp := fun vs H Q _ => ∃ (a : Addr) (i : Nat), vs = [.ref a, .int (i : Int)] ∧ H a = some (exo a C none) ∧ i ≤ 30 ∧
  ∀ d, H d = none → d ≠ a → Q .non (upd (upd H d (exd d (rowF i))) a (exo a C (some d)))
theorem text_made {B : Addr} {H1 : Hp} {i : Nat} {E : XK} (hi : i ≤ 30) (hE : ∀ (d : Addr) (H' : Hp), Same H1 H' → H' d = some (.xd (rowF i)) → E (.ref B) (some d) H') : ∀ a, H1 a = none →
    spTextInit B [.ref a, .int (i : Int)] (upd H1 a (exo a B none)) (fun v H2 => v = .non ∧ ∃ (d : Addr) (fs : List (Str × V)), H2 a = some (exo a B (some d)) ∧ H2 d = some (exd d fs) ∧ H1 d = none ∧ E (.ref B) (some d) (upd (del H2 a) d (.xd fs))) (fun _ _ _ => False) := fun a na => by
  refine ⟨a, i, rfl, upd_same, hi, fun d nd dne => ?_⟩
  rw [upd_ne dne] at nd
  exact ⟨rfl, d, rowF i, upd_same, by rw [upd_ne dne, upd_same], nd, hE d _ (made_same3 na nd) upd_same⟩
theorem bad_made2 {K : PySem.W.Frag} {B : Addr} {H1 : Hp} {i : Nat} {why : Str} {E : XK} (hi : i ≤ 30) (hw : why.length ≤ 100) (hE : ∀ (d : Addr) (H' : Hp), Same H1 H' → H' d = some (.xd (atF i why)) → E (.ref B) (some d) H') : ∀ a, H1 a = none →
    spBadInit K B [.ref a, .int (i : Int), .str why] (upd H1 a (exo a B none)) (fun v H2 => v = .non ∧ ∃ (d : Addr) (fs : List (Str × V)), H2 a = some (exo a B (some d)) ∧ H2 d = some (exd d fs) ∧ H1 d = none ∧ E (.ref B) (some d) (upd (del H2 a) d (.xd fs))) (fun _ _ _ => False) := fun a na => by
  refine ⟨a, i, why, rfl, upd_same, hi, hw, fun d nd dne => ?_⟩
  rw [upd_ne dne] at nd
  exact ⟨rfl, d, atF i why, by rw [upd_ne dne.symm, upd_same], upd_same, nd, hE d _ (made_same4 na nd) upd_same⟩
theorem iteY {c : Bool} {A B : Prop} (e : c = true) (h : A) : if c = true then A else B := by
  rw [if_pos e]
  exact h
/-! ### what is wrong -/
def spCheckX2 (K : PySem.W.Frag) (B : Addr) : Sp := fun vs H Q E => ∃ (a : Addr) (ns : List Int), vs = [.ref a] ∧ SqL K H a (ns.map V.int) ∧ ns.length ≤ 1000 ∧
  ((Tps ns ∧ ∀ H', Same H H' → Q .non H') ∨ (ns.length % 2 = 0 ∧ ∀ (d : Addr) (H' : Hp), Same H H' → H' d = some (.xd (atF 0 "many")) → E (.ref B) (some d) H'))
def spTapsX2 (K : PySem.W.Frag) (C B : Addr) : Sp := fun vs H Q E => ∃ (x a dx : Addr) (ns : List Int), vs = [.ref x, .ref a] ∧ H x = some (.ins C dx []) ∧ SqL K H a (ns.map V.int) ∧ ns.length ≤ 1000 ∧
  ((Tps ns ∧ ∀ (l : Addr) (H' : Hp), H l = none → (∀ b o, b ≠ x → H b = some o → H' b = some o) → TapsAt C H' x l ns → Q .non H') ∨ (ns.length % 2 = 0 ∧ ∀ (d : Addr) (H' : Hp), Same H H' → H' d = some (.xd (atF 0 "many")) → E (.ref B) (some d) H'))
/-- the last row of a table is the first wrong one -/
def BadT (l : List (Str × Str)) (i : Nat) (why : Str) : Prop := ∃ (g : List (Str × Str)) (e : Str × Str), l = g ++ [e] ∧ i = g.length ∧ GoodT g ∧ e.1.length = 1 ∧ e.2.length ≤ 1000 ∧
  ((why = ("letter" : Str) ∧ isSmall e.1 = false) ∨ (why = ("marks" : Str) ∧ isSmall e.1 = true ∧ isMarks e.2 = false))
def BadB (bs : List Str) (i : Nat) (why : Str) : Prop := ∃ (g : List Str) (z : Str), bs = g ++ [z] ∧ i = g.length ∧ i ≤ 30 ∧ GoodB g ∧ z.length ≤ 1000 ∧
  ((why = ("word" : Str) ∧ isSmall z = false) ∨ (why = ("twice" : Str) ∧ isSmall z = true ∧ z ∈ g))
def spCheckTableX (K : PySem.W.Frag) (T : List Addr) (B : Addr) : Sp := fun vs H Q E => ∃ (a : Addr) (ys : List V) (l : List (Str × Str)), vs = [.ref a] ∧ SqL K H a ys ∧ RowsT H ys l ∧ Tb T H ∧
  ((GoodT l ∧ ∀ H', ExtT H H' → Tb T H' → Q .non H') ∨ ∃ (i : Nat) (why : Str), BadT l i why ∧ ∀ (d : Addr) (H' : Hp), ExtT H H' → Tb T H' → H' d = some (.xd (atF i why)) → E (.ref B) (some d) H')
def spTableX (K : PySem.W.Frag) (T : List Addr) (C B : Addr) : Sp := fun vs H Q E => ∃ (x a dx : Addr) (ys : List V) (l : List (Str × Str)), vs = [.ref x, .ref a] ∧ H x = some (.ins C dx []) ∧ SqL K H a ys ∧ RowsT H ys l ∧ Tb T H ∧
  ((GoodT l ∧ ∀ (la : Addr) (H' : Hp), (∀ b o, b ≠ x → H b = some o → (∀ ps, o ≠ .tbl ps) → H' b = some o) → Tb T H' → TableAt C H' x la ys → Q .non H') ∨
    ∃ (i : Nat) (why : Str), BadT l i why ∧ ∀ (d : Addr) (H' : Hp), ExtT H H' → Tb T H' → H' d = some (.xd (atF i why)) → E (.ref B) (some d) H')
def spCheckBookX (K : PySem.W.Frag) (T : List Addr) (B : Addr) : Sp := fun vs H Q E => ∃ (b : Addr) (bs : List Str), vs = [.ref b] ∧ SqL K H b (bs.map V.str) ∧ Tb T H ∧
  ∃ (i : Nat) (why : Str), BadB bs i why ∧ ∀ (d : Addr) (H' : Hp), ExtT H H' → Tb T H' → H' d = some (.xd (atF i why)) → E (.ref B) (some d) H'
/-- the i-th row is wrong -/
def badRow (R : List (List Str)) (i : Nat) : Prop := (i = 0 ∧ isFirst (R.getD 0 []) = false) ∨ (0 < i ∧ isNext (R.getD i []) (R.getD (i - 1) []) = false)
def spCheckSheetX (K : PySem.W.Frag) (T : List Addr) (B : Addr) : Sp := fun vs H Q E => ∃ (a : Addr) (xs : List V) (R : List (List Str)), vs = [.ref a] ∧ SqL K H a xs ∧ RowsW K H xs R ∧ SheetW R ∧ Tb T H ∧
  ((okTo R R.length ∧ ∀ H', ExtT H H' → Tb T H' → Q .non H') ∨ ∃ i : Nat, i ≤ 30 ∧ i < R.length ∧ okTo R i ∧ badRow R i ∧ ∀ (d : Addr) (H' : Hp), ExtT H H' → Tb T H' → H' d = some (.xd (rowF i)) → E (.ref B) (some d) H')
/-- how a text of rows is refused -/
def RefT (R : List (List Str)) (i : Nat) : Prop := i ≤ 30 ∧ i < R.length ∧ okTo R i ∧ badRow R i
def RefM (R : List (List Str)) : Prop := ∃ (ts : List Int) (l : List (Str × Str)) (bs : List Str), R = sheetWs ts l bs ∧ Parts ts l bs ∧ ts.length % 2 = 0
def RefB (R : List (List Str)) (i : Nat) (why : Str) : Prop := ∃ (ts : List Int) (l : List (Str × Str)) (bs : List Str), R = sheetWs ts l bs ∧ Parts ts l bs ∧ Tps ts ∧ (BadT l i why ∨ (GoodT l ∧ BadB bs i why))
def spReadX (K : PySem.W.Frag) (T : List Addr) (BT BB BX : Addr) : Sp := fun vs H Q E => ∃ R : List (List Str), vs = [.str (textOf R)] ∧ SheetW R ∧ Short R ∧ Tb T H ∧
  ((∃ i : Nat, RefT R i ∧ ∀ (d : Addr) (H' : Hp), ExtT H H' → Tb T H' → H' d = some (.xd (rowF i)) → E (.ref BX) (some d) H') ∨
   (RefM R ∧ ∀ (d : Addr) (H' : Hp), ExtT H H' → Tb T H' → H' d = some (.xd (atF 0 "many")) → E (.ref BT) (some d) H') ∨
   ∃ (i : Nat) (why : Str), RefB R i why ∧ ∀ (d : Addr) (H' : Hp), ExtT H H' → Tb T H' → H' d = some (.xd (atF i why)) → E (.ref BB) (some d) H')
/-- few rows, none long -/
structure Low (R : List (List Str)) : Prop where
  few : R.length ≤ 60
  each : ∀ r ∈ R, RowW r ∧ (Txt.join " " r).length ≤ 1100
theorem Low.sheet {R : List (List Str)} (h : Low R) (ne : R ≠ []) : SheetW R := ⟨ne, by have := h.few; omega, fun r m => (h.each r m).1⟩
theorem Low.sum {R : List (List Str)} (h : Low R) : ((R.map (Txt.join " ")).map (·.length)).sum + (R.map (Txt.join " ")).length * ("\n" : Str).length ≤ 900000 := by
  have h2 := sum_le (fun x : Str => x.length) 1100 (R.map (Txt.join " ")) fun x hx => by
    obtain ⟨r, hr, rfl⟩ := List.mem_map.mp hx
    exact (h.each r hr).2
  have h3 := h.few
  have h4 : ("\n" : Str).length = 1 := by decide +kernel
  rw [List.length_map] at h2
  rw [h4, List.length_map]
  have e : ((R.map (Txt.join " ")).map (·.length)).sum = ((R.map (Txt.join " ")).map fun x : Str => x.length).sum := rfl
  omega
theorem Low.short {R : List (List Str)} (h : Low R) : Short R := Nat.le_trans (join_len "\n" (R.map (Txt.join " "))) h.sum
theorem Low.app {R R' : List (List Str)} (h : Low R) (h' : Low R') (l : R.length + R'.length ≤ 60) : Low (R ++ R') := ⟨by rw [List.length_append]; exact l, fun r m => (List.mem_append.mp m).elim (h.each r) (h'.each r)⟩
def tx (R : List (List Str)) : List V := (R.map (Txt.join " ")).map V.str
def spRefd (K : PySem.W.Frag) (T : List Addr) : Sp := fun vs H Q _ => ∃ (a : Addr) (R : List (List Str)) (word : Str) (due : V), vs = [.ref a, .str word, due] ∧ SqL K H a (tx R) ∧ R ≠ [] ∧ Low R ∧ Tb T H ∧
  ((word = ("text" : Str) ∧ ∃ i : Nat, due = .int i ∧ RefT R i) ∨ (word = ("taps" : Str) ∧ RefM R ∧ ∃ p, due = .ref p ∧ H p = some (.tup [.int 0, .str "many"])) ∨
    (word = ("table" : Str) ∧ ∃ (i : Nat) (why : Str) (p : Addr), due = .ref p ∧ RefB R i why ∧ H p = some (.tup [.int i, .str why]))) ∧ ∀ H', ExtT H H' → Tb T H' → Q (.bl true) H'
end KT

/-! Odd rows in a sheet. -/
namespace KT
open PySem PySem.Spec PyProof.Rows L2
theorem rows_words {ts : List Int} {l : List (Str × Str)} {bs : List Str} (h : ts ≠ []) : sheetRows ts l bs = (sheetWs ts l bs).map (Txt.join " ") := by
  unfold sheetRows sheetWs
  rw [List.map_append, List.map_append, List.map_map, List.map_map, head_words h]
  have e1 : l.map letRow = l.map (Txt.join " " ∘ letW) := List.map_congr_left fun e _ => let_words e
  have e2 : bs.map wordRow = bs.map (Txt.join " " ∘ wordW) := List.map_congr_left fun z _ => word_words z
  rw [e1, e2]
  rfl
theorem tx_app (R R' : List (List Str)) : tx (R ++ R') = tx R ++ tx R' := by
  unfold tx
  rw [List.map_append, List.map_append]
theorem tx_len (R : List (List Str)) : (tx R).length = R.length := by
  unfold tx
  rw [List.length_map, List.length_map]
theorem tx_take (R : List (List Str)) (n : Nat) : (tx R).take n = tx (R.take n) := by
  unfold tx
  rw [List.map_take, List.map_take]
theorem tx_drop (R : List (List Str)) (n : Nat) : (tx R).drop n = tx (R.drop n) := by
  unfold tx
  rw [List.map_drop, List.map_drop]
/-! ### odd rows, odd heads -/
def oddA : List (List Str) := [[""], ["", ""], ["taps", "1"], ["taps"], ["letter"], ["letter", "a"], ["letter", "a", ".", "-"], ["letter", "", "."], ["letter", "a", ""], ["", "letter", "a", "."]]
def oddB : List (List Str) := [["Letter", "a", "."], ["letters", "a", "."], ["word"], ["word", ""], ["word", "a", "b"], ["word", "a", ""], ["", "word", "a"], ["words", "a"]]
def oddC : List (List Str) := [["book", "a"], ["a", "."]]
def oddW : List (List Str) := oddA ++ oddB ++ oddC
def headsA : List (List Str) := [[""], ["taps"], ["taps", ""], ["taps", "0"], ["taps", "01"], ["taps", "x"], ["taps", "-1"], ["taps", "10000"], ["taps", "1", ""], ["taps", "1", "", "2"]]
def headsB : List (List Str) := [["Taps", "1"], ["letter", "a", "."], ["word", "a"], ["", "taps", "1"], ["taps", "1,2"]]
def headsW : List (List Str) := headsA ++ headsB
def xW : List (List Str) := [["x"]]
def head12W : List (List Str) := [["taps", "1", "2"]]
def word1W : List (List Str) := [["word", "1"]]
def letAW : List (List Str) := [["letter", "A", "."], ["word", "1"]]
def axW : List (List Str) := [["letter", "a", "x"]]
def qW : List (List Str) := [["word", "q"], ["letter", "q", "------"]]
def lqW : List (List Str) := [["letter", "q", "------"]]
def z1 : Str := "1"
def zq : Str := "q"
def eA : Str × Str := ("A", ".")
def eax : Str × Str := ("a", "x")
def laterW : List (List Str) := [[""], ["x"]]
def oddVa : List V := [V.str "", V.str " ", V.str "taps 1", V.str "taps", V.str "letter", V.str "letter a", V.str "letter a . -", V.str "letter  .", V.str "letter a ", V.str " letter a ."]
def oddVb : List V := [V.str "Letter a .", V.str "letters a .", V.str "word", V.str "word ", V.str "word a b", V.str "word a ", V.str " word a", V.str "words a"]
def oddVc : List V := [V.str "book a", V.str "a ."]
def oddV : List V := oddVa ++ oddVb ++ oddVc
def headsVa : List V := [V.str "", V.str "taps", V.str "taps ", V.str "taps 0", V.str "taps 01", V.str "taps x", V.str "taps -1", V.str "taps 10000", V.str "taps 1 ", V.str "taps 1  2"]
def headsVb : List V := [V.str "Taps 1", V.str "letter a .", V.str "word a", V.str " taps 1", V.str "taps 1,2"]
def headsV : List V := headsVa ++ headsVb
theorem odd_tx : oddV = tx oddW := by decide +kernel
theorem heads_tx : headsV = tx headsW := by decide +kernel
theorem later_tx : [V.str "", V.str "x"] = tx laterW := by decide +kernel
def never (o : List Str) : Bool := decide (("" : Str) ∈ o) || (if w0 o = ("letter" : Str) then decide (o.length ≠ 3) else !(decide (w0 o = ("word" : Str)) && decide (o.length = 2)))
theorem never_next {o : List Str} (h : never o = true) (a : List Str) : isNext o a = false := by
  unfold never at h
  unfold isNext
  by_cases c : ("" : Str) ∈ o
  · rw [if_pos c]
  · rw [decide_eq_false c, Bool.false_or] at h
    rw [if_neg c]
    by_cases c2 : w0 o = ("letter" : Str)
    · rw [if_pos c2] at h ⊢
      rw [decide_eq_false (of_decide_eq_true h)]
      rfl
    · rw [if_neg c2] at h ⊢
      exact Bool.not_eq_true' _ |>.mp h
theorem odd_never : oddW.all never = true := by decide +kernel
theorem x_never : never ["x"] = true := by decide +kernel
theorem heads_bad : headsW.all (fun r => !isFirst r) = true := by decide +kernel
/-! ### few, short rows -/
def rowB (r : List Str) : Bool := decide (r ≠ []) && (decide (r.length ≤ 100) && (r.all (fun z => decide (z.length ≤ 1000) && (decide ((32 : Nat) ∉ TL.tl z) && decide ((10 : Nat) ∉ TL.tl z))) && decide ((Txt.join " " r).length ≤ 1100)))
theorem rowB_ok {r : List Str} (h : rowB r = true) : RowW r ∧ (Txt.join " " r).length ≤ 1100 := by
  unfold rowB at h
  simp only [Bool.and_eq_true, decide_eq_true_eq, List.all_eq_true] at h
  exact ⟨⟨h.1, h.2.1, fun z hz => h.2.2.1 z hz⟩, h.2.2.2⟩
theorem low_dec {R : List (List Str)} (l : R.length ≤ 60) (h : R.all rowB = true) : Low R := ⟨l, fun r m => rowB_ok (List.all_eq_true.mp h r m)⟩
theorem Low.take {R : List (List Str)} (h : Low R) (n : Nat) : Low (R.take n) := ⟨by have := h.few; rw [List.length_take]; omega, fun r m => h.each r (List.mem_of_mem_take m)⟩
theorem Low.drop {R : List (List Str)} (h : Low R) (n : Nat) : Low (R.drop n) := ⟨by have := h.few; rw [List.length_drop]; omega, fun r m => h.each r (List.mem_of_mem_drop m)⟩
theorem odd_low : oddW.all rowB = true := by decide +kernel
theorem heads_low : headsW.all rowB = true := by decide +kernel
theorem later_low : laterW.all rowB = true := by decide +kernel
theorem sheet_len (ts : List Int) (l : List (Str × Str)) (bs : List Str) : (sheetWs ts l bs).length = 1 + l.length + bs.length := by
  unfold sheetWs
  simp only [List.length_append, List.length_map, List.length_singleton]
theorem SheetOk.parts {ts : List Int} {l : List (Str × Str)} {bs : List Str} (h : SheetOk ts l bs) : Parts ts l bs := parts_good h.tp h.good h.gb
theorem SheetOk.len {ts : List Int} {l : List (Str × Str)} {bs : List Str} (h : SheetOk ts l bs) : (sheetWs ts l bs).length ≤ 22 ∧ bs.length ≤ 4 := by
  obtain ⟨_, _, _, lf, k, rfl⟩ := h
  have : (books4.drop k).length ≤ 4 := by
    rw [List.length_drop]
    have : books4.length = 4 := rfl
    omega
  rw [sheet_len]
  omega
theorem SheetOk.low {ts : List Int} {l : List (Str × Str)} {bs : List Str} (h : SheetOk ts l bs) : Low (sheetWs ts l bs) := by
  have hl := h.len
  have W := rows_w h.parts
  refine ⟨by omega, fun r m => ⟨W.each r m, ?_⟩⟩
  rcases mem_sheet m with rfl | ⟨e, he, rfl⟩ | ⟨z, hz, rfl⟩
  · rw [← head_words (List.length_pos_iff.mp h.tp.pos)]
    exact head_len h.tp
  · obtain ⟨a, _, c, _⟩ := h.good.one e he
    rw [← let_words]
    have := let_len a c
    omega
  · rw [← word_words]
    exact word_len (h.gb.small z hz).2
/-! ### where it is refused -/
theorem ok_like {R R1 : List (List Str)} {n : Nat} (h : ∀ i, i < n → R1[i]? = R[i]?) (ok : okTo R R.length) (le : n ≤ R.length) : okTo R1 n := fun i hi _ => by
  have g : ∀ j, j < n → R1.getD j [] = R.getD j [] := fun j hj => by rw [List.getD_eq_getElem?_getD, List.getD_eq_getElem?_getD, h j hj]
  have := ok i (by omega) (by omega)
  refine ⟨fun z => ?_, fun z => ?_⟩
  · rw [g 0 (by omega)]
    exact this.1 z
  · rw [g i hi, g (i - 1) (by omega)]
    exact this.2 z
theorem ref_at {R R1 : List (List Str)} {n : Nat} {o : List Str} (h : ∀ i, i < n → R1[i]? = R[i]?) (ok : okTo R R.length) (le : n ≤ R.length) (l30 : n ≤ 30) (pos : 0 < n) (e : R1[n]? = some o) (nv : never o = true) : RefT R1 n :=
  ⟨l30, (List.getElem?_eq_some_iff.mp e).1, ok_like h ok le, .inr ⟨pos, by rw [List.getD_eq_getElem?_getD, e, Option.getD_some]; exact never_next nv _⟩⟩
theorem ref_in {R later : List (List Str)} {n : Nat} {o : List Str} (ok : okTo R R.length) (le : n ≤ R.length) (l30 : n ≤ 30) (pos : 0 < n) (nv : never o = true) : RefT (R.take n ++ [o] ++ R.drop n ++ later) n := by
  have lt : (R.take n).length = n := by rw [List.length_take]; omega
  refine ref_at (R := R) (fun i hi => ?_) ok le l30 pos (o := o) ?_ nv
  · rw [List.append_assoc, List.append_assoc, List.getElem?_append_left (by omega), List.getElem?_take_of_lt hi]
  · rw [List.append_assoc, List.append_assoc, List.getElem?_append_right (by omega), lt, Nat.sub_self]
    rfl
theorem ref_x {R : List (List Str)} (ok : okTo R R.length) (l30 : R.length ≤ 30) (ne : R ≠ []) : RefT (R ++ xW) R.length :=
  ref_at (R := R) (fun i hi => List.getElem?_append_left hi) ok (Nat.le_refl _) l30 (List.length_pos_iff.mpr ne) (o := ["x"]) (by rw [List.getElem?_append_right (Nat.le_refl _), Nat.sub_self]; rfl) x_never
theorem ref_head {r : List Str} {R : List (List Str)} (h : isFirst r = false) : RefT ([r] ++ R) 0 := ⟨by omega, by simp, fun i hi => by omega, .inl ⟨rfl, h⟩⟩
theorem sheet_word (ts : List Int) (l : List (Str × Str)) (bs : List Str) (z : Str) : sheetWs ts l bs ++ [wordW z] = sheetWs ts l (bs ++ [z]) := by
  unfold sheetWs
  rw [List.map_append, List.append_assoc]
  rfl
theorem Parts.word {ts : List Int} {l : List (Str × Str)} {bs : List Str} (h : Parts ts l bs) (hb : bs.length ≤ 4) {z : Str} (w : WordOk z) : Parts ts l (bs ++ [z]) :=
  ⟨h.ne, h.few, h.all, h.lets, h.let_, by rw [List.length_append]; show bs.length + 1 ≤ 1000; omega, fun y m => (List.mem_append.mp m).elim (h.book y) fun m => by rw [List.mem_singleton.mp m]; exact w⟩
theorem Parts.letr {ts : List Int} {l : List (Str × Str)} {bs : List Str} (h : Parts ts l bs) (hb : l.length ≤ 17) {e : Str × Str} (w : WordOk e.1 ∧ WordOk e.2) : Parts ts (l ++ [e]) bs :=
  ⟨h.ne, h.few, h.all, by rw [List.length_append]; show l.length + 1 ≤ 60; omega, fun y m => (List.mem_append.mp m).elim (h.let_ y) fun m => by rw [List.mem_singleton.mp m]; exact w, h.bks, h.book⟩
theorem Parts.books {ts : List Int} {l : List (Str × Str)} {bs bs' : List Str} (h : Parts ts l bs) (hb : bs'.length ≤ 1000) (w : ∀ z ∈ bs', WordOk z) : Parts ts l bs' := ⟨h.ne, h.few, h.all, h.lets, h.let_, hb, w⟩
theorem Parts.lets' {ts : List Int} {l l' : List (Str × Str)} {bs : List Str} (h : Parts ts l bs) (hb : l'.length ≤ 60) (w : ∀ e ∈ l', WordOk e.1 ∧ WordOk e.2) : Parts ts l' bs := ⟨h.ne, h.few, h.all, hb, w, h.bks, h.book⟩
theorem Parts.tms {ts ts' : List Int} {l : List (Str × Str)} {bs : List Str} (h : Parts ts l bs) (n : ts' ≠ []) (f : ts'.length ≤ 25) (w : ∀ (i : Nat) (t : Int), ts'[i]? = some t → 1 ≤ t ∧ t ≤ 9999) : Parts ts' l bs := ⟨n, f, w, h.lets, h.let_, h.bks, h.book⟩
theorem parts_nil {ts : List Int} (n : ts ≠ []) (f : ts.length ≤ 25) (w : ∀ (i : Nat) (t : Int), ts[i]? = some t → 1 ≤ t ∧ t ≤ 9999) : Parts ts [] [] := ⟨n, f, w, by decide, (fun e m => by cases m), by decide, (fun e m => by cases m)⟩
def wordB (z : Str) : Bool := decide (z ≠ "") && (decide (z.length ≤ 1000) && (decide ((32 : Nat) ∉ TL.tl z) && decide ((10 : Nat) ∉ TL.tl z)))
theorem wordB_ok {z : Str} (h : wordB z = true) : WordOk z := by
  unfold wordB at h
  simp only [Bool.and_eq_true, decide_eq_true_eq] at h
  exact h
theorem w12 : ∀ (i : Nat) (t : Int), ([1, 2] : List Int)[i]? = some t → 1 ≤ t ∧ t ≤ 9999 := fun i t e => by
  have hm := List.mem_of_getElem? e
  simp only [List.mem_cons, List.not_mem_nil, or_false] at hm
  rcases hm with rfl | rfl <;> exact ⟨by decide, by decide⟩
theorem w1 : ∀ (i : Nat) (t : Int), ([1] : List Int)[i]? = some t → 1 ≤ t ∧ t ≤ 9999 := fun i t e => by
  have hm := List.mem_of_getElem? e
  simp only [List.mem_cons, List.not_mem_nil, or_false] at hm
  rcases hm with rfl
  exact ⟨by decide, by decide⟩
theorem good_nil : GoodT [] := ⟨by decide, (fun e m => by cases m), fun i j a b _ h => by cases h⟩
/-! ### the cases -/
structure CaseOk (R : List (List Str)) (word : Str) (i : Nat) (why : Str) : Prop where
  ne : R ≠ []
  low : Low R
  few : R.length ≤ 30
  ok : okTo R R.length
  how : (word = ("taps" : Str) ∧ RefM R ∧ i = 0 ∧ why = ("many" : Str)) ∨ (word = ("table" : Str) ∧ RefB R i why)
theorem case_of {R : List (List Str)} {word why : Str} {i : Nat} {ts : List Int} {l : List (Str × Str)} {bs : List Str} (e : R = sheetWs ts l bs) (pa : Parts ts l bs) (low : Low R) (few : R.length ≤ 30)
    (how : (word = ("taps" : Str) ∧ ts.length % 2 = 0 ∧ i = 0 ∧ why = ("many" : Str)) ∨ (word = ("table" : Str) ∧ Tps ts ∧ (BadT l i why ∨ (GoodT l ∧ BadB bs i why)))) : CaseOk R word i why := by
  subst e
  refine ⟨by unfold sheetWs; simp, low, few, ok_sheet pa, ?_⟩
  rcases how with ⟨a, b, c, d⟩ | ⟨a, b, c⟩
  · exact .inl ⟨a, ⟨ts, l, bs, rfl, pa, b⟩, c, d⟩
  · exact .inr ⟨a, ts, l, bs, rfl, pa, b, c⟩
variable {ts : List Int} {l : List (Str × Str)} {bs : List Str}
theorem low1 (L : List (List Str)) (l : L.length ≤ 60) (h : L.all rowB = true) : Low L := low_dec l h
theorem case_even (h : SheetOk ts l bs) : CaseOk (head12W ++ (sheetWs ts l bs).drop 1 ++ word1W) "taps" 0 "many" := by
  have hl := h.len
  have ll := sheet_len ts l bs
  refine case_of (ts := [1, 2]) (l := l) (bs := bs ++ [z1]) ?_ ((h.parts.tms (by simp) (by decide) w12).word hl.2 (wordB_ok (by decide +kernel))) ?_ ?_ (.inl ⟨rfl, by decide, rfl, rfl⟩)
  · rw [← sheet_word]
    rfl
  · refine Low.app (Low.app (low_dec (by decide) (by decide +kernel)) (h.low.drop 1) ?_) (low_dec (by decide) (by decide +kernel)) ?_
    · rw [List.length_drop]
      show 1 + _ ≤ 60
      omega
    · rw [List.length_append, List.length_drop]
      show 1 + _ + 1 ≤ 60
      omega
  · rw [List.length_append, List.length_append, List.length_drop]
    show 1 + _ + 1 ≤ 30
    omega
theorem case_letter (h : SheetOk ts l bs) : CaseOk ((sheetWs ts l bs).take (1 + l.length) ++ letAW) "table" l.length "letter" := by
  have hl := h.len
  have ll := sheet_len ts l bs
  have lf := h.few.1
  refine case_of (ts := ts) (l := l ++ [eA]) (bs := [z1]) ?_ ((h.parts.letr lf (e := eA) ⟨wordB_ok (by decide +kernel), wordB_ok (by decide +kernel)⟩).books (by decide) fun z m => by rw [List.mem_singleton.mp m]; exact wordB_ok (by decide +kernel)) ?_ ?_
    (.inr ⟨rfl, h.tp, .inl ⟨l, eA, rfl, rfl, h.good, by decide +kernel, by decide +kernel, .inl ⟨rfl, by decide +kernel⟩⟩⟩)
  · unfold sheetWs
    rw [List.take_append_of_le_length (by simp only [List.length_append, List.length_map, List.length_singleton]; omega), List.take_of_length_le (by simp only [List.length_append, List.length_map, List.length_singleton]; omega), List.map_append, List.append_assoc, List.append_assoc, List.append_assoc]
    rfl
  · refine Low.app (h.low.take _) (low_dec (by decide) (by decide +kernel)) ?_
    rw [List.length_take]
    show _ + 2 ≤ 60
    omega
  · rw [List.length_append, List.length_take]
    show _ + 2 ≤ 30
    omega
theorem case_word (h : SheetOk ts l bs) : CaseOk (sheetWs ts l bs ++ word1W) "table" bs.length "word" := by
  have hl := h.len
  have ll := sheet_len ts l bs
  refine case_of (ts := ts) (l := l) (bs := bs ++ [z1]) (sheet_word ts l bs z1) (h.parts.word hl.2 (wordB_ok (by decide +kernel))) ?_ ?_
    (.inr ⟨rfl, h.tp, .inr ⟨h.good, bs, z1, rfl, rfl, by omega, h.gb, by decide +kernel, .inl ⟨rfl, by decide +kernel⟩⟩⟩)
  · refine Low.app h.low (low_dec (by decide) (by decide +kernel)) ?_
    show _ + 1 ≤ 60
    omega
  · rw [List.length_append]
    show _ + 1 ≤ 30
    omega
theorem case_marks (h : SheetOk ts l bs) : CaseOk ((sheetWs ts l bs).take 1 ++ axW) "table" 0 "marks" := by
  refine case_of (ts := ts) (l := [eax]) (bs := []) ?_ ((h.parts.lets' (l' := [eax]) (by decide) fun e m => by rw [List.mem_singleton.mp m]; exact ⟨wordB_ok (by decide +kernel), wordB_ok (by decide +kernel)⟩).books (by decide) fun z m => by cases m) ?_ ?_
    (.inr ⟨rfl, h.tp, .inl ⟨[], eax, rfl, rfl, good_nil, by decide +kernel, by decide +kernel, .inr ⟨rfl, by decide +kernel, by decide +kernel⟩⟩⟩)
  · rfl
  · refine Low.app (h.low.take _) (low_dec (by decide) (by decide +kernel)) ?_
    rw [List.length_take]
    show _ + 1 ≤ 60
    omega
  · rw [List.length_append, List.length_take]
    show _ + 1 ≤ 30
    omega
theorem case_twice : CaseOk [["taps", "1"], ["word", "a"], ["word", "b"], ["word", "a"]] "table" 2 "twice" := by
  refine case_of (ts := [1]) (l := []) (bs := ["a", "b", "a"]) (by decide +kernel) ((parts_nil (ts := [1]) (by simp) (by decide) w1).books (by decide) fun z m => ?_) (low_dec (by decide) (by decide +kernel)) (by decide)
    (.inr ⟨rfl, ⟨by decide, by decide, w1⟩, .inr ⟨good_nil, ["a", "b"], "a", rfl, rfl, by decide, ⟨by decide, fun z m => ?_, ?_⟩, by decide +kernel, .inr ⟨rfl, by decide +kernel, by simp⟩⟩⟩)
  · simp only [List.mem_cons, List.not_mem_nil, or_false] at m
    rcases m with rfl | rfl | rfl <;> exact wordB_ok (by decide +kernel)
  · simp only [List.mem_cons, List.not_mem_nil, or_false] at m
    rcases m with rfl | rfl <;> exact ⟨by decide +kernel, by decide +kernel⟩
  · decide +kernel
theorem case_both : CaseOk [["taps", "1", "2"], ["letter", "a", "x"]] "taps" 0 "many" := by
  refine case_of (ts := [1, 2]) (l := [eax]) (bs := []) (by decide +kernel) ((parts_nil (ts := [1, 2]) (by simp) (by decide) w12).lets' (by decide) fun e m => ?_) (low_dec (by decide) (by decide +kernel)) (by decide) (.inl ⟨rfl, by decide, rfl, rfl⟩)
  rw [List.mem_singleton.mp m]
  exact ⟨wordB_ok (by decide +kernel), wordB_ok (by decide +kernel)⟩
theorem ref_after (h : SheetOk ts l bs) : RefT (sheetWs ts l bs ++ qW) ((sheetWs ts l bs).length + 1) := by
  have hl := h.len
  have pa : Parts ts l (bs ++ [zq]) := h.parts.word hl.2 (wordB_ok (by decide +kernel))
  have e : sheetWs ts l bs ++ qW = sheetWs ts l (bs ++ [zq]) ++ lqW := by
    rw [← sheet_word, List.append_assoc]
    rfl
  have el : (sheetWs ts l (bs ++ [zq])).length = (sheetWs ts l bs).length + 1 := by
    rw [← sheet_word, List.length_append]
    rfl
  rw [e, ← el]
  refine ⟨by omega, by rw [List.length_append]; show _ < _ + 1; omega, ok_like (R := sheetWs ts l (bs ++ [zq])) (fun i hi => List.getElem?_append_left hi) (ok_sheet pa) (Nat.le_refl _), .inr ⟨by omega, ?_⟩⟩
  have g1 : (sheetWs ts l (bs ++ [zq]) ++ lqW).getD (sheetWs ts l (bs ++ [zq])).length [] = lqW.getD 0 [] := by
    rw [List.getD_eq_getElem?_getD, List.getElem?_append_right (Nat.le_refl _), Nat.sub_self]
    rfl
  have g2 : (sheetWs ts l (bs ++ [zq]) ++ lqW).getD ((sheetWs ts l (bs ++ [zq])).length - 1) [] = wordW zq := by
    rw [List.getD_eq_getElem?_getD, List.getElem?_append_left (by omega), ← sheet_word, List.getElem?_append_right (by rw [List.length_append]; show _ ≤ _ + 1 - 1; omega), List.length_append]
    show [wordW zq][(sheetWs ts l bs).length + 1 - 1 - (sheetWs ts l bs).length]?.getD [] = _
    rw [Nat.add_sub_cancel, Nat.sub_self]
    rfl
  rw [g1, g2]
  decide +kernel
/-- the law's state -/
structure S17 (T : List Addr) (H : Hp) (d p pt pr pb r o h : Addr) (ys : List V) (ts : List Int) (l : List (Str × Str)) (bs : List Str) : Prop where
  dd : Dice H d
  tb : Tb T H
  ep : H p = some (.tup [.ref pt, .ref pr, .ref pb])
  epr : H pr = some (.lst ys)
  ly : ys.length = l.length
  epb : H pb = some (.lst (bs.map V.str))
  er : H r = some (.lst (tx (sheetWs ts l bs)))
  eo : H o = some (.lst (tx oddW))
  eh : H h = some (.lst (tx headsW))
  n : p ≠ d ∧ pr ≠ d ∧ pb ≠ d ∧ r ≠ d ∧ o ≠ d ∧ h ≠ d
theorem S17.ext {T : List Addr} {H H' : Hp} {d p pt pr pb r o h : Addr} {ys : List V} (s : S17 T H d p pt pr pb r o h ys ts l bs) (x : ExtT H H') (tb : Tb T H') : S17 T H' d p pt pr pb r o h ys ts l bs :=
  ⟨s.dd.ext x, tb, x _ _ s.ep (fun ps z => nomatch z), x _ _ s.epr (fun ps z => nomatch z), s.ly, x _ _ s.epb (fun ps z => nomatch z), x _ _ s.er (fun ps z => nomatch z), x _ _ s.eo (fun ps z => nomatch z), x _ _ s.eh (fun ps z => nomatch z), s.n⟩
theorem S17.same {T : List Addr} {H H' : Hp} {d p pt pr pb r o h : Addr} {ys : List V} (s : S17 T H d p pt pr pb r o h ys ts l bs) (x : Same H H') : S17 T H' d p pt pr pb r o h ys ts l bs := s.ext (ext_same x) (tb_same s.tb x)
theorem S17.kp {T : List Addr} {H H' : Hp} {d p pt pr pb r o h : Addr} {ys : List V} (s : S17 T H d p pt pr pb r o h ys ts l bs) (k : Kp d H H') (dd : Dice H' d) : S17 T H' d p pt pr pb r o h ys ts l bs :=
  ⟨dd, tb_kp s.tb k s.dd, k _ _ s.n.1 s.ep, k _ _ s.n.2.1 s.epr, s.ly, k _ _ s.n.2.2.1 s.epb, k _ _ s.n.2.2.2.1 s.er, k _ _ s.n.2.2.2.2.1 s.eo, k _ _ s.n.2.2.2.2.2 s.eh, s.n⟩
theorem tx_at {R : List (List Str)} {n : Nat} {r : List Str} (e : R[n]? = some r) : (tx R)[n]? = some (V.str (Txt.join " " r)) := by
  unfold tx
  rw [List.getElem?_map, List.getElem?_map, e]
  rfl
theorem tx_one (r : List Str) : tx [r] = [V.str (Txt.join " " r)] := rfl
/-- a case at v, off d and L -/
def CaseV (H : Hp) (d L : Addr) (v : V) : Prop := ∃ (c a p : Addr) (R : List (List Str)) (word why : Str) (i : Nat), v = .ref c ∧ H c = some (.tup [.ref a, .str word, .ref p]) ∧ H a = some (.lst (tx R)) ∧ H p = some (.tup [.int i, .str why]) ∧ CaseOk R word i why ∧ (a ≠ d ∧ c ≠ d ∧ p ≠ d) ∧ a ≠ L ∧ c ≠ L ∧ p ≠ L
theorem CaseV.same {H H' : Hp} {d L : Addr} {v : V} (h : CaseV H d L v) (s : Same H H') : CaseV H' d L v := by
  obtain ⟨c, a, p, R, word, why, i, e, e1, e2, e3, r⟩ := h
  exact ⟨c, a, p, R, word, why, i, e, s _ _ e1, s _ _ e2, s _ _ e3, r⟩
theorem CaseV.put {H : Hp} {d L : Addr} {v : V} {o : HO} (h : CaseV H d L v) : CaseV (upd H L o) d L v := by
  obtain ⟨c, a, p, R, word, why, i, e, e1, e2, e3, ok, n, n1, n2, n3⟩ := h
  exact ⟨c, a, p, R, word, why, i, e, by rw [upd_ne n2]; exact e1, by rw [upd_ne n1]; exact e2, by rw [upd_ne n3]; exact e3, ok, n, n1, n2, n3⟩
theorem CaseV.kp {H H' : Hp} {d L : Addr} {v : V} (h : CaseV H d L v) (k : Kp d H H') : CaseV H' d L v := by
  obtain ⟨c, a, p, R, word, why, i, e, e1, e2, e3, ok, n, r⟩ := h
  exact ⟨c, a, p, R, word, why, i, e, k _ _ n.2.1 e1, k _ _ n.1 e2, k _ _ n.2.2 e3, ok, n, r⟩
def twiceW : List (List Str) := [["taps", "1"], ["word", "a"], ["word", "b"], ["word", "a"]]
def bothW : List (List Str) := [["taps", "1", "2"], ["letter", "a", "x"]]
theorem q_tx : [V.str "word q", V.str "letter q ------"] = tx qW := by decide +kernel
theorem head12_tx : [V.str "taps 1 2"] = tx head12W := by decide +kernel
theorem word1_tx : [V.str "word 1"] = tx word1W := by decide +kernel
theorem letA_tx : [V.str "letter A .", V.str "word 1"] = tx letAW := by decide +kernel
theorem ax_tx : [V.str "letter a x"] = tx axW := by decide +kernel
theorem x_tx : [V.str "x"] = tx xW := by decide +kernel
theorem twice_tx : [V.str "taps 1", V.str "word a", V.str "word b", V.str "word a"] = tx twiceW := by decide +kernel
theorem both_tx : [V.str "taps 1 2", V.str "letter a x"] = tx bothW := by decide +kernel
theorem cut_1 {R : List (List Str)} (h : 1 ≤ R.length) : cutV (tx R) (some 1) none = tx (R.drop 1) := by
  have := cut_fromN (tx R) (i := 1) (by rw [tx_len]; exact h)
  rw [tx_drop] at this
  exact this
theorem cut_t {R : List (List Str)} {n : Nat} (h : n ≤ R.length) : cutV (tx R) none (some (n : Int)) = tx (R.take n) := by
  rw [cut_to _ (by rw [tx_len]; exact h), tx_take]
/-- a case made before L -/
def CaseA (H : Hp) (d c : Addr) : Prop := ∃ (a p : Addr) (R : List (List Str)) (word why : Str) (i : Nat), H c = some (.tup [.ref a, .str word, .ref p]) ∧ H a = some (.lst (tx R)) ∧ H p = some (.tup [.int i, .str why]) ∧ CaseOk R word i why ∧ a ≠ d ∧ c ≠ d ∧ p ≠ d
theorem CaseA.same {H H' : Hp} {d c : Addr} (h : CaseA H d c) (s : Same H H') : CaseA H' d c := by
  obtain ⟨a, p, R, word, why, i, e1, e2, e3, r⟩ := h
  exact ⟨a, p, R, word, why, i, s _ _ e1, s _ _ e2, s _ _ e3, r⟩
theorem CaseA.toV {H : Hp} {d c L : Addr} {o : HO} (h : CaseA H d c) (n : H L = none) : CaseV (upd H L o) d L (.ref c) := by
  obtain ⟨a, p, R, word, why, i, e1, e2, e3, ok, r⟩ := h
  have s := sm (o := o) n
  exact ⟨c, a, p, R, word, why, i, rfl, s _ _ e1, s _ _ e2, s _ _ e3, ok, r, ne_of_none e2 n, ne_of_none e1 n, ne_of_none e3 n⟩
structure SomeC (T : List Addr) (H : Hp) (d L : Addr) (vs : List V) (n : Nat) : Prop where
  dd : Dice H d
  tb : Tb T H
  eL : H L = some (.lst vs)
  len : vs.length = n
  all : ∀ v ∈ vs, CaseV H d L v
  nL : L ≠ d
theorem SomeC.same {T : List Addr} {H H' : Hp} {d L : Addr} {vs : List V} {n : Nat} (h : SomeC T H d L vs n) (s : Same H H') : SomeC T H' d L vs n := ⟨h.dd.same s, tb_same h.tb s, s _ _ h.eL, h.len, fun v m => (h.all v m).same s, h.nL⟩
theorem SomeC.kp {T : List Addr} {H H' : Hp} {d L : Addr} {vs : List V} {n : Nat} (h : SomeC T H d L vs n) (k : Kp d H H') (dd : Dice H' d) : SomeC T H' d L vs n := ⟨dd, tb_kp h.tb k h.dd, k _ _ h.nL h.eL, h.len, fun v m => (h.all v m).kp k, h.nL⟩
theorem SomeC.add {T : List Addr} {H : Hp} {d L : Addr} {vs : List V} {n : Nat} {v : V} (h : SomeC T H d L vs n) (c : CaseV H d L v) : SomeC T (upd H L (.lst (vs ++ [v]))) d L (vs ++ [v]) (n + 1) :=
  ⟨h.dd.put h.nL, tb_put h.tb h.eL (fun ps z => nomatch z), upd_same, by rw [List.length_append, h.len]; rfl, fun u m => ((List.mem_append.mp m).elim (h.all u) fun m => by rw [List.mem_singleton.mp m]; exact c).put, h.nL⟩
theorem cut_t1 {R : List (List Str)} (h : 1 ≤ R.length) : cutV (tx R) none (some 1) = tx (R.take 1) := cut_t (n := 1) h
theorem CaseOk.refd {R : List (List Str)} {word why : Str} {i : Nat} {p : Addr} {H : Hp} (h : CaseOk R word i why) (e : H p = some (.tup [.int i, .str why])) :
    (word = ("text" : Str) ∧ ∃ j : Nat, V.ref p = .int j ∧ RefT R j) ∨ (word = ("taps" : Str) ∧ RefM R ∧ ∃ q, V.ref p = .ref q ∧ H q = some (.tup [.int 0, .str "many"])) ∨
    (word = ("table" : Str) ∧ ∃ (j : Nat) (y : Str) (q : Addr), V.ref p = .ref q ∧ RefB R j y ∧ H q = some (.tup [.int j, .str y])) := by
  rcases h.how with ⟨a, b, c, d⟩ | ⟨a, b⟩
  · subst c
    subst d
    exact .inr (.inl ⟨a, b, p, rfl, e⟩)
  · exact .inr (.inr ⟨a, i, why, p, rfl, b, e⟩)
end KT
namespace KT
open PySem PySem.Spec PyProof.Rows L2
/-! ### the text by places -/
def topS (i : Nat) : Stmt := PySem.Challenge.pw_keyedtime_k17_texts_refused.main.body.getD i (.Pass ⟨0, 0, 0, 0⟩)
abbrev sBadTaps___init__ : Stmt := inClass (topS 2) 0
abbrev sBadTable___init__ : Stmt := inClass (topS 5) 0
abbrev sBadText___init__ : Stmt := inClass (topS 7) 0
abbrev scheck_times : Stmt := topS 12
abbrev sTaps___init__ : Stmt := inClass (topS 13) 0
abbrev sTaps_times : Stmt := inClass (topS 13) 1
abbrev sis_small : Stmt := topS 18
abbrev sis_marks : Stmt := topS 19
abbrev scheck_table : Stmt := topS 20
abbrev sTable___init__ : Stmt := inClass (topS 21) 0
abbrev sTable_letters : Stmt := inClass (topS 21) 1
abbrev scheck_book : Stmt := topS 23
abbrev sis_number : Stmt := topS 27
abbrev sis_first_row : Stmt := topS 28
abbrev sis_next_row : Stmt := topS 29
abbrev scheck_sheet : Stmt := topS 30
abbrev sread : Stmt := topS 31
abbrev s_law_dice : Stmt := topS 33
abbrev s_law_off : Stmt := topS 34
abbrev s_law_alike : Stmt := topS 35
abbrev s_law_kinds : Stmt := topS 36
abbrev s_law_reading : Stmt := topS 37
abbrev s_law_times : Stmt := topS 38
abbrev s_law_is : Stmt := topS 39
abbrev s_law_table : Stmt := topS 40
abbrev s_law_lines : Stmt := topS 41
abbrev s_law_sheet : Stmt := topS 42
abbrev s_law_refused : Stmt := topS 43
abbrev slaw : Stmt := topS 44
theorem scBadTaps___init__ : FnScope ["self", "at", "why"] ["self", "at", "why"] (defScope sBadTaps___init__) := ⟨rfl, rfl, rfl, by decide +kernel, rfl, by decide +kernel, by decide +kernel⟩
theorem scBadTable___init__ : FnScope ["self", "at", "why"] ["self", "at", "why"] (defScope sBadTable___init__) := ⟨rfl, rfl, rfl, by decide +kernel, rfl, by decide +kernel, by decide +kernel⟩
theorem scBadText___init__ : FnScope ["self", "row"] ["self", "row"] (defScope sBadText___init__) := ⟨rfl, rfl, rfl, by decide +kernel, rfl, by decide +kernel, by decide +kernel⟩
theorem sccheck_times : FnScope ["times", "many", "at", "time"] ["times"] (defScope scheck_times) := ⟨rfl, rfl, rfl, by decide +kernel, rfl, by decide +kernel, by decide +kernel⟩
theorem scTaps___init__ : FnScope ["self", "times"] ["self", "times"] (defScope sTaps___init__) := ⟨rfl, rfl, rfl, by decide +kernel, rfl, by decide +kernel, by decide +kernel⟩
theorem scTaps_times : FnScope ["self"] ["self"] (defScope sTaps_times) := ⟨rfl, rfl, rfl, by decide +kernel, rfl, by decide +kernel, by decide +kernel⟩
theorem scis_small : FnScope ["text", "sign"] ["text"] (defScope sis_small) := ⟨rfl, rfl, rfl, by decide +kernel, rfl, by decide +kernel, by decide +kernel⟩
theorem scis_marks : FnScope ["text", "sign"] ["text"] (defScope sis_marks) := ⟨rfl, rfl, rfl, by decide +kernel, rfl, by decide +kernel, by decide +kernel⟩
theorem sccheck_table : FnScope ["rows", "seen", "at", "letter", "marks"] ["rows"] (defScope scheck_table) := ⟨rfl, rfl, rfl, by decide +kernel, rfl, by decide +kernel, by decide +kernel⟩
theorem scTable___init__ : FnScope ["self", "rows"] ["self", "rows"] (defScope sTable___init__) := ⟨rfl, rfl, rfl, by decide +kernel, rfl, by decide +kernel, by decide +kernel⟩
theorem scTable_letters : FnScope ["self"] ["self"] (defScope sTable_letters) := ⟨rfl, rfl, rfl, by decide +kernel, rfl, by decide +kernel, by decide +kernel⟩
theorem sccheck_book : FnScope ["book", "seen", "at", "word"] ["book"] (defScope scheck_book) := ⟨rfl, rfl, rfl, by decide +kernel, rfl, by decide +kernel, by decide +kernel⟩
theorem scis_number : FnScope ["word", "sign"] ["word"] (defScope sis_number) := ⟨rfl, rfl, rfl, by decide +kernel, rfl, by decide +kernel, by decide +kernel⟩
theorem scis_first_row : FnScope ["row", "word"] ["row"] (defScope sis_first_row) := ⟨rfl, rfl, rfl, by decide +kernel, rfl, by decide +kernel, by decide +kernel⟩
theorem scis_next_row : FnScope ["row", "ahead"] ["row", "ahead"] (defScope sis_next_row) := ⟨rfl, rfl, rfl, by decide +kernel, rfl, by decide +kernel, by decide +kernel⟩
theorem sccheck_sheet : FnScope ["rows", "at"] ["rows"] (defScope scheck_sheet) := ⟨rfl, rfl, rfl, by decide +kernel, rfl, by decide +kernel, by decide +kernel⟩
theorem scread : FnScope ["text", "rows", "taps", "table", "book", "row", "word"] ["text"] (defScope sread) := ⟨rfl, rfl, rfl, by decide +kernel, rfl, by decide +kernel, by decide +kernel⟩
theorem sc_law_dice : FnScope ["_law_script", "_law_k", "_law_found", "_law_cell"] ["_law_script", "_law_k"] (defScope s_law_dice) := ⟨rfl, rfl, rfl, by decide +kernel, rfl, by decide +kernel, by decide +kernel⟩
theorem sc_law_off : FnScope ["_law_d", "_law_most", "_law_found"] ["_law_d", "_law_most"] (defScope s_law_off) := ⟨rfl, rfl, rfl, by decide +kernel, rfl, by decide +kernel, by decide +kernel⟩
theorem sc_law_alike : FnScope ["_law_found", "_law_due", "_law_name", "_law_k"] ["_law_found", "_law_due"] (defScope s_law_alike) := ⟨rfl, rfl, rfl, by decide +kernel, rfl, by decide +kernel, by decide +kernel⟩
theorem sc_law_kinds : FnScope ["_law_at"] ["_law_at"] (defScope s_law_kinds) := ⟨rfl, rfl, rfl, by decide +kernel, rfl, by decide +kernel, by decide +kernel⟩
theorem sc_law_reading : FnScope ["_law_d", "_law_many", "_law_at"] ["_law_d", "_law_many"] (defScope s_law_reading) := ⟨rfl, rfl, rfl, by decide +kernel, rfl, by decide +kernel, by decide +kernel⟩
theorem sc_law_times : FnScope ["_law_d", "_law_most", "_law_many", "_law_reading_here", "_law_unit", "_law_shake", "_law_times_here", "_law_at", "_law_k", "_law_time"] ["_law_d", "_law_most"] (defScope s_law_times) := ⟨rfl, rfl, rfl, by decide +kernel, rfl, by decide +kernel, by decide +kernel⟩
theorem sc_law_is : FnScope ["_law_e", "_law_word", "_law_kinds_here", "_law_words", "_law_one"] ["_law_e", "_law_word"] (defScope s_law_is) := ⟨rfl, rfl, rfl, by decide +kernel, rfl, by decide +kernel, by decide +kernel⟩
theorem sc_law_table : FnScope ["_law_d", "_law_letters", "_law_turn", "_law_marks", "_law_left", "_law_rows", "_law_k"] ["_law_d"] (defScope s_law_table) := ⟨rfl, rfl, rfl, by decide +kernel, rfl, by decide +kernel, by decide +kernel⟩
theorem sc_law_lines : FnScope ["_law_sheet_here", "_law_rows", "_law_time", "_law_letter", "_law_marks", "_law_word"] ["_law_sheet_here"] (defScope s_law_lines) := ⟨rfl, rfl, rfl, by decide +kernel, rfl, by decide +kernel, by decide +kernel⟩
theorem sc_law_sheet : FnScope ["_law_d", "_law_rows"] ["_law_d"] (defScope s_law_sheet) := ⟨rfl, rfl, rfl, by decide +kernel, rfl, by decide +kernel, by decide +kernel⟩
theorem sc_law_refused : FnScope ["_law_rows", "_law_word", "_law_due", "_law_e"] ["_law_rows", "_law_word", "_law_due"] (defScope s_law_refused) := ⟨rfl, rfl, rfl, by decide +kernel, rfl, by decide +kernel, by decide +kernel⟩
theorem sclaw : FnScope ["_law_script", "_law_d", "_law_sheet_here", "_law_rows", "_law_odd", "_law_heads", "_law_at", "_law_later", "_law_even", "_law_marks", "_law_some", "_law_bad"] ["_law_script"] (defScope slaw) := ⟨rfl, rfl, rfl, by decide +kernel, rfl, by decide +kernel, by decide +kernel⟩
end KT
namespace KT
open PySem PySem.Spec PyProof.Rows L2
section
variable {P : Program} {w : World} {K : PySem.W.Frag} {mg : Str → Option Value} {base : Heap}
theorem ok_law_dice (S : Src K mg "_law_dice" s_law_dice) (m_abs : mg "abs" = none) : KDef P w K mg base CX0 1 "_law_dice" ["_law_script", "_law_k"] (spDice K) := by
  refine S.ok sc_law_dice (fun _ _ _ _ _ _ us hl => match us, hl with | [_, _], _ => rfl) (fun vs H Q E h => ?_) (fun f cdv A outer s H vs Q E hr h => ?_)
  · obtain ⟨a, ns, rfl, _⟩ := h
    rfl
  · obtain ⟨a, ns, rfl, hS, hlen, q⟩ := h
    refine ⟨_, (pss_cons (ps_set (i := 2) sc_law_dice.nd rfl (.inl rfl) (pv 1))
      (pss_cons (ps_for PassesOwn.never rfl (pi_listK (K := K) rfl (pv 0)) (pg_name (i := 3) sc_law_dice.nd rfl (.inl rfl))
      (pss_one (ps_set (i := 2) sc_law_dice.nd rfl (.inl rfl) (pe_op op_mod (pe_op op_add (pe_op op_mul (pv 2) pe_int) (pe_callB call_abs (by rfl) m_abs (by decide +kernel) (pa_cons (pv 3) pa_nil))) pe_int))))
      (pss_one (ps_ret (pe_op op_cat (pe_lst (pa_cons (pv 2) (pa_cons pe_int pa_nil))) (pe_lc (own := [("_law_cell", 3)]) (g := gName 3) rfl sc_law_dice.nd (pi_listK (K := K) rfl (pv 0)) (blkOk_by (own := [("_law_cell", 3)]) (N := ["_law_script", "_law_k", "_law_found", "_law_cell"]) (sc := defScope s_law_dice) (by decide +kernel)) (fun _ _ _ _ _ => (pg_name (i := 3) sc_law_dice.nd rfl (.inl rfl) (.inr rfl))) (fun _ _ _ _ _ => (pts_one (pt_cmpR op_ge (pv 3) (pe_op op_pow pe_int pe_int) (nomark _)))) (fun _ _ _ _ _ => (pv 3)))))))), ?_⟩
    refine ⟨_, rfl, _, rfl, a, rfl, ⟨_, hS⟩, for_list (K := K) (a := a) (xs := ns.map V.int) (fun i σ H2 => ∃ (g : Int) (v : Option V), σ = [some (.ref a), some (.int 0), some (.int g), v] ∧ 0 ≤ g ∧ g < 2147483647 ∧ H2 = H)
      ⟨0, none, rfl, by decide, by decide, rfl⟩ (fun i σ H2 _ ⟨_, _, _, _, _, e⟩ => e ▸ hS) ?_ ?_⟩
    · rintro i y σ H2 hi ⟨g, v, rfl, g0, g1, rfl⟩
      obtain ⟨z, rfl⟩ := int_of hi
      refine ⟨_, rfl, _, _, rfl, rfl, .inl ⟨by omega, by omega⟩, _, rfl, _, rfl, _, _, rfl, rfl, _, _, rfl, rfl, by show (0 : Int) < 2147483647; decide, ?_⟩
      exact ⟨_, _, rfl, Int.emod_nonneg _ (by decide), Int.emod_lt_of_pos _ (by decide), rfl⟩
    · rintro σ H2 ⟨g, v, rfl, g0, g1, rfl⟩
      refine ⟨_, rfl, lz (by show 2 ≤ 1000000; decide), fun p np => ?_⟩
      refine ⟨_, rfl, a, rfl, ⟨_, (sm np).seq hS⟩, fun D nD => lc_list (K := K) (a := a) (xs := ns.map V.int) (fun i H3 => ∃ zs : List Int, H3 D = some (.lst (zs.map V.int)) ∧ zs.length ≤ i ∧ (∀ z ∈ zs, 0 ≤ z) ∧ H3 p = some (.lst [.int g, .int 0]) ∧ Same H2 H3)
        ⟨[], upd_same, Nat.le_refl _, List.forall_mem_nil _, by rw [upd_ne (ne_of_none upd_same nD), upd_same], (sm np).trans (sm nD)⟩ (fun i H3 _ ⟨_, _, _, _, _, s3⟩ => s3.seq hS) ?_ ?_⟩
      · rintro i y H3 hi ⟨zs, hD, hl, hz, hp, s3⟩
        have hil := (List.getElem?_eq_some_iff.mp hi).1
        rw [List.length_map] at hil
        obtain ⟨z, rfl⟩ := int_of hi
        have npD : p ≠ D := ne_of_none upd_same nD
        refine ⟨rfl, _, rfl, _, _, rfl, rfl, ⟨by decide, by decide, by decide⟩, _, _, rfl, rfl, _, rfl, ite2 (fun e => ?_) (fun _ => ⟨zs, hD, Nat.le_succ_of_le hl, hz, hp, s3⟩)⟩
        have z0 : (0 : Int) ≤ z := Int.le_trans (by decide) (of_decide_eq_true e)
        refine ⟨_, rfl, _, hD, lz' (by rw [List.length_map]; omega), ⟨zs ++ [z], by rw [upd_same, List.map_append]; rfl, by rw [List.length_append]; exact Nat.succ_le_succ hl, fun u hu => ?_, by rw [upd_ne npD]; exact hp, fun b o e => ?_⟩⟩
        · rcases List.mem_append.mp hu with hu | hu
          · exact hz u hu
          · rw [List.mem_singleton.mp hu]
            exact z0
        · rw [upd_ne (ne_of_none ((sm np) _ _ e) nD)]
          exact s3 _ _ e
      · rintro H3 ⟨zs, hD, hl, hz, hp, s3⟩
        rw [List.length_map] at hl
        refine ⟨_, _, _, _, rfl, rfl, hp, hD, lz (by rw [List.length_map]; show 2 + zs.length ≤ _; omega), fun r nr => ?_⟩
        exact q r _ (s3.free nr) (s3.trans (sm nr)) ⟨g, 0, zs, upd_same, g0, g1, Int.le_refl _, hz, by omega⟩
end
end KT
namespace KT
open PySem PySem.Spec PyProof.Rows L2
section
variable {P : Program} {w : World} {K : PySem.W.Frag} {mg : Str → Option Value} {base : Heap}
theorem ok_law_off (S : Src K mg "_law_off" s_law_off) (m_len : mg "len" = none) : KDef P w K mg base CX0 1 "_law_off" ["_law_d", "_law_most"] spOff := by
  refine S.ok sc_law_off (fun _ _ _ _ _ _ us hl => match us, hl with | [_, _], _ => rfl) (fun vs H Q E h => ?_) (fun f cdv A outer s H vs Q E hr h => ?_)
  · obtain ⟨d, m, rfl, _⟩ := h
    rfl
  · obtain ⟨d, m, rfl, ⟨x, y, zs, hd, hx, hx2, hy, hz, hl⟩, hm, hm2, q⟩ := h
    refine ⟨_, (C8.pss_cut (ps_if (PW.pt (pw_and (pt_cmpR op_eq (pe_ix (ix_listK (K := K) rfl) (pv 0) pe_int (fun _ _ => rfl)) pe_int (nomark _)) (pw_and1 (pt_cmpR op_gt (pe_callB (call_len_seqK (K := K) rfl) (by rfl) m_len (by decide +kernel) (pa_cons (pv 0) pa_nil)) pe_int (nomark _)))))
      (pss_one (ps_asg (pe_bm PySem.F.plainAttrs_list PySem.F.slot_list_pop PySem.F.type_list_pop mt_popAt (pv 0) (pa_cons pe_int pa_nil)) (pg_sub (pv 0) pe_int set_list)))
      pss_nil)
      (pss_cons (ps_if (pt_cmpR op_gt (pe_ix (ix_listK (K := K) rfl) (pv 0) pe_int (fun _ _ => rfl)) pe_int (nomark _))
      (pss_cons (ps_set (i := 2) sc_law_off.nd rfl (.inl rfl) (pe_op op_mod (pe_ix (ix_listK (K := K) rfl) (pv 0) pe_int (fun _ _ => rfl)) (pv 1)))
      (pss_cons (ps_asg (pe_op op_fdiv (pe_ix (ix_listK (K := K) rfl) (pv 0) pe_int (fun _ _ => rfl)) (pv 1)) (pg_sub (pv 0) pe_int set_list))
      (pss_one (ps_ret (pv 2)))))
      pss_nil)
      (pss_cons (ps_asg (pe_op op_mod (pe_op op_add (pe_op op_mul (pe_ix (ix_listK (K := K) rfl) (pv 0) pe_int (fun _ _ => rfl)) pe_int) pe_int) pe_int) (pg_sub (pv 0) pe_int set_list))
      (pss_one (ps_ret (pe_op op_mod (pe_op op_fdiv (pe_ix (ix_listK (K := K) rfl) (pv 0) pe_int (fun _ _ => rfl)) pe_int) (pv 1))))))), ?_⟩
    refine ⟨fun σ1 H1 => σ1 = [some (.ref d), some (.int m), none] ∧ Dice H1 d ∧ Kp d H H1, ?_, ?_⟩
    · -- a great number is taken up
      refine ⟨.ref d, rfl, _, _, _, _, rfl, rfl, SqL.of hd, aI (by decide) rfl, rfl, _, rfl, ite2 (fun e => ?_) (fun _ => ?_)⟩
      · refine ⟨.ref d, rfl, d, _, rfl, .inl (SqL.of hd), _, _, rfl, rfl, _, rfl, ite2 (fun e2 => ?_) (fun _ => ⟨rfl, ⟨x, y, zs, hd, hx, hx2, hy, hz, hl⟩, Kp.refl d H⟩)⟩
        cases zs with
        | nil => exact absurd (of_decide_eq_true e2) (by show ¬ ((2 : Int) < ((2 : Nat) : Int)); decide)
        | cons z zs =>
          refine ⟨.ref d, rfl, ty_list hd, _, _, _, _, V.int z, rfl, rfl, hd, by decide, by decide, pI (by decide) (by simp; omega), rfl, ?_⟩
          refine ⟨.ref d, rfl, _, _, _, _, rfl, rfl, upd_same, sI (by decide) (by simp; omega), ?_⟩
          refine ⟨rfl, ⟨x, z, zs, ?_, hx, hx2, hz z List.mem_cons_self, fun u hu => hz u (List.mem_cons_of_mem _ hu), by simp at hl; omega⟩, fun b o n hb => ?_⟩
          · rw [upd_upd, upd_same]
            rfl
          · rw [upd_upd, upd_ne n]
            exact hb
      · exact ⟨rfl, ⟨x, y, zs, hd, hx, hx2, hy, hz, hl⟩, Kp.refl d H⟩
    · rintro σ1 H1 ⟨rfl, ⟨x, y, zs, hd, hx, hx2, hy, hz, hl⟩, k1⟩
      refine ⟨.ref d, rfl, _, _, _, _, rfl, rfl, SqL.of hd, aI (by decide) rfl, _, _, rfl, rfl, _, rfl, ite2 (fun e => ?_) (fun _ => ?_)⟩
      · have hy' : 0 < y := of_decide_eq_true e
        refine ⟨.ref d, rfl, _, _, _, _, rfl, rfl, SqL.of hd, aI (by decide) rfl, _, rfl, _, _, rfl, rfl, hm, ?_⟩
        refine ⟨.ref d, rfl, _, _, _, _, rfl, rfl, SqL.of hd, aI (by decide) rfl, _, rfl, _, _, rfl, rfl, ⟨hm, hm2⟩, ?_⟩
        refine ⟨.ref d, rfl, _, _, _, _, rfl, rfl, hd, sI (by decide) (by simp; omega), ?_⟩
        refine ⟨_, rfl, q (y % m) _ (Int.emod_nonneg y (by omega)) (Int.emod_lt_of_pos y hm) ⟨x, y / m, zs, upd_same, hx, hx2, Int.ediv_nonneg hy (by omega), hz, hl⟩ (k1.trans (Kp.at (H1 := H1)))⟩
      · refine ⟨.ref d, rfl, _, _, _, _, rfl, rfl, SqL.of hd, aI (by decide) rfl, _, _, rfl, rfl, .inl ⟨by omega, by omega⟩, _, _, rfl, rfl, _, _, rfl, rfl, by show (0 : Int) < 2147483647; decide, ?_⟩
        refine ⟨.ref d, rfl, _, _, _, _, rfl, rfl, hd, sI (by decide) (by simp; omega), ?_⟩
        refine ⟨.ref d, rfl, _, _, _, _, rfl, rfl, SqL.of upd_same, aI (by decide) rfl, _, _, rfl, rfl, ⟨by decide, by decide⟩, _, rfl, _, _, rfl, rfl, hm, ?_⟩
        have g1 : 0 ≤ (x * 48271 + 11) % 2147483647 := Int.emod_nonneg _ (by decide)
        have g2 : (x * 48271 + 11) % 2147483647 < 2147483647 := Int.emod_lt_of_pos _ (by decide)
        exact q _ _ (Int.emod_nonneg _ (by omega)) (Int.emod_lt_of_pos _ hm) ⟨_, y, zs, upd_same, g1, g2, hy, hz, hl⟩ (k1.trans (Kp.at (H1 := H1)))
end
end KT
namespace KT
open PySem PySem.Spec PyProof.Rows L2
section
variable {P : Program} {w : World} {K : PySem.W.Frag} {mg : Str → Option Value} {base : Heap}
theorem ok_law_kinds (S : Src K mg "_law_kinds" s_law_kinds) : KDef P w K mg base CX0 1 "_law_kinds" ["_law_at"] spKinds := by
  refine S.ok sc_law_kinds (fun _ _ _ _ _ _ us hl => match us, hl with | [_], _ => rfl) (fun vs H Q E h => ?_) (fun f cdv A outer s H vs Q E hr h => ?_)
  · obtain ⟨n, rfl, _⟩ := h
    rfl
  · obtain ⟨n, rfl, q⟩ := h
    refine ⟨_, (pss_one (ps_ret (pe_ix (ix_listK (K := K) rfl) (pe_lst (pa_cons (pe_lst (pa_cons pe_int (pa_cons pe_int pa_nil))) (pa_cons (pe_lst (pa_cons pe_int (pa_cons pe_int (pa_cons pe_int pa_nil)))) pa_nil))) (pe_op op_mod (pv 0) pe_int) (fun _ _ => rfl)))), ?_⟩
    refine ⟨lz (by show 2 ≤ 1000000; decide), fun p np => ?_⟩
    refine ⟨lz (by show 3 ≤ 1000000; decide), fun r nr => ?_⟩
    refine ⟨lz (by show 2 ≤ 1000000; decide), fun l nl => ?_⟩
    have s1 : Same H (upd (upd H p (.lst [.int 1, .int 3])) r (.lst [.int 1, .int 3, .int 7])) := (sm np).trans (sm nr)
    have s2 := s1.trans (sm (o := .lst [.ref p, .ref r]) nl)
    have hp : (upd (upd H p (.lst [.int 1, .int 3])) r (.lst [.int 1, .int 3, .int 7])) p = some (.lst [.int 1, .int 3]) := by rw [upd_ne (ne_of_none upd_same nr), upd_same]
    have hp2 : (upd (upd (upd H p (.lst [.int 1, .int 3])) r (.lst [.int 1, .int 3, .int 7])) l (.lst [.ref p, .ref r])) p = some (.lst [.int 1, .int 3]) := sm nl _ _ hp
    have hr2 : (upd (upd (upd H p (.lst [.int 1, .int 3])) r (.lst [.int 1, .int 3, .int 7])) l (.lst [.ref p, .ref r])) r = some (.lst [.int 1, .int 3, .int 7]) := sm nl _ _ upd_same
    have nr' : H r = none := (sm np).free nr
    refine ⟨_, rfl, _, _, rfl, rfl, by show (0 : Int) < 2; decide, ?_⟩
    rcases par n with e | e
    · refine ⟨_, _, _, .ref p, rfl, rfl, SqL.of upd_same, by rw [e]; exact aI (by decide) rfl, q p _ np s2 ?_⟩
      rw [hp2, kinds_even e]
      rfl
    · refine ⟨_, _, _, .ref r, rfl, rfl, SqL.of upd_same, by rw [e]; exact aI (by decide) rfl, q r _ nr' s2 ?_⟩
      rw [hr2, kinds_odd e]
      rfl
end
end KT
namespace KT
open PySem PySem.Spec PyProof.Rows L2
section
variable {P : Program} {w : World} {K : PySem.W.Frag} {mg : Str → Option Value} {base : Heap}
theorem ok_law_reading (S : Src K mg "_law_reading" s_law_reading) (m_range : mg "range" = none) (G_law_kinds : KDef P w K mg base CX0 1 "_law_kinds" ["_law_at"] spKinds)
    (G_law_off : KDef P w K mg base CX0 1 "_law_off" ["_law_d", "_law_most"] spOff) : KDef P w K mg base CX0 2 "_law_reading" ["_law_d", "_law_many"] spReading := by
  refine S.ok sc_law_reading (fun _ _ _ _ _ _ us hl => match us, hl with | [_, _], _ => rfl) (fun vs H Q E h => ?_) (fun f cdv A outer s H vs Q E hr h => ?_)
  · obtain ⟨d, n, rfl, _⟩ := h
    rfl
  · obtain ⟨d, n, rfl, hd, n0, n1, q⟩ := h
    refine ⟨_, (pss_one (ps_ret (pe_lc (own := [("_law_at", 2)]) (g := gName 2) (tt := tYes) rfl sc_law_reading.nd (pi_range1 rfl m_range (pa_cons (pv 1) pa_nil)) (blkOk_by (own := [("_law_at", 2)]) (N := ["_law_d", "_law_many", "_law_at"]) (sc := defScope s_law_reading) (by decide +kernel)) (fun _ _ _ _ _ => (pg_name (i := 2) sc_law_reading.nd rfl (.inl rfl) (.inr rfl))) (fun _ _ _ _ _ => pts_nil) (fun _ _ _ _ _ => (pe_ix (ix_listK (K := K) rfl) (pe_callD G_law_kinds (hr.mono (by decide)) (by rfl) (pa_cons (pv 2) pa_nil)) (pe_callD G_law_off (hr.mono (by decide)) (by rfl) (pa_cons (pv 0) (pa_cons (pe_op op_add pe_int (pe_op op_mod (pv 2) pe_int)) pa_nil))) (fun _ _ => rfl)))))), ?_⟩
    refine ⟨_, rfl, n, rfl, by omega, by omega, fun D nD => lc_d walk_range (fun i y => ∃ z, y = V.int z ∧ z ∈ kinds (0 + (i : Int))) hd nD (by omega) (fun _ _ => trivial) ?_ ?_⟩
    · rintro i x H3 H3' acc k hi k3 d3 e3 l3 ⟨rfl, rfl⟩ fin
      refine ⟨rfl, _, rfl, _, rfl, fun p1 H4 np1 s4 e4 => ?_⟩
      refine ⟨_, rfl, _, rfl, _, _, rfl, rfl, by show (0 : Int) < 2; decide, _, _, rfl, rfl, d, _, rfl, d3.same s4, by omega, by omega, fun r H5 r0 r1 d5 k5 => ?_⟩
      obtain ⟨z, ez, hz⟩ := kinds_at r0 r1
      have n1 : p1 ≠ d := d3.ne np1
      refine ⟨_, _, _, _, rfl, rfl, SqL.of (k5 _ _ n1 e4), aI r0 ez, fin _ _ ((k3.then s4).trans k5) d5 (k5 _ _ (hd.ne nD) (s4 _ _ e3)) ⟨z, rfl, hz⟩⟩
    · intro H3 xs k3 d3 e3 l3 p3
      obtain ⟨ns, rfl, l, pn⟩ := ints_of p3
      exact q ns D H3 (by omega) pn nD e3 d3 k3
end
end KT
namespace KT
open PySem PySem.Spec PyProof.Rows L2
section
variable {P : Program} {w : World} {K : PySem.W.Frag} {mg : Str → Option Value} {base : Heap}
theorem ok_law_times (S : Src K mg "_law_times" s_law_times) (m_range : mg "range" = none) (m_enumerate : mg "enumerate" = none) (m_max : mg "max" = none) (m_min : mg "min" = none) (m_int : mg "int" = none)
    (G_law_reading : KDef P w K mg base CX0 2 "_law_reading" ["_law_d", "_law_many"] spReading)
    (G_law_off : KDef P w K mg base CX0 1 "_law_off" ["_law_d", "_law_most"] spOff) : KDef P w K mg base CX0 3 "_law_times" ["_law_d", "_law_most"] spTimes := by
  refine S.ok sc_law_times (fun _ _ _ _ _ _ us hl => match us, hl with | [_, _], _ => rfl) (fun vs H Q E h => ?_) (fun f cdv A outer s H vs Q E hr h => ?_)
  · obtain ⟨d, m, rfl, _⟩ := h
    rfl
  · obtain ⟨d, m, rfl, hd, m0, m1, q⟩ := h
    refine ⟨_, (pss_cons (ps_set (i := 2) sc_law_times.nd rfl (.inl rfl) (pe_op op_add pe_int (pe_op op_mul pe_int (pe_callD G_law_off (hr.mono (by decide)) (by rfl) (pa_cons (pv 0) (pa_cons (pe_op op_fdiv (pe_op op_add (pv 1) pe_int) pe_int) pa_nil))))))
      (pss_cons (ps_set (i := 3) sc_law_times.nd rfl (.inr rfl) (pe_callD G_law_reading (hr.mono (by decide)) (by rfl) (pa_cons (pv 0) (pa_cons (pv 2) pa_nil))))
      (pss_cons (ps_set (i := 4) sc_law_times.nd rfl (.inr rfl) (pe_op op_add pe_int (pe_callD G_law_off (hr.mono (by decide)) (by rfl) (pa_cons (pv 0) (pa_cons (pe_ix (ix_listK (K := K) rfl) (pe_lst (pa_cons pe_int (pa_cons pe_int (pa_cons pe_int pa_nil)))) (pe_callD G_law_off (hr.mono (by decide)) (by rfl) (pa_cons (pv 0) (pa_cons pe_int pa_nil))) (fun _ _ => rfl)) pa_nil)))))
      (pss_cons (ps_set (i := 5) sc_law_times.nd rfl (.inr rfl) (pe_ix (ix_listK (K := K) rfl) (pe_lst (pa_cons pe_int (pa_cons pe_int (pa_cons (pe_op op_add pe_int (pe_op op_fdiv (pv 4) pe_int)) (pa_cons (pe_op op_add pe_int (pv 4)) pa_nil))))) (pe_callD G_law_off (hr.mono (by decide)) (by rfl) (pa_cons (pv 0) (pa_cons pe_int pa_nil))) (fun _ _ => rfl)))
      (C8.pss_cut (ps_setLc (i := 6) (own := [("_law_at", 7)]) (g := gName 7) (tt := tYes) rfl sc_law_times.nd rfl rfl (sw_true rfl rfl rfl (by decide +kernel)) (pi_range1 rfl m_range (pa_cons (pv 2) pa_nil)) (blkOk_by (own := [("_law_at", 7)]) (N := ["_law_d", "_law_most", "_law_many", "_law_reading_here", "_law_unit", "_law_shake", "_law_times_here", "_law_at", "_law_k", "_law_time"]) (sc := defScope s_law_times) (by decide +kernel)) (fun _ _ _ _ _ => (pg_name (i := 7) sc_law_times.nd rfl (.inl rfl) (.inr rfl))) (fun _ _ _ _ _ => pts_nil) (fun _ _ _ _ _ => (pe_callB (call_max2 rfl) (by rfl) m_max (by decide +kernel) (pa_cons pe_int (pa_cons (pe_op op_sub (pe_op op_add (pe_op op_mul (pe_ix (ix_listK (K := K) rfl) (pv 3) (pv 7) (fun _ _ => rfl)) (pv 4)) (pe_callD G_law_off (hr.mono (by decide)) (by rfl) (pa_cons (pv 0) (pa_cons (pe_op op_add (pe_op op_mul pe_int (pv 5)) pe_int) pa_nil)))) (pv 5)) pa_nil)))))
      (C8.pss_cut (ps_if (pt_cmpR op_eq (pe_callD G_law_off (hr.mono (by decide)) (by rfl) (pa_cons (pv 0) (pa_cons pe_int pa_nil))) pe_int (nomark _))
      (pss_one (ps_setLc (i := 6) (own := [("_law_at", 7)]) (g := gName 7) (tt := tYes) rfl sc_law_times.nd rfl rfl (sw_true rfl rfl rfl (by decide +kernel)) (pi_range1 rfl m_range (pa_cons (pv 2) pa_nil)) (blkOk_by (own := [("_law_at", 7)]) (N := ["_law_d", "_law_most", "_law_many", "_law_reading_here", "_law_unit", "_law_shake", "_law_times_here", "_law_at", "_law_k", "_law_time"]) (sc := defScope s_law_times) (by decide +kernel)) (fun _ _ _ _ _ => (pg_name (i := 7) sc_law_times.nd rfl (.inl rfl) (.inr rfl))) (fun _ _ _ _ _ => pts_nil) (fun _ _ _ _ _ => (pe_op op_add pe_int (pe_callD G_law_off (hr.mono (by decide)) (by rfl) (pa_cons (pv 0) (pa_cons (pe_ix (ix_listK (K := K) rfl) (pe_lst (pa_cons pe_int (pa_cons pe_int pa_nil))) (pe_callD G_law_off (hr.mono (by decide)) (by rfl) (pa_cons (pv 0) (pa_cons pe_int pa_nil))) (fun _ _ => rfl)) pa_nil)))))))
      pss_nil)
      (C8.pss_cut (ps_if (pt_cmpR op_eq (pe_callD G_law_off (hr.mono (by decide)) (by rfl) (pa_cons (pv 0) (pa_cons pe_int pa_nil))) pe_int (nomark _))
      (pss_cons (ps_set (i := 7) sc_law_times.nd rfl (.inr rfl) (pe_callD G_law_off (hr.mono (by decide)) (by rfl) (pa_cons (pv 0) (pa_cons (pv 2) pa_nil))))
      (pss_one (ps_setLc (i := 6) (own := [("_law_k", 8), ("_law_time", 9)]) (g := gTup K 2 (gCons (gName 8) (gCons (gName 9) gNil))) (tt := tYes) rfl sc_law_times.nd rfl rfl (sw_true rfl rfl rfl (by decide +kernel)) (pi_enumK (K := K) rfl (by rfl) m_enumerate (pa_cons (pv 6) pa_nil)) (blkOk_by (own := [("_law_k", 8), ("_law_time", 9)]) (N := ["_law_d", "_law_most", "_law_many", "_law_reading_here", "_law_unit", "_law_shake", "_law_times_here", "_law_at", "_law_k", "_law_time"]) (sc := defScope s_law_times) (by decide +kernel)) (fun _ _ _ _ _ => (pg_tup rfl (pgs_cons (pg_name (i := 8) sc_law_times.nd rfl (.inl rfl) (.inr rfl)) (pgs_cons (pg_name (i := 9) sc_law_times.nd rfl (.inl rfl) (.inr rfl)) pgs_nil)))) (fun _ _ _ _ _ => pts_nil) (fun _ _ _ _ _ => (pe_ix (ix_listK (K := K) rfl) (pe_lst (pa_cons (pv 9) (pa_cons (pe_op op_add pe_int (pe_op op_mul (pv 9) pe_int)) pa_nil))) (pe_callTy call_int1 (by rfl) m_int (by decide +kernel) (pa_cons (pe_cmpR op_ge (pv 8) (pv 7) (nomark _)) pa_nil)) (fun _ _ => rfl))))))
      pss_nil)
      (pss_one (ps_ret (pe_lc (own := [("_law_time", 9)]) (g := gName 9) (tt := tYes) rfl sc_law_times.nd (pi_listK (K := K) rfl (pv 6)) (blkOk_by (own := [("_law_time", 9)]) (N := ["_law_d", "_law_most", "_law_many", "_law_reading_here", "_law_unit", "_law_shake", "_law_times_here", "_law_at", "_law_k", "_law_time"]) (sc := defScope s_law_times) (by decide +kernel)) (fun _ _ _ _ _ => (pg_name (i := 9) sc_law_times.nd rfl (.inl rfl) (.inr rfl))) (fun _ _ _ _ _ => pts_nil) (fun _ _ _ _ _ => (pe_callB (call_min2 rfl) (by rfl) m_min (by decide +kernel) (pa_cons pe_int (pa_cons (pv 9) pa_nil)))))))))))))), ?_⟩
    -- many
    refine ⟨_, rfl, _, rfl, _, _, rfl, rfl, _, _, rfl, rfl, ⟨by decide, by decide⟩, d, _, rfl, hd, by omega, by omega, fun k H1 k0 k1 d1 p1 => ?_⟩
    refine ⟨_, _, rfl, rfl, .inl ⟨by decide, by decide⟩, _, _, rfl, rfl, ?_⟩
    have n0 : 1 ≤ 1 + 2 * k := by omega
    have n1 : 1 + 2 * k ≤ m := by omega
    have n2 : (1 + 2 * k) % 2 = 1 := by omega
    -- reading_here
    refine ⟨_, rfl, _, rfl, d, _, rfl, d1, by omega, by omega, fun ks pr H2 el rk npr epr d2 p2 => ?_⟩
    have k2 := p1.trans p2
    have npr0 : H pr = none := p1.new d1 npr
    -- unit
    refine ⟨_, rfl, lz (by show 3 ≤ 1000000; decide), fun l nl => ?_⟩
    refine ⟨_, rfl, d, _, rfl, d2.same (sm nl), by decide, by decide, fun r H3 r0 r1 d3 p3 => ?_⟩
    obtain ⟨mm, em, mm0, mm1⟩ : ∃ mm : Int, ([V.int 6, V.int 60, V.int 999] : List V)[r.toNat]? = some (V.int mm) ∧ 0 < mm ∧ mm ≤ 999 := by
      rcases (by omega : r = 0 ∨ r = 1 ∨ r = 2) with rfl | rfl | rfl
      · exact ⟨_, rfl, by decide, by decide⟩
      · exact ⟨_, rfl, by decide, by decide⟩
      · exact ⟨_, rfl, by decide, by decide⟩
    have n3 : l ≠ d := d2.ne nl
    refine ⟨_, _, _, _, rfl, rfl, SqL.of (p3 _ _ n3 upd_same), aI r0 em, d, _, rfl, d3, mm0, by omega, fun u H4 u0 u1 d4 p4 => ?_⟩
    refine ⟨_, _, rfl, rfl, ?_⟩
    have k4 : Kp d H2 H4 := ((Kp.of (sm nl)).trans p3).trans p4
    have v0 : 1 ≤ 1 + u := by omega
    have v1 : 1 + u ≤ 999 := by omega
    -- shake
    refine ⟨_, rfl, _, _, rfl, rfl, ⟨by decide, by decide⟩, _, _, rfl, rfl, _, rfl, _, _, rfl, rfl, lz (by show 4 ≤ 1000000; decide), fun l2 nl2 => ?_⟩
    refine ⟨_, rfl, d, _, rfl, d4.same (sm nl2), by decide, by decide, fun r2 H5 r20 r21 d5 p5 => ?_⟩
    obtain ⟨sh, es, sh0, sh1⟩ : ∃ sh : Int, ([V.int 0, V.int 1, V.int (1 + (1 + u) / 4), V.int (1 + (1 + u))] : List V)[r2.toNat]? = some (V.int sh) ∧ 0 ≤ sh ∧ sh ≤ 1000 := by
      rcases (by omega : r2 = 0 ∨ r2 = 1 ∨ r2 = 2 ∨ r2 = 3) with rfl | rfl | rfl | rfl
      · exact ⟨_, rfl, by decide, by decide⟩
      · exact ⟨_, rfl, by decide, by decide⟩
      · exact ⟨_, rfl, by omega, by omega⟩
      · exact ⟨_, rfl, by omega, by omega⟩
    have n4 : l2 ≠ d := d4.ne nl2
    refine ⟨_, _, _, _, rfl, rfl, SqL.of (p5 _ _ n4 upd_same), aI r20 es, ?_⟩
    have k5 : Kp d H2 H5 := (k4.trans (Kp.of (sm nl2))).trans p5
    have kA : Kp d H H5 := k2.trans k5
    have epr5 : H5 pr = some (.lst (ks.map V.int)) := k5 _ _ (d1.ne npr) epr
    -- times
    refine ⟨fun σ H6 => ∃ (ts : List Int) (p : Addr) (y : Option V), σ = [some (.ref d), some (.int m), some (.int (1 + 2 * k)), some (.ref pr), some (.int (1 + u)), some (.int sh), some (.ref p), y, none, none] ∧
      (ts.length : Int) = 1 + 2 * k ∧ (∀ (i : Nat) (t : Int), ts[i]? = some t → 1 ≤ t ∧ t ≤ 20000) ∧ H p = none ∧ H6 p = some (.lst (ts.map V.int)) ∧ Dice H6 d ∧ Kp d H H6, ?_, ?_⟩
    · refine ⟨_, rfl, 1 + 2 * k, rfl, by omega, by omega, fun D nD => lc_d walk_range (fun i y => ∃ z, y = V.int z ∧ (1 ≤ z ∧ z ≤ 20000)) d5 nD (by omega) (fun _ _ => trivial) ?_ ?_⟩
      · rintro i x H6 H6' acc c hi k6 d6 e6 l6 ⟨rfl, rfl⟩ fin
        obtain ⟨kk, ek, hk⟩ : ∃ kk, ks[i]? = some kk ∧ (kk = 1 ∨ kk = 3 ∨ kk = 7) := by
          have hi2 : i < ks.length := by omega
          exact ⟨_, List.getElem?_eq_getElem hi2, kinds_le (rk i _ (List.getElem?_eq_getElem hi2))⟩
        have ek2 : (ks.map V.int)[(0 + (i : Int)).toNat]? = some (V.int kk) := by
          rw [Int.zero_add, Int.toNat_natCast]
          exact at_int ek
        refine ⟨rfl, _, rfl, _, rfl, _, _, _, _, rfl, rfl, SqL.of (k6 _ _ (d1.ne npr) epr5), aI (by omega) ek2, _, rfl, _, _, rfl, rfl, .inl ⟨by omega, by omega⟩, ?_⟩
        refine ⟨_, rfl, _, rfl, _, _, rfl, rfl, .inl ⟨by decide, by decide⟩, _, _, rfl, rfl, d, _, rfl, d6, by omega, by omega, fun r3 H7 r30 r31 d7 p7 => ?_⟩
        refine ⟨_, _, rfl, rfl, _, rfl, _, _, rfl, rfl, _, _, rfl, fin _ _ (k6.trans p7) d7 (p7 _ _ (d5.ne nD) e6) ⟨_, rfl, ?_⟩⟩
        have b1 : 1 + u ≤ kk * (1 + u) ∧ kk * (1 + u) ≤ 7 * (1 + u) := by
          rcases hk with rfl | rfl | rfl <;> omega
        split <;> omega
      · intro H6 xs k6 d6 e6 l6 p6
        obtain ⟨ns, rfl, l, pn⟩ := ints_of p6
        exact ⟨ns, D, _, rfl, by omega, pn, kA.new d5 nD, e6, d6, kA.trans k6⟩
    · rintro σ H6 ⟨ts, p, y, rfl, tl, tb, np, ep, d6, k6⟩
      -- any times
      refine ⟨fun σ H6 => ∃ (ts : List Int) (p : Addr) (y : Option V), σ = [some (.ref d), some (.int m), some (.int (1 + 2 * k)), some (.ref pr), some (.int (1 + u)), some (.int sh), some (.ref p), y, none, none] ∧
        (ts.length : Int) = 1 + 2 * k ∧ (∀ (i : Nat) (t : Int), ts[i]? = some t → 1 ≤ t ∧ t ≤ 20000) ∧ H p = none ∧ H6 p = some (.lst (ts.map V.int)) ∧ Dice H6 d ∧ Kp d H H6, ?_, ?_⟩
      · refine ⟨_, rfl, d, _, rfl, d6, by decide, by decide, fun r H7 r0 r1 d7 p7 => ?_⟩
        refine ⟨rfl, _, rfl, ite2 (fun _ => ?_) (fun _ => ⟨ts, p, y, rfl, tl, tb, np, p7 _ _ (hd.ne np) ep, d7, k6.trans p7⟩)⟩
        refine ⟨_, rfl, 1 + 2 * k, rfl, by omega, by omega, fun D nD => lc_d walk_range (fun i y => ∃ z, y = V.int z ∧ (1 ≤ z ∧ z ≤ 20000)) d7 nD (by omega) (fun _ _ => trivial) ?_ ?_⟩
        · rintro i x H8 H8' acc c hi k8 d8 e8 l8 ⟨rfl, rfl⟩ fin
          refine ⟨rfl, _, rfl, lz (by show 2 ≤ 1000000; decide), fun l3 nl3 => ?_⟩
          refine ⟨_, rfl, d, _, rfl, d8.same (sm nl3), by decide, by decide, fun r3 H9 r30 r31 d9 p9 => ?_⟩
          obtain ⟨mm, em, mm0, mm1⟩ : ∃ mm : Int, ([V.int 9, V.int 9999] : List V)[r3.toNat]? = some (V.int mm) ∧ 0 < mm ∧ mm ≤ 9999 := by
            rcases (by omega : r3 = 0 ∨ r3 = 1) with rfl | rfl
            · exact ⟨_, rfl, by decide, by decide⟩
            · exact ⟨_, rfl, by decide, by decide⟩
          refine ⟨_, _, _, _, rfl, rfl, SqL.of (p9 _ _ (d8.ne nl3) upd_same), aI r30 em, d, _, rfl, d9, mm0, by omega, fun u H10 u0 u1 d10 p10 => ?_⟩
          refine ⟨_, _, rfl, rfl, fin _ _ (((k8.then (sm nl3)).trans p9).trans p10) d10 (p10 _ _ (d7.ne nD) (p9 _ _ (d7.ne nD) ((sm nl3) _ _ e8))) ⟨_, rfl, by omega, by omega⟩⟩
        · intro H8 xs k8 d8 e8 l8 p8
          obtain ⟨ns, rfl, l, pn⟩ := ints_of p8
          exact ⟨ns, D, _, rfl, by omega, pn, (k6.trans p7).new d7 nD, e8, d8, (k6.trans p7).trans k8⟩
      · clear tl tb np ep d6 k6 y p ts
        rintro σ H6 ⟨ts, p, y, rfl, tl, tb, np, ep, d6, k6⟩
        -- slower by half
        refine ⟨fun σ H6 => ∃ (ts : List Int) (p : Addr) (y : Option V), σ = [some (.ref d), some (.int m), some (.int (1 + 2 * k)), some (.ref pr), some (.int (1 + u)), some (.int sh), some (.ref p), y, none, none] ∧
          (ts.length : Int) = 1 + 2 * k ∧ (∀ (i : Nat) (t : Int), ts[i]? = some t → 1 ≤ t ∧ t ≤ 50000) ∧ H p = none ∧ H6 p = some (.lst (ts.map V.int)) ∧ Dice H6 d ∧ Kp d H H6, ?_, ?_⟩
        · refine ⟨_, rfl, d, _, rfl, d6, by decide, by decide, fun r H7 r0 r1 d7 p7 => ?_⟩
          have ep7 : H7 p = some (.lst (ts.map V.int)) := p7 _ _ (hd.ne np) ep
          refine ⟨rfl, _, rfl, ite2 (fun _ => ?_) (fun _ => ⟨ts, p, y, rfl, tl, fun i t h => ⟨(tb i t h).1, by have := (tb i t h).2; omega⟩, np, ep7, d7, k6.trans p7⟩)⟩
          refine ⟨_, rfl, _, rfl, d, _, rfl, d7, by omega, by omega, fun at_ H8 at0 at1 d8 p8 => ?_⟩
          have ep8 : H8 p = some (.lst (ts.map V.int)) := p8 _ _ (hd.ne np) ep7
          refine ⟨_, rfl, _, _, rfl, SqL.of ep8, fun D nD => lc_d (d := d) walk_enum (fun i y => ∃ z, y = V.int z ∧ (1 ≤ z ∧ z ≤ 50000)) d8 nD (by rw [List.length_map]; omega) (fun H9 k9 => SqL.of (k9 _ _ (hd.ne np) ep8)) ?_ ?_⟩
          · rintro i x H9 H9' acc c hi k9 d9 e9 l9 ⟨T, x1, x2, rfl, nT, rfl, f1, f2⟩ fin
            cases f1
            obtain ⟨t, rfl, et⟩ := int_at f2
            have sT := sm (o := .tup [V.int (i : Nat), V.int t]) nT
            have nDT : D ≠ T := ne_of_none e9 nT
            refine ⟨_, _, rfl, .inl (.inl upd_same), rfl, _, _, rfl, _, _, rfl, rfl, rfl, _, rfl, _, rfl, _, _, rfl, rfl, .inl ⟨by have := (tb i t et).1; omega, by have := (tb i t et).2; omega⟩, ?_⟩
            refine ⟨_, _, rfl, rfl, lz (by show 2 ≤ 1000000; decide), fun l3 nl3 => ?_⟩
            refine ⟨_, rfl, _, rfl, _, _, rfl, rfl, .inr ⟨_, rfl, _, _, _, _, rfl, rfl, SqL.of upd_same, pick2 _ _ _, ?_⟩⟩
            have s3 := sT.trans (sm (o := .lst [V.int t, V.int (1 + t * 2)]) nl3)
            refine fin _ _ (k9.then s3) (d9.same s3) (s3 _ _ e9) ?_
            have b := tb i t et
            cases decide (at_ ≤ (i : Nat)) with
            | false => exact ⟨t, rfl, by omega, by omega⟩
            | true => exact ⟨1 + t * 2, rfl, by omega, by omega⟩
          · intro H9 xs k9 d9 e9 l9 p9
            obtain ⟨ns, rfl, l, pn⟩ := ints_of p9
            simp only [List.length_map] at l9 l
            exact ⟨ns, D, _, rfl, by omega, pn, (k6.trans (p7.trans p8)).new d8 nD, e9, d9, (k6.trans (p7.trans p8)).trans k9⟩
        · clear tl tb np ep d6 k6 y p ts
          rintro σ H6 ⟨ts, p, y, rfl, tl, tb, np, ep, d6, k6⟩
          refine ⟨_, rfl, p, rfl, ⟨_, SqL.of ep⟩, fun D nD => lc_d (d := d) walk_list (fun i y => ∃ z, y = V.int z ∧ (1 ≤ z ∧ z ≤ 9999)) d6 nD (by rw [List.length_map]; omega) (fun H9 k9 => SqL.of (k9 _ _ (hd.ne np) ep)) ?_ ?_⟩
          · rintro i x H9 H9' acc c hi k9 d9 e9 l9 ⟨rfl, hx⟩ fin
            obtain ⟨t, rfl, et⟩ := int_at hx
            have b := tb i t et
            refine ⟨rfl, _, rfl, _, _, rfl, fin _ _ k9 d9 e9 ⟨_, rfl, ?_⟩⟩
            split <;> omega
          · intro H9 xs k9 d9 e9 l9 p9
            obtain ⟨ns, rfl, l, pn⟩ := ints_of p9
            simp only [List.length_map] at l9 l
            exact q ns D H9 ⟨by omega, by omega, pn⟩ (by omega) (k6.new d6 nD) e9 d9 (k6.trans k9)
end
end KT
namespace KT
open PySem PySem.Spec PyProof.Rows L2
section
variable {P : Program} {w : World} {K : PySem.W.Frag} {mg : Str → Option Value} {base : Heap}
structure SqD (K : PySem.W.Frag) (H : Hp) (a : Addr) (xs : List V) (ds : List PyData) (nm : String) : Prop where
  sq : SqL K H a xs ∨ SqT K H a xs
  dp : DpAll K H xs ds
  ty : TyX K H (.ref a) (.type nm)
theorem sq_same {K : PySem.W.Frag} {H H' : Hp} {a : Addr} {xs : List V} (s : Same H H') (h : SqL K H a xs ∨ SqT K H a xs) : SqL K H' a xs ∨ SqT K H' a xs := h.elim (fun h => .inl (s.seq h)) fun h => .inr (same_tup s h)
theorem ix_any {K : PySem.W.Frag} {H : Hp} {a : Addr} {xs : List V} {i : Int} {v : V} {Q : VK} (h : SqL K H a xs ∨ SqT K H a xs) (e : atI xs i = some v) (q : Q v H) : rIx K (.ref a) (.int i) H Q :=
  h.elim (fun h => .inl ⟨_, _, _, _, rfl, rfl, h, e, q⟩) fun h => .inr (.inl ⟨_, _, _, _, rfl, rfl, h, e, q⟩)
theorem all_true {xs : List V} (h : ∀ (i : Nat) (y : V), xs[i]? = some y → y = V.bl true) : xs = (List.replicate xs.length true).map V.bl := by
  apply List.ext_getElem?
  intro i
  rw [List.getElem?_map, List.getElem?_replicate]
  by_cases c : i < xs.length
  · rw [if_pos c, List.getElem?_eq_getElem c]
    exact congrArg some (h i _ (List.getElem?_eq_getElem c))
  · rw [if_neg c, List.getElem?_eq_none (by omega)]
    rfl
theorem dp_two {K : PySem.W.Frag} {H : Hp} {u v : V} {d : PyData} {n : Nat} (hu : Dp K H u d) (hv : Dp K H v d) (ok : dOk (n + 1) d) :
    (∃ (a b : Addr) (xs ys : List V) (ds : List PyData) (nm : String), u = .ref a ∧ v = .ref b ∧ SqD K H a xs ds nm ∧ SqD K H b ys ds nm ∧ (nm = "list" ∨ nm = "tuple") ∧ ds.length ≤ 1000000 ∧ ∀ d ∈ ds, dOk n d) ∨
    (v = u ∧ (u = .non ∨ (∃ c, u = .bl c) ∨ (∃ i, u = .int i) ∨ ∃ x, u = .str x)) := by
  cases d with
  | dict kvs => exact absurd ok (by intro h; exact h)
  | none =>
    cases hu
    cases hv
    exact .inr ⟨rfl, .inl rfl⟩
  | bool c =>
    cases hu
    cases hv
    exact .inr ⟨rfl, .inr (.inl ⟨_, rfl⟩)⟩
  | int i =>
    cases hu
    cases hv
    exact .inr ⟨rfl, .inr (.inr (.inl ⟨_, rfl⟩))⟩
  | str x =>
    cases hu
    cases hv
    exact .inr ⟨rfl, .inr (.inr (.inr ⟨_, rfl⟩))⟩
  | list ds =>
    cases hu with
    | lst h1 h2 => cases hv with
      | lst g1 g2 => exact .inl ⟨_, _, _, _, ds, "list", rfl, rfl, ⟨.inl h1, h2, tyx_list h1⟩, ⟨.inl g1, g2, tyx_list g1⟩, .inl rfl, ok.1, ok.2⟩
  | tuple ds =>
    cases hu with
    | tup h1 h2 => cases hv with
      | tup g1 g2 => exact .inl ⟨_, _, _, _, ds, "tuple", rfl, rfl, ⟨.inr h1, h2, tyx_tup h1⟩, ⟨.inr g1, g2, tyx_tup g1⟩, .inr rfl, ok.1, ok.2⟩
theorem ok_law_alike (S : Src K mg "_law_alike" s_law_alike) (m_isinstance : mg "isinstance" = none) (m_bool : mg "bool" = none) (m_int : mg "int" = none) (m_str : mg "str" = none) (m_dict : mg "dict" = none) (m_tuple : mg "tuple" = none) (m_list : mg "list" = none)
    (m_len : mg "len" = none) (m_all : mg "all" = none) (m_range : mg "range" = none) : ∀ n, KDef P w K mg base CX0 n "_law_alike" ["_law_found", "_law_due"] (spAlike K n) := by
  intro n
  induction n with
  | zero => exact KDef.none S (fun _ _ _ _ _ _ us hl => match us, hl with | [_, _], _ => rfl) (fun vs H Q E ⟨_, _, _, _, _, _, h, _⟩ => h)
  | succ n G_law_alike =>
  refine S.ok sc_law_alike (fun _ _ _ _ _ _ us hl => match us, hl with | [_, _], _ => rfl) (fun vs H Q E h => ?_) (fun f cdv A outer s H vs Q E hr h => ?_)
  · obtain ⟨u, v, d, rfl, _⟩ := h
    rfl
  · obtain ⟨u, v, d, rfl, hu, hv, ok, q⟩ := h
    refine ⟨_, (pss_cons (ps_if (pt_cmpR op_isN (pv 1) pe_non (nomark _))
      (pss_one (ps_ret (pe_cmpR op_isN (pv 0) pe_non (nomark _))))
      pss_nil)
      (pss_cons (ps_if (pt_val (pe_callB (call_isiK (K := K) rfl) (by rfl) m_isinstance (by decide +kernel) (pa_cons (pv 1) (pa_cons (pe_bltn (v := .ty "bool") (u := .type "bool") (by rfl) m_bool (by decide +kernel) rfl) pa_nil))))
      (pss_one (ps_ret (pe_and (pe_callB (call_isiK (K := K) rfl) (by rfl) m_isinstance (by decide +kernel) (pa_cons (pv 0) (pa_cons (pe_bltn (v := .ty "bool") (u := .type "bool") (by rfl) m_bool (by decide +kernel) rfl) pa_nil))) (pe_one (pe_cmpR op_eq (pv 0) (pv 1) (nomark _))))))
      pss_nil)
      (pss_cons (ps_if (pt_val (pe_callB (call_isiK (K := K) rfl) (by rfl) m_isinstance (by decide +kernel) (pa_cons (pv 1) (pa_cons (pe_bltn (v := .ty "int") (u := .type "int") (by rfl) m_int (by decide +kernel) rfl) pa_nil))))
      (pss_one (ps_ret (pe_and (pe_callB (call_isiK (K := K) rfl) (by rfl) m_isinstance (by decide +kernel) (pa_cons (pv 0) (pa_cons (pe_bltn (v := .ty "int") (u := .type "int") (by rfl) m_int (by decide +kernel) rfl) pa_nil))) (pe_and (pe_not (pe_callB (call_isiK (K := K) rfl) (by rfl) m_isinstance (by decide +kernel) (pa_cons (pv 0) (pa_cons (pe_bltn (v := .ty "bool") (u := .type "bool") (by rfl) m_bool (by decide +kernel) rfl) pa_nil)))) (pe_one (pe_cmpR op_eq (pv 0) (pv 1) (nomark _)))))))
      pss_nil)
      (pss_cons (ps_if (pt_val (pe_callB (call_isiK (K := K) rfl) (by rfl) m_isinstance (by decide +kernel) (pa_cons (pv 1) (pa_cons (pe_bltn (v := .ty "str") (u := .type "str") (by rfl) m_str (by decide +kernel) rfl) pa_nil))))
      (pss_one (ps_ret (pe_and (pe_callB (call_isiK (K := K) rfl) (by rfl) m_isinstance (by decide +kernel) (pa_cons (pv 0) (pa_cons (pe_bltn (v := .ty "str") (u := .type "str") (by rfl) m_str (by decide +kernel) rfl) pa_nil))) (pe_one (pe_cmpR op_eq (pv 0) (pv 1) (nomark _))))))
      pss_nil)
      (pss_cons (ps_if (pt_val (pe_callB (call_isiK (K := K) rfl) (by rfl) m_isinstance (by decide +kernel) (pa_cons (pv 1) (pa_cons (pe_bltn (v := .ty "dict") (u := .type "dict") (by rfl) m_dict (by decide +kernel) rfl) pa_nil))))
      (pss_cons ps_never (pss_one ps_never))
      pss_nil)
      (pss_cons (ps_if (PW.pt (pw_or (pt_cmpR op_ne (pe_callB (call_isiK (K := K) rfl) (by rfl) m_isinstance (by decide +kernel) (pa_cons (pv 1) (pa_cons (pe_bltn (v := .ty "tuple") (u := .type "tuple") (by rfl) m_tuple (by decide +kernel) rfl) pa_nil))) (pe_callB (call_isiK (K := K) rfl) (by rfl) m_isinstance (by decide +kernel) (pa_cons (pv 0) (pa_cons (pe_bltn (v := .ty "tuple") (u := .type "tuple") (by rfl) m_tuple (by decide +kernel) rfl) pa_nil))) (nomark _)) (pw_or1 (pt_cmpR op_ne (pe_callB (call_isiK (K := K) rfl) (by rfl) m_isinstance (by decide +kernel) (pa_cons (pv 1) (pa_cons (pe_bltn (v := .ty "list") (u := .type "list") (by rfl) m_list (by decide +kernel) rfl) pa_nil))) (pe_callB (call_isiK (K := K) rfl) (by rfl) m_isinstance (by decide +kernel) (pa_cons (pv 0) (pa_cons (pe_bltn (v := .ty "list") (u := .type "list") (by rfl) m_list (by decide +kernel) rfl) pa_nil))) (nomark _)))))
      (pss_one (ps_ret pe_bl))
      pss_nil)
      (pss_cons (ps_if (pt_cmpR op_ne (pe_callB (call_len_seqK (K := K) rfl) (by rfl) m_len (by decide +kernel) (pa_cons (pv 0) pa_nil)) (pe_callB (call_len_seqK (K := K) rfl) (by rfl) m_len (by decide +kernel) (pa_cons (pv 1) pa_nil)) (nomark _))
      (pss_one (ps_ret pe_bl))
      pss_nil)
      (pss_one (ps_ret (pe_callB (cr_allK rfl (K := K) rfl) (by rfl) m_all (by decide +kernel) (pa_cons (pe_lc (own := [("_law_k", 3)]) (g := gName 3) (tt := tYes) rfl sc_law_alike.nd (pi_range1 rfl m_range (pa_cons (pe_callB (call_len_seqK (K := K) rfl) (by rfl) m_len (by decide +kernel) (pa_cons (pv 1) pa_nil)) pa_nil)) (blkOk_by (own := [("_law_k", 3)]) (N := ["_law_found", "_law_due", "_law_name", "_law_k"]) (sc := defScope s_law_alike) (by decide +kernel)) (fun _ _ _ _ _ => (pg_name (i := 3) sc_law_alike.nd rfl (.inl rfl) (.inr rfl))) (fun _ _ _ _ _ => pts_nil) (fun _ _ _ _ _ => (pe_callD G_law_alike (hr.mono (Nat.le_refl _)) (by rfl) (pa_cons (pe_ix (ix_seqK (K := K) rfl) (pv 0) (pv 3) (fun _ _ => rfl)) (pa_cons (pe_ix (ix_seqK (K := K) rfl) (pv 1) (pv 3) (fun _ _ => rfl)) pa_nil))))) pa_nil))))))))))), ?_⟩
    rcases dp_two hu hv ok with ⟨a, b, xs, ys, ds, nm, rfl, rfl, sa, sb, hn, le, od⟩ | ⟨rfl, rfl | ⟨c, rfl⟩ | ⟨i, rfl⟩ | ⟨x, rfl⟩⟩
    · clear hu hv ok
      have kb : PySem.W.kitOne K (.type nm) (.type "bool") = some false := by rcases hn with rfl | rfl <;> exact kit_ty (by decide +kernel)
      have ki : PySem.W.kitOne K (.type nm) (.type "int") = some false := by rcases hn with rfl | rfl <;> exact kit_ty (by decide +kernel)
      have ks : PySem.W.kitOne K (.type nm) (.type "str") = some false := by rcases hn with rfl | rfl <;> exact kit_ty (by decide +kernel)
      have kd : PySem.W.kitOne K (.type nm) (.type "dict") = some false := by rcases hn with rfl | rfl <;> exact kit_ty (by decide +kernel)
      obtain ⟨r1, kt⟩ : ∃ r, PySem.W.kitOne K (.type nm) (.type "tuple") = some r := by
        rcases hn with rfl | rfl
        · exact ⟨false, kit_ty (by decide +kernel)⟩
        · exact ⟨true, kit_ty (by decide +kernel)⟩
      obtain ⟨r2, kl⟩ : ∃ r, PySem.W.kitOne K (.type nm) (.type "list") = some r := by
        rcases hn with rfl | rfl
        · exact ⟨true, kit_ty (by decide +kernel)⟩
        · exact ⟨false, kit_ty (by decide +kernel)⟩
      have l1 := DpAll.len sa.dp
      have l2 := DpAll.len sb.dp
      refine ⟨_, rfl, rfl, _, rfl, ite2 (fun e => nomatch (of_decide_eq_true e)) (fun _ => ?_)⟩
      refine ⟨_, rfl, _, _, _, _, _, rfl, .ty _, sb.ty, kb, _, rfl, iteF ?_⟩
      refine ⟨_, rfl, _, _, _, _, _, rfl, .ty _, sb.ty, ki, _, rfl, iteF ?_⟩
      refine ⟨_, rfl, _, _, _, _, _, rfl, .ty _, sb.ty, ks, _, rfl, iteF ?_⟩
      refine ⟨_, rfl, _, _, _, _, _, rfl, .ty _, sb.ty, kd, _, rfl, iteF ?_⟩
      refine ⟨_, rfl, _, _, _, _, _, rfl, .ty _, sb.ty, kt, _, rfl, _, _, _, _, _, rfl, .ty _, sa.ty, kt, rfl, _, rfl, iteNS rfl ?_⟩
      refine ⟨_, rfl, _, _, _, _, _, rfl, .ty _, sb.ty, kl, _, rfl, _, _, _, _, _, rfl, .ty _, sa.ty, kl, rfl, _, rfl, iteNS rfl ?_⟩
      refine ⟨_, rfl, a, _, rfl, sa.sq, _, rfl, b, _, rfl, sb.sq, rfl, _, rfl, iteNS (by rw [l1, l2]) ?_⟩
      refine ⟨_, rfl, b, _, rfl, sb.sq, _, rfl, by omega, by omega, fun D nD => ?_⟩
      refine lc_s walk_range (fun i y => y = V.bl true) nD (by omega) (fun _ _ => trivial) ?_ ?_
      · rintro i x H3 H3' acc k hi s3 e3 l3 ⟨rfl, rfl⟩ fin
        have hi1 : i < xs.length := by omega
        have hi2 : i < ys.length := by omega
        obtain ⟨v1, d1, e1, e2, e4, e5⟩ := DpAll.get sa.dp hi1
        obtain ⟨v2, d2, f1, f2, f4, f5⟩ := DpAll.get sb.dp hi2
        rw [e2] at f2
        cases f2
        refine ⟨rfl, _, rfl, _, rfl, ix_any (sq_same s3 sa.sq) (aI (by omega) (by rw [Int.zero_add, Int.toNat_natCast]; exact e1)) ?_⟩
        refine ⟨_, rfl, _, rfl, ix_any (sq_same s3 sb.sq) (aI (by omega) (by rw [Int.zero_add, Int.toNat_natCast]; exact f1)) ?_⟩
        exact ⟨v1, v2, d1, rfl, Dp.same s3 _ _ e4, Dp.same s3 _ _ f4, od _ e5, fun H4 s4 => fin _ _ (s3.trans s4) (s4 _ _ e3) rfl⟩
      · intro H3 zs s3 e3 l3 p3
        refine ⟨D, List.replicate zs.length true, rfl, SqL.of (by rw [← all_true p3]; exact e3), ?_⟩
        have : (List.replicate zs.length true).all id = true := by simp
        rw [this]
        exact q H3 s3
    · refine ⟨_, rfl, rfl, _, rfl, ite2 (fun _ => ?_) (fun e => absurd (decide_eq_true rfl) e)⟩
      refine ⟨_, rfl, rfl, ?_⟩
      have e : decide (V.non = V.non) = true := decide_eq_true rfl
      rw [e]
      exact q H (Same.refl H)
    · refine ⟨_, rfl, rfl, _, rfl, ite2 (fun e => nomatch (of_decide_eq_true e)) (fun _ => ?_)⟩
      refine ⟨_, rfl, _, _, _, _, _, rfl, .ty _, tyx_bl c, kit_ty (r := true) (by decide +kernel), _, rfl, iteT ?_⟩
      refine ⟨_, rfl, _, _, _, _, _, rfl, .ty _, tyx_bl c, kit_ty (r := true) (by decide +kernel), _, rfl, iteT ?_⟩
      refine ⟨_, rfl, _, rfl, rfl, ?_⟩
      have e : decide (V.bl c = V.bl c) = true := decide_eq_true rfl
      rw [e]
      exact q H (Same.refl H)
    · refine ⟨_, rfl, rfl, _, rfl, ite2 (fun e => nomatch (of_decide_eq_true e)) (fun _ => ?_)⟩
      refine ⟨_, rfl, _, _, _, _, _, rfl, .ty _, tyx_int i, kit_ty (r := false) (by decide +kernel), _, rfl, iteF ?_⟩
      refine ⟨_, rfl, _, _, _, _, _, rfl, .ty _, tyx_int i, kit_ty (r := true) (by decide +kernel), _, rfl, iteT ?_⟩
      refine ⟨_, rfl, _, _, _, _, _, rfl, .ty _, tyx_int i, kit_ty (r := true) (by decide +kernel), _, rfl, iteT ?_⟩
      refine ⟨_, rfl, _, _, _, _, _, rfl, .ty _, tyx_int i, kit_ty (r := false) (by decide +kernel), _, rfl, _, rfl, iteT ?_⟩
      refine ⟨_, rfl, _, rfl, rfl, ?_⟩
      have e : decide (V.int i = V.int i) = true := decide_eq_true rfl
      rw [e]
      exact q H (Same.refl H)
    · refine ⟨_, rfl, rfl, _, rfl, ite2 (fun e => nomatch (of_decide_eq_true e)) (fun _ => ?_)⟩
      refine ⟨_, rfl, _, _, _, _, _, rfl, .ty _, tyx_str x, kit_ty (r := false) (by decide +kernel), _, rfl, iteF ?_⟩
      refine ⟨_, rfl, _, _, _, _, _, rfl, .ty _, tyx_str x, kit_ty (r := false) (by decide +kernel), _, rfl, iteF ?_⟩
      refine ⟨_, rfl, _, _, _, _, _, rfl, .ty _, tyx_str x, kit_ty (r := true) (by decide +kernel), _, rfl, iteT ?_⟩
      refine ⟨_, rfl, _, _, _, _, _, rfl, .ty _, tyx_str x, kit_ty (r := true) (by decide +kernel), _, rfl, iteT ?_⟩
      refine ⟨_, rfl, _, rfl, rfl, ?_⟩
      have e : decide (V.str x = V.str x) = true := decide_eq_true rfl
      rw [e]
      exact q H (Same.refl H)
end
end KT
namespace KT
open PySem PySem.Spec PyProof.Rows L2
section
variable {P : Program} {w : World} {K : PySem.W.Frag} {mg : Str → Option Value} {base : Heap}
-- needs: _law_alike
theorem ok_law_alike_hot {pe : Addr × Obj} (S : Src K mg "_law_alike" s_law_alike) (m_isinstance : mg "isinstance" = none) (m_bool : mg "bool" = none) (m_int : mg "int" = none) (m_str : mg "str" = none) (m_dict : mg "dict" = none) (m_tuple : mg "tuple" = none) (m_list : mg "list" = none)
    (m_len : mg "len" = none) (m_all : mg "all" = none) (m_range : mg "range" = none) : ∀ n, KDefP P w K mg base pe n "_law_alike" ["_law_found", "_law_due"] (spAlike K n) := by
  intro n
  induction n with
  | zero => exact KDefP.none S (fun _ _ _ _ _ _ us hl => match us, hl with | [_, _], _ => rfl) (fun vs H Q E ⟨_, _, _, _, _, _, h, _⟩ => h)
  | succ n H_law_alike =>
  refine Src.okP S sc_law_alike (fun _ _ _ _ _ _ us hl => match us, hl with | [_, _], _ => rfl) (fun vs H Q E h => ?_) (fun f cdv A outer s H vs Q E hot hr h => ?_)
  · obtain ⟨u, v, d, rfl, _⟩ := h
    rfl
  · obtain ⟨u, v, d, rfl, hu, hv, ok, q⟩ := h
    refine ⟨_, (pss_cons (ps_if (pt_cmpR op_isN (pv 1) pe_non (nomark _))
      (pss_one (ps_ret (pe_cmpR op_isN (pv 0) pe_non (nomark _))))
      pss_nil)
      (pss_cons (ps_if (pt_val (pe_callB (call_isiK (K := K) rfl) (by rfl) m_isinstance (by decide +kernel) (pa_cons (pv 1) (pa_cons (pe_bltn (v := .ty "bool") (u := .type "bool") (by rfl) m_bool (by decide +kernel) rfl) pa_nil))))
      (pss_one (ps_ret (pe_and (pe_callB (call_isiK (K := K) rfl) (by rfl) m_isinstance (by decide +kernel) (pa_cons (pv 0) (pa_cons (pe_bltn (v := .ty "bool") (u := .type "bool") (by rfl) m_bool (by decide +kernel) rfl) pa_nil))) (pe_one (pe_cmpR op_eq (pv 0) (pv 1) (nomark _))))))
      pss_nil)
      (pss_cons (ps_if (pt_val (pe_callB (call_isiK (K := K) rfl) (by rfl) m_isinstance (by decide +kernel) (pa_cons (pv 1) (pa_cons (pe_bltn (v := .ty "int") (u := .type "int") (by rfl) m_int (by decide +kernel) rfl) pa_nil))))
      (pss_one (ps_ret (pe_and (pe_callB (call_isiK (K := K) rfl) (by rfl) m_isinstance (by decide +kernel) (pa_cons (pv 0) (pa_cons (pe_bltn (v := .ty "int") (u := .type "int") (by rfl) m_int (by decide +kernel) rfl) pa_nil))) (pe_and (pe_not (pe_callB (call_isiK (K := K) rfl) (by rfl) m_isinstance (by decide +kernel) (pa_cons (pv 0) (pa_cons (pe_bltn (v := .ty "bool") (u := .type "bool") (by rfl) m_bool (by decide +kernel) rfl) pa_nil)))) (pe_one (pe_cmpR op_eq (pv 0) (pv 1) (nomark _)))))))
      pss_nil)
      (pss_cons (ps_if (pt_val (pe_callB (call_isiK (K := K) rfl) (by rfl) m_isinstance (by decide +kernel) (pa_cons (pv 1) (pa_cons (pe_bltn (v := .ty "str") (u := .type "str") (by rfl) m_str (by decide +kernel) rfl) pa_nil))))
      (pss_one (ps_ret (pe_and (pe_callB (call_isiK (K := K) rfl) (by rfl) m_isinstance (by decide +kernel) (pa_cons (pv 0) (pa_cons (pe_bltn (v := .ty "str") (u := .type "str") (by rfl) m_str (by decide +kernel) rfl) pa_nil))) (pe_one (pe_cmpR op_eq (pv 0) (pv 1) (nomark _))))))
      pss_nil)
      (pss_cons (ps_if (pt_val (pe_callB (call_isiK (K := K) rfl) (by rfl) m_isinstance (by decide +kernel) (pa_cons (pv 1) (pa_cons (pe_bltn (v := .ty "dict") (u := .type "dict") (by rfl) m_dict (by decide +kernel) rfl) pa_nil))))
      (pss_cons ps_never (pss_one ps_never))
      pss_nil)
      (pss_cons (ps_if (PW.pt (pw_or (pt_cmpR op_ne (pe_callB (call_isiK (K := K) rfl) (by rfl) m_isinstance (by decide +kernel) (pa_cons (pv 1) (pa_cons (pe_bltn (v := .ty "tuple") (u := .type "tuple") (by rfl) m_tuple (by decide +kernel) rfl) pa_nil))) (pe_callB (call_isiK (K := K) rfl) (by rfl) m_isinstance (by decide +kernel) (pa_cons (pv 0) (pa_cons (pe_bltn (v := .ty "tuple") (u := .type "tuple") (by rfl) m_tuple (by decide +kernel) rfl) pa_nil))) (nomark _)) (pw_or1 (pt_cmpR op_ne (pe_callB (call_isiK (K := K) rfl) (by rfl) m_isinstance (by decide +kernel) (pa_cons (pv 1) (pa_cons (pe_bltn (v := .ty "list") (u := .type "list") (by rfl) m_list (by decide +kernel) rfl) pa_nil))) (pe_callB (call_isiK (K := K) rfl) (by rfl) m_isinstance (by decide +kernel) (pa_cons (pv 0) (pa_cons (pe_bltn (v := .ty "list") (u := .type "list") (by rfl) m_list (by decide +kernel) rfl) pa_nil))) (nomark _)))))
      (pss_one (ps_ret pe_bl))
      pss_nil)
      (pss_cons (ps_if (pt_cmpR op_ne (pe_callB (call_len_seqK (K := K) rfl) (by rfl) m_len (by decide +kernel) (pa_cons (pv 0) pa_nil)) (pe_callB (call_len_seqK (K := K) rfl) (by rfl) m_len (by decide +kernel) (pa_cons (pv 1) pa_nil)) (nomark _))
      (pss_one (ps_ret pe_bl))
      pss_nil)
      (pss_one (ps_ret (pe_callB (cr_allH (hotC hot rfl) (K := K) rfl) (by rfl) m_all (by decide +kernel) (pa_cons (pe_lcH (own := [("_law_k", 3)]) (g := gName 3) (tt := tYes) (hotC hot rfl) sc_law_alike.nd (L2H.pi_range1H rfl m_range (pa_cons (pe_callB (call_len_seqK (K := K) rfl) (by rfl) m_len (by decide +kernel) (pa_cons (pv 1) pa_nil)) pa_nil)) (blkOk_by (own := [("_law_k", 3)]) (N := ["_law_found", "_law_due", "_law_name", "_law_k"]) (sc := defScope s_law_alike) (by decide +kernel)) ⟨fun _ _ _ _ _ => (pg_name (i := 3) sc_law_alike.nd rfl (.inl rfl) (.inr rfl)), fun _ _ _ _ _ => pts_nil, fun _ _ _ _ _ => (pe_callP H_law_alike (hotP hot rfl) (hr.mono (Nat.le_refl _)) (by rfl) (pa_cons (pe_ix (ix_seqK (K := K) rfl) (pv 0) (pv 3) (fun _ _ => rfl)) (pa_cons (pe_ix (ix_seqK (K := K) rfl) (pv 1) (pv 3) (fun _ _ => rfl)) pa_nil)))⟩) pa_nil))))))))))), ?_⟩
    rcases dp_two hu hv ok with ⟨a, b, xs, ys, ds, nm, rfl, rfl, sa, sb, hn, le, od⟩ | ⟨rfl, rfl | ⟨c, rfl⟩ | ⟨i, rfl⟩ | ⟨x, rfl⟩⟩
    · clear hu hv ok
      have kb : PySem.W.kitOne K (.type nm) (.type "bool") = some false := by rcases hn with rfl | rfl <;> exact kit_ty (by decide +kernel)
      have ki : PySem.W.kitOne K (.type nm) (.type "int") = some false := by rcases hn with rfl | rfl <;> exact kit_ty (by decide +kernel)
      have ks : PySem.W.kitOne K (.type nm) (.type "str") = some false := by rcases hn with rfl | rfl <;> exact kit_ty (by decide +kernel)
      have kd : PySem.W.kitOne K (.type nm) (.type "dict") = some false := by rcases hn with rfl | rfl <;> exact kit_ty (by decide +kernel)
      obtain ⟨r1, kt⟩ : ∃ r, PySem.W.kitOne K (.type nm) (.type "tuple") = some r := by
        rcases hn with rfl | rfl
        · exact ⟨false, kit_ty (by decide +kernel)⟩
        · exact ⟨true, kit_ty (by decide +kernel)⟩
      obtain ⟨r2, kl⟩ : ∃ r, PySem.W.kitOne K (.type nm) (.type "list") = some r := by
        rcases hn with rfl | rfl
        · exact ⟨true, kit_ty (by decide +kernel)⟩
        · exact ⟨false, kit_ty (by decide +kernel)⟩
      have l1 := DpAll.len sa.dp
      have l2 := DpAll.len sb.dp
      refine ⟨_, rfl, rfl, _, rfl, ite2 (fun e => nomatch (of_decide_eq_true e)) (fun _ => ?_)⟩
      refine ⟨_, rfl, _, _, _, _, _, rfl, .ty _, sb.ty, kb, _, rfl, iteF ?_⟩
      refine ⟨_, rfl, _, _, _, _, _, rfl, .ty _, sb.ty, ki, _, rfl, iteF ?_⟩
      refine ⟨_, rfl, _, _, _, _, _, rfl, .ty _, sb.ty, ks, _, rfl, iteF ?_⟩
      refine ⟨_, rfl, _, _, _, _, _, rfl, .ty _, sb.ty, kd, _, rfl, iteF ?_⟩
      refine ⟨_, rfl, _, _, _, _, _, rfl, .ty _, sb.ty, kt, _, rfl, _, _, _, _, _, rfl, .ty _, sa.ty, kt, rfl, _, rfl, iteNS rfl ?_⟩
      refine ⟨_, rfl, _, _, _, _, _, rfl, .ty _, sb.ty, kl, _, rfl, _, _, _, _, _, rfl, .ty _, sa.ty, kl, rfl, _, rfl, iteNS rfl ?_⟩
      refine ⟨_, rfl, a, _, rfl, sa.sq, _, rfl, b, _, rfl, sb.sq, rfl, _, rfl, iteNS (by rw [l1, l2]) ?_⟩
      refine ⟨_, rfl, b, _, rfl, sb.sq, _, rfl, by omega, by omega, fun D nD => ?_⟩
      refine lc_s walk_range (fun i y => y = V.bl true) nD (by omega) (fun _ _ => trivial) ?_ ?_
      · rintro i x H3 H3' acc k hi s3 e3 l3 ⟨rfl, rfl⟩ fin
        have hi1 : i < xs.length := by omega
        have hi2 : i < ys.length := by omega
        obtain ⟨v1, d1, e1, e2, e4, e5⟩ := DpAll.get sa.dp hi1
        obtain ⟨v2, d2, f1, f2, f4, f5⟩ := DpAll.get sb.dp hi2
        rw [e2] at f2
        cases f2
        refine ⟨rfl, _, rfl, _, rfl, ix_any (sq_same s3 sa.sq) (aI (by omega) (by rw [Int.zero_add, Int.toNat_natCast]; exact e1)) ?_⟩
        refine ⟨_, rfl, _, rfl, ix_any (sq_same s3 sb.sq) (aI (by omega) (by rw [Int.zero_add, Int.toNat_natCast]; exact f1)) ?_⟩
        exact ⟨v1, v2, d1, rfl, Dp.same s3 _ _ e4, Dp.same s3 _ _ f4, od _ e5, fun H4 s4 => fin _ _ (s3.trans s4) (s4 _ _ e3) rfl⟩
      · intro H3 zs s3 e3 l3 p3
        refine ⟨D, List.replicate zs.length true, rfl, SqL.of (by rw [← all_true p3]; exact e3), ?_⟩
        have : (List.replicate zs.length true).all id = true := by simp
        rw [this]
        exact q H3 s3
    · refine ⟨_, rfl, rfl, _, rfl, ite2 (fun _ => ?_) (fun e => absurd (decide_eq_true rfl) e)⟩
      refine ⟨_, rfl, rfl, ?_⟩
      have e : decide (V.non = V.non) = true := decide_eq_true rfl
      rw [e]
      exact q H (Same.refl H)
    · refine ⟨_, rfl, rfl, _, rfl, ite2 (fun e => nomatch (of_decide_eq_true e)) (fun _ => ?_)⟩
      refine ⟨_, rfl, _, _, _, _, _, rfl, .ty _, tyx_bl c, kit_ty (r := true) (by decide +kernel), _, rfl, iteT ?_⟩
      refine ⟨_, rfl, _, _, _, _, _, rfl, .ty _, tyx_bl c, kit_ty (r := true) (by decide +kernel), _, rfl, iteT ?_⟩
      refine ⟨_, rfl, _, rfl, rfl, ?_⟩
      have e : decide (V.bl c = V.bl c) = true := decide_eq_true rfl
      rw [e]
      exact q H (Same.refl H)
    · refine ⟨_, rfl, rfl, _, rfl, ite2 (fun e => nomatch (of_decide_eq_true e)) (fun _ => ?_)⟩
      refine ⟨_, rfl, _, _, _, _, _, rfl, .ty _, tyx_int i, kit_ty (r := false) (by decide +kernel), _, rfl, iteF ?_⟩
      refine ⟨_, rfl, _, _, _, _, _, rfl, .ty _, tyx_int i, kit_ty (r := true) (by decide +kernel), _, rfl, iteT ?_⟩
      refine ⟨_, rfl, _, _, _, _, _, rfl, .ty _, tyx_int i, kit_ty (r := true) (by decide +kernel), _, rfl, iteT ?_⟩
      refine ⟨_, rfl, _, _, _, _, _, rfl, .ty _, tyx_int i, kit_ty (r := false) (by decide +kernel), _, rfl, _, rfl, iteT ?_⟩
      refine ⟨_, rfl, _, rfl, rfl, ?_⟩
      have e : decide (V.int i = V.int i) = true := decide_eq_true rfl
      rw [e]
      exact q H (Same.refl H)
    · refine ⟨_, rfl, rfl, _, rfl, ite2 (fun e => nomatch (of_decide_eq_true e)) (fun _ => ?_)⟩
      refine ⟨_, rfl, _, _, _, _, _, rfl, .ty _, tyx_str x, kit_ty (r := false) (by decide +kernel), _, rfl, iteF ?_⟩
      refine ⟨_, rfl, _, _, _, _, _, rfl, .ty _, tyx_str x, kit_ty (r := false) (by decide +kernel), _, rfl, iteF ?_⟩
      refine ⟨_, rfl, _, _, _, _, _, rfl, .ty _, tyx_str x, kit_ty (r := true) (by decide +kernel), _, rfl, iteT ?_⟩
      refine ⟨_, rfl, _, _, _, _, _, rfl, .ty _, tyx_str x, kit_ty (r := true) (by decide +kernel), _, rfl, iteT ?_⟩
      refine ⟨_, rfl, _, rfl, rfl, ?_⟩
      have e : decide (V.str x = V.str x) = true := decide_eq_true rfl
      rw [e]
      exact q H (Same.refl H)
end
end KT
namespace KT
open PySem PySem.Spec PyProof.Rows L2
section
variable {P : Program} {w : World} {K : PySem.W.Frag} {mg : Str → Option Value} {base : Heap}
theorem ok_is_small {T : List Addr} {c PT : Addr} {tk : Tok} (S : Src K mg "is_small" sis_small) (hc : ∀ f, mg "is_small" = some (.ref f) → CodeAt K f c) (TBP : GxR.TabB base mg c PT) (hPT : PT ∈ T) (m_all : mg "all" = none) (c_SMALL_LETTERS : mg "SMALL_LETTERS" = some (.str letters26 tk)) :
    KDef P w K mg base CX0 2 "is_small" ["text"] (spIsSmall T) := by
  refine Src.okT S hc scis_small (fun _ _ _ _ _ _ us hl => match us, hl with | [_], _ => rfl) (fun vs H Q E h => ?_) (fun f A outer s H vs Q E hr h => ?_)
  · obtain ⟨z, rfl, _⟩ := h
    rfl
  · obtain ⟨z, rfl, hz, tb, q⟩ := h
    refine ⟨_, (pss_one (ps_ret (pe_and (pe_cmpR op_ne (pv 0) pe_str (nomark _)) (pe_one (pe_allG hr (by rfl) m_all (by decide +kernel) TBP rfl (genS_of (by decide +kernel)) (pv 0) (fun ok => eltG_in_str rfl rfl rfl c_SMALL_LETTERS ok)))))), ?_⟩
    have hn : (!decide (V.str z = V.str ("" : Str))) = decide (z ≠ ("" : Str)) := by
      by_cases c : z = ("" : Str)
      · subst c
        simp
      · simp [c]
    refine ⟨_, rfl, rfl, _, rfl, ?_⟩
    rw [hn]
    refine ite2 (fun e => ?_) (fun e => ?_)
    · refine ⟨_, rfl, z, rfl, tb PT hPT, fun H2 t => ?_⟩
      have v : z.cps.toList.all (fun c => decide (c ∈ letters26.cps.toList)) = isSmall z := by
        unfold isSmall allIn
        rw [e, Bool.true_and]
      rw [v]
      exact q H2 (ext_tabbed (tb PT hPT) t) (tb_tabbed tb t)
    · have v : false = isSmall z := by
        unfold isSmall
        cases h : decide (z ≠ ("" : Str)) with
        | false => rfl
        | true => exact absurd h e
      rw [v]
      exact q H (ExtT.refl H) tb
end
end KT
namespace KT
open PySem PySem.Spec PyProof.Rows L2
section
variable {P : Program} {w : World} {K : PySem.W.Frag} {mg : Str → Option Value} {base : Heap}
theorem ok_is_marks {T : List Addr} {c PT D : Addr} (S : Src K mg "is_marks" sis_marks) (hc : ∀ f, mg "is_marks" = some (.ref f) → CodeAt K f c) (TBP : GxR.TabB base mg c PT) (hPT : PT ∈ T) (m_all : mg "all" = none) (m_len : mg "len" = none) (c_MOST_MARKS : ∃ t, mg "MOST_MARKS" = some (.int 6 t)) (c_NUMBER_OF : mg "NUMBER_OF" = some (.ref D)) (D_NUMBER_OF : KTexts K w D dotDash) :
    KDef P w K mg base CX0 2 "is_marks" ["text"] (spIsMarks T) := by
  refine Src.okT S hc scis_marks (fun _ _ _ _ _ _ us hl => match us, hl with | [_], _ => rfl) (fun vs H Q E h => ?_) (fun f A outer s H vs Q E hr h => ?_)
  · obtain ⟨z, rfl, _⟩ := h
    rfl
  · obtain ⟨z, rfl, hz, tb, q⟩ := h
    refine ⟨_, (pss_one (ps_ret (pe_and (pe_chain op_le op_le pe_int (pe_callB call_len_str (by rfl) m_len (by decide +kernel) (pa_cons (pv 0) pa_nil)) (pe_gI rfl c_MOST_MARKS)) (pe_one (pe_allG hr (by rfl) m_all (by decide +kernel) TBP rfl (genS_of (by decide +kernel)) (pv 0) (fun ok => eltG_in_dict rfl rfl rfl c_NUMBER_OF D_NUMBER_OF ok)))))), ?_⟩
    have no : ∀ b : Bool, b = false → (decide (1 ≤ z.length ∧ z.length ≤ 6) = b) → V.bl b = V.bl (isMarks z) := fun b h1 h2 => by
      unfold isMarks
      rw [h2, h1, Bool.false_and]
    refine ⟨_, rfl, z, rfl, lz (by omega), _, _, rfl, rfl, _, rfl, ite2 (fun e1 => ?_) (fun e1 => ?_)⟩
    · have e1 := of_decide_eq_true e1
      refine ⟨_, _, rfl, rfl, _, rfl, ite2 (fun e2 => ?_) (fun e2 => ?_)⟩
      · have e2 := of_decide_eq_true e2
        refine ⟨_, rfl, z, rfl, tb PT hPT, fun H2 t => ?_⟩
        have v : z.cps.toList.all (fun c => decide ((⟨#[c]⟩ : Str) ∈ dotDash)) = isMarks z := by
          unfold isMarks
          rw [decide_eq_true (show 1 ≤ z.length ∧ z.length ≤ 6 by omega), Bool.true_and]
        rw [v]
        exact q H2 (ext_tabbed (tb PT hPT) t) (tb_tabbed tb t)
      · have e2 : ¬ (z.length : Int) ≤ 6 := fun h => e2 (decide_eq_true h)
        rw [no false rfl (decide_eq_false (by omega))]
        exact q H (ExtT.refl H) tb
    · have e1 : ¬ (1 : Int) ≤ (z.length : Int) := fun h => e1 (decide_eq_true h)
      refine ⟨_, rfl, ?_⟩
      refine iteF ?_
      rw [no false rfl (decide_eq_false (by omega))]
      exact q H (ExtT.refl H) tb
end
end KT
namespace KT
open PySem PySem.Spec PyProof.Rows L2
section
variable {P : Program} {w : World} {K : PySem.W.Frag} {mg : Str → Option Value} {base : Heap}
theorem ok_is_number {T : List Addr} {c PT : Addr} {tk : Tok} (S : Src K mg "is_number" sis_number) (hc : ∀ f, mg "is_number" = some (.ref f) → CodeAt K f c) (TBP : GxR.TabB base mg c PT) (hPT : PT ∈ T) (m_all : mg "all" = none) (m_len : mg "len" = none) (c_FIGURES : mg "FIGURES" = some (.str figures10 tk)) (c_MOST_FIGURES : ∃ t, mg "MOST_FIGURES" = some (.int 4 t)) :
    KDef P w K mg base CX0 2 "is_number" ["word"] (spIsNum T) := by
  refine Src.okT S hc scis_number (fun _ _ _ _ _ _ us hl => match us, hl with | [_], _ => rfl) (fun vs H Q E h => ?_) (fun f A outer s H vs Q E hr h => ?_)
  · obtain ⟨z, rfl, _⟩ := h
    rfl
  · obtain ⟨z, rfl, hz, tb, q⟩ := h
    refine ⟨_, (pss_cons (ps_if (PW.pt (pw_or (pt_not (pt_chain op_le op_le pe_int (pe_callB call_len_str (by rfl) m_len (by decide +kernel) (pa_cons (pv 0) pa_nil)) (pe_gI rfl c_MOST_FIGURES))) (pw_or1 (pt_cmpR op_eq (pe_ix ix_str (pv 0) pe_int (fun _ _ => rfl)) pe_str (nomark _)))))
      (pss_one (ps_ret pe_bl))
      pss_nil)
      (pss_one (ps_ret (pe_allG hr (by rfl) m_all (by decide +kernel) TBP rfl (genS_of (by decide +kernel)) (pv 0) (fun ok => eltG_in_str rfl rfl rfl c_FIGURES ok))))), ?_⟩
    have no : decide (1 ≤ z.length ∧ z.length ≤ 4) = false → isNum z = false := fun h => by
      unfold isNum
      rw [h, Bool.false_and]
    refine ⟨_, rfl, z, rfl, lz (by omega), _, _, rfl, rfl, _, rfl, ite2 (fun e1 => ?_) (fun e1 => ?_)⟩
    · have e1 := of_decide_eq_true e1
      refine ⟨_, _, rfl, rfl, _, rfl, ite2 (fun e2 => ?_) (fun e2 => ?_)⟩
      rotate_left
      · have e2 : (z.length : Int) ≤ 4 := by
          by_cases h : (z.length : Int) ≤ 4
          · exact h
          · exact absurd (by rw [decide_eq_false h]; rfl) e2
        have hl := TL.len_tl z
        obtain ⟨c0, cs, ec⟩ : ∃ c0 cs, TL.tl z = c0 :: cs := by
          cases h : TL.tl z with
          | nil =>
            rw [h] at hl
            have : z.length = 0 := hl
            omega
          | cons c0 cs => exact ⟨c0, cs, rfl⟩
        have es : (V.str (⟨#[c0]⟩ : Str) = V.str "0") ↔ c0 = 48 := by
          have e0 : ("0" : Str) = ⟨#[48]⟩ := by decide +kernel
          rw [e0]
          constructor
          · intro h
            injection h with h
            injection h with h
            injection h with h
            injection h
          · rintro rfl
            rfl
        have at0 : atI z.cps.toList 0 = some c0 := aI (by decide) (by
          show (TL.tl z)[(0 : Int).toNat]? = some c0
          rw [ec]
          rfl)
        refine ⟨_, rfl, _, _, c0, rfl, rfl, lz (by omega), at0, rfl, _, rfl, ite2 (fun e3 => ?_) (fun e3 => ?_)⟩
        · have e3 := es.mp (of_decide_eq_true e3)
          have v : isNum z = false := by
            unfold isNum
            rw [ec, e3]
            simp
          show Q (.bl false) H
          rw [← v]
          exact q H (ExtT.refl H) tb
        · have e3 : c0 ≠ 48 := fun h => e3 (decide_eq_true (es.mpr h))
          refine ⟨_, rfl, z, rfl, tb PT hPT, fun H2 t => ?_⟩
          have v : z.cps.toList.all (fun c => decide (c ∈ figures10.cps.toList)) = isNum z := by
            unfold isNum allIn
            rw [decide_eq_true (show 1 ≤ z.length ∧ z.length ≤ 4 by omega), Bool.true_and, ec]
            have : (!decide ((c0 :: cs).head? = some 48)) = true := by simp [e3]
            rw [this, Bool.true_and]
          rw [v]
          exact q H2 (ext_tabbed (tb PT hPT) t) (tb_tabbed tb t)
      · have e2 : ¬ (z.length : Int) ≤ 4 := fun h => by rw [decide_eq_true h] at e2; cases e2
        have v := no (decide_eq_false (by omega))
        show Q (.bl false) H
        rw [← v]
        exact q H (ExtT.refl H) tb
    · have e1 : ¬ (1 : Int) ≤ (z.length : Int) := fun h => e1 (decide_eq_true h)
      have v := no (decide_eq_false (by omega))
      refine ⟨_, rfl, ?_⟩
      show Q (.bl false) H
      rw [← v]
      exact q H (ExtT.refl H) tb
end
end KT
namespace KT
open PySem PySem.Spec PyProof.Rows L2
section
variable {P : Program} {w : World} {K : PySem.W.Frag} {mg : Str → Option Value} {base : Heap}
theorem ok_is_first_row {T : List Addr} {c PT : Addr} (S : Src K mg "is_first_row" sis_first_row) (hc : ∀ f, mg "is_first_row" = some (.ref f) → CodeAt K f c) (TBP : GxR.TabB base mg c PT) (hPT : PT ∈ T) (m_all : mg "all" = none) (m_len : mg "len" = none)
    (Gis_number : KDef P w K mg base CX0 2 "is_number" ["word"] (spIsNum T)) : KDef P w K mg base CX0 6 "is_first_row" ["row"] (spIsFirst K T) := by
  have hsp := num_sp (T := T)
  refine Src.okT S hc scis_first_row (fun _ _ _ _ _ _ us hl => match us, hl with | [_], _ => rfl) (fun vs H Q E h => ?_) (fun f A outer s H vs Q E hr h => ?_)
  · obtain ⟨a, r, rfl, _⟩ := h
    rfl
  · obtain ⟨a, r, rfl, ha, R, tb, q⟩ := h
    refine ⟨_, (pss_one (ps_ret (pe_and (pe_cmpR op_eq (pe_ix (ix_listK (K := K) rfl) (pv 0) pe_int (fun _ _ => rfl)) pe_str (nomark _)) (pe_and (pe_cmpR op_ge (pe_callB (call_len_seqK (K := K) rfl) (by rfl) m_len (by decide +kernel) (pa_cons (pv 0) pa_nil)) pe_int (nomark _)) (pe_one (pe_allF Gis_number hsp hPT (hr.mono (by decide)) (by rfl) m_all (by decide +kernel) TBP rfl (genS_of (by decide +kernel)) (by decide +kernel) (pe_slice (sl_listK (K := K) rfl) (pv 0) (po_some pe_int) po_none))))))), ?_⟩
    have at0 : atI (r.map V.str) 0 = some (V.str (w0 r)) := aI (by decide) (by
      cases r with
      | nil => exact absurd rfl R.ne
      | cons x r => rfl)
    have fw : ∀ {x y : Str}, decide (V.str x = V.str y) = decide (x = y) := fun {x y} => by
      by_cases h : x = y
      · rw [h, decide_eq_true rfl, decide_eq_true rfl]
      · rw [decide_eq_false h, decide_eq_false fun z => h (V.str.inj z)]
    have few := R.few
    refine ⟨_, rfl, _, _, _, _, rfl, rfl, ha, at0, rfl, _, rfl, ite2 (fun e1 => ?_) (fun e1 => ?_)⟩
    · rw [fw] at e1
      refine ⟨_, rfl, a, _, rfl, .inl ha, _, _, rfl, rfl, _, rfl, ite2 (fun e2 => ?_) (fun e2 => ?_)⟩
      · have e2 := of_decide_eq_true e2
        rw [List.length_map] at e2
        refine ⟨_, rfl, _, rfl, a, _, rfl, ha, fun p np => ?_⟩
        have ec : cutV (r.map V.str) (some 1) none = (r.drop 1).map V.str := by
          rw [show (1 : Int) = ((1 : Nat) : Int) from rfl, cut_fromN _ (by rw [List.length_map]; omega), List.map_drop]
        rw [ec]
        have sp := sm (o := .lst ((r.drop 1).map V.str)) np
        refine ⟨p, r.drop 1, rfl, upd_same, tb_same tb sp, fun z hz => (R.each z (List.mem_of_mem_drop hz)).1, fun H2 x2 t2 => ?_⟩
        have v : (r.drop 1).all isNum = isFirst r := by
          unfold isFirst
          rw [e1, decide_eq_true (show 2 ≤ r.length by omega), Bool.true_and, Bool.true_and]
        rw [v]
        exact q H2 ((ext_same sp).trans x2) t2
      · have e2 : ¬ ((r.map V.str).length : Int) ≥ 2 := fun h => e2 (decide_eq_true h)
        rw [List.length_map] at e2
        have v2 : false = isFirst r := by
          unfold isFirst
          rw [decide_eq_false (show ¬ 2 ≤ r.length by omega), Bool.false_and, Bool.and_false]
        rw [v2]
        exact q H (ExtT.refl H) tb
    · rw [fw] at e1
      have e1 : decide (w0 r = ("taps" : Str)) = false := by
        cases h : decide (w0 r = ("taps" : Str)) with
        | false => rfl
        | true => exact absurd h e1
      have v2 : false = isFirst r := by
        unfold isFirst
        rw [e1, Bool.false_and]
      rw [v2]
      exact q H (ExtT.refl H) tb
end
end KT
namespace KT
open PySem PySem.Spec PyProof.Rows L2
section
variable {P : Program} {w : World} {K : PySem.W.Frag} {mg : Str → Option Value} {base : Heap}
theorem ok_is_next_row (S : Src K mg "is_next_row" sis_next_row) (m_len : mg "len" = none) : KDef P w K mg base CX0 1 "is_next_row" ["row", "ahead"] (spIsNext K) := by
  refine S.ok scis_next_row (fun _ _ _ _ _ _ us hl => match us, hl with | [_, _], _ => rfl) (fun vs H Q E h => ?_) (fun f cdv A outer s H vs Q E hr h => ?_)
  · obtain ⟨a, b, r, u, rfl, _⟩ := h
    rfl
  · obtain ⟨a, b, r, u, rfl, ha, hb, R, U, q⟩ := h
    refine ⟨_, (pss_cons (ps_if (pt_cmpR (op_in_seqK (K := K) rfl) pe_str (pv 0) (by rfl))
      (pss_one (ps_ret pe_bl))
      pss_nil)
      (pss_cons (ps_if (pt_cmpR op_eq (pe_ix (ix_listK (K := K) rfl) (pv 0) pe_int (fun _ _ => rfl)) pe_str (nomark _))
      (pss_one (ps_ret (pe_and (pe_cmpR op_eq (pe_callB (call_len_seqK (K := K) rfl) (by rfl) m_len (by decide +kernel) (pa_cons (pv 0) pa_nil)) pe_int (nomark _)) (pe_one (pe_cmpR op_ne (pe_ix (ix_listK (K := K) rfl) (pv 1) pe_int (fun _ _ => rfl)) pe_str (nomark _))))))
      pss_nil)
      (pss_one (ps_ret (pe_and (pe_cmpR op_eq (pe_ix (ix_listK (K := K) rfl) (pv 0) pe_int (fun _ _ => rfl)) pe_str (nomark _)) (pe_one (pe_cmpR op_eq (pe_callB (call_len_seqK (K := K) rfl) (by rfl) m_len (by decide +kernel) (pa_cons (pv 0) pa_nil)) pe_int (nomark _)))))))), ?_⟩
    have at0 : ∀ {r : List Str}, RowW r → atI (r.map V.str) 0 = some (V.str (w0 r)) := fun {r} R => aI (by decide) (by
      cases r with
      | nil => exact absurd rfl R.ne
      | cons x r => rfl)
    have fw : ∀ {x y : Str}, decide (V.str x = V.str y) = decide (x = y) := fun {x y} => by
      by_cases h : x = y
      · rw [h, decide_eq_true rfl, decide_eq_true rfl]
      · rw [decide_eq_false h, decide_eq_false fun z => h (V.str.inj z)]
    have few := R.few
    refine ⟨_, rfl, a, _, rfl, .inl ha, rfl, flat_strs r, _, rfl, ?_⟩
    rw [inV_strs]
    refine ite2 (fun e => ?_) (fun e => ?_)
    · have e := of_decide_eq_true e
      have v : isNext r u = false := by
        unfold isNext
        rw [if_pos e]
      show Q (.bl false) H
      rw [← v]
      exact q H (Same.refl H)
    have e : ¬ ("" : Str) ∈ r := fun h => e (decide_eq_true h)
    refine ⟨_, rfl, _, _, _, _, rfl, rfl, ha, at0 R, rfl, _, rfl, ite2 (fun e1 => ?_) (fun e1 => ?_)⟩
    · have e1 := V.str.inj (of_decide_eq_true e1)
      have v : isNext r u = (decide (r.length = 3) && !decide (w0 u = ("word" : Str))) := by
        unfold isNext
        rw [if_neg e, if_pos e1]
      have il : decide (V.int ((r.map V.str).length : Int) = V.int 3) = decide (r.length = 3) := by
        rw [List.length_map]
        by_cases h : r.length = 3
        · rw [h]
          rfl
        · rw [decide_eq_false h, decide_eq_false fun z => h (by have := V.int.inj z; omega)]
      refine ⟨_, rfl, a, _, rfl, .inl ha, rfl, _, rfl, ite2 (fun e2 => ?_) (fun e2 => ?_)⟩
      · rw [il] at e2
        refine ⟨_, rfl, _, _, _, _, rfl, rfl, hb, at0 U, rfl, ?_⟩
        have v2 : (!decide (V.str (w0 u) = V.str ("word" : Str))) = isNext r u := by
          rw [fw, v, e2, Bool.true_and]
        rw [v2]
        exact q H (Same.refl H)
      · rw [il] at e2
        have e2 : decide (r.length = 3) = false := by
          cases h : decide (r.length = 3) with
          | false => rfl
          | true => exact absurd h e2
        have v2 : false = isNext r u := by
          rw [v, e2, Bool.false_and]
        rw [v2]
        exact q H (Same.refl H)
    · have e1 : w0 r ≠ ("letter" : Str) := fun h => e1 (decide_eq_true (congrArg V.str h))
      have v : isNext r u = (decide (w0 r = ("word" : Str)) && decide (r.length = 2)) := by
        unfold isNext
        rw [if_neg e, if_neg e1]
      have il : decide (V.int ((r.map V.str).length : Int) = V.int 2) = decide (r.length = 2) := by
        rw [List.length_map]
        by_cases h : r.length = 2
        · rw [h]
          rfl
        · rw [decide_eq_false h, decide_eq_false fun z => h (by have := V.int.inj z; omega)]
      refine ⟨_, rfl, _, _, _, _, rfl, rfl, ha, at0 R, rfl, _, rfl, ite2 (fun e2 => ?_) (fun e2 => ?_)⟩
      · rw [fw] at e2
        refine ⟨_, rfl, a, _, rfl, .inl ha, rfl, ?_⟩
        have v2 : decide (V.int ((r.map V.str).length : Int) = V.int 2) = isNext r u := by
          rw [il, v, e2, Bool.true_and]
        rw [v2]
        exact q H (Same.refl H)
      · rw [fw] at e2
        have e2 : decide (w0 r = ("word" : Str)) = false := by
          cases h : decide (w0 r = ("word" : Str)) with
          | false => rfl
          | true => exact absurd h e2
        have v2 : false = isNext r u := by
          rw [v, e2, Bool.false_and]
        rw [v2]
        exact q H (Same.refl H)
end
end KT
namespace KT
open PySem PySem.Spec PyProof.Rows L2
section
variable {P : Program} {w : World} {K : PySem.W.Frag} {mg : Str → Option Value} {base : Heap}
theorem ok_BadTaps_init {f C T : Addr} {fd : FuncData} (F : FunD K "__init__" "BadTaps.__init__" (defArgs sBadTaps___init__) (defBody sBadTaps___init__) (defScope sBadTaps___init__) [] [] f fd) (c_TapError : mg "TapError" = some (.ref T)) (inhT : InhI K T) (oex : OexC K C)
    (na : PySem.W.findIn K (.ref C) "at" = some none) (nw : PySem.W.findIn K (.ref C) "why" = some none) : FnOk P w K mg base CX0 1 f fd ["self", "at", "why"] (spBadInit K C) := by
  refine F.ok scBadTaps___init__ (fun vs H Q E h => ?_) (fun cdv A outer s H vs Q E hr h => ?_)
  · obtain ⟨a, i, why, rfl, _⟩ := h
    rfl
  · obtain ⟨a, i, why, rfl, ea, hi, hw, q⟩ := h
    refine ⟨_, PSs.nox (pss_cons (ps_expr (pe_binit (K := K) rfl (by rfl) c_TapError inhT (pa_cons (pv 0) (pa_cons (pe_joined (.cons pe_str (.cons (pe_fmt (pv 1)) (.cons pe_str (.cons (pe_fmt (pv 2)) .nil))))) pa_nil))))
      (pss_cons (ps_ostK (K := K) rfl (pv 0) (pv 1))
      (pss_one (ps_ostK (K := K) rfl (pv 0) (pv 2))))), ?_⟩
    have lw : ("time " : Str).length ≤ 10 := by decide +kernel
    have lc : (": " : Str).length ≤ 10 := by decide +kernel
    have li := nat_text i hi
    have lg : ((i : Nat) : Int).natAbs.log2 < 1920 := by
      have h : ∀ j : Fin 31, ((j.val : Nat) : Int).natAbs.log2 < 1920 := by decide +kernel
      exact h ⟨i, by omega⟩
    refine ⟨_, rfl, _, rfl, ?_, _, rfl, .inr ⟨i, rfl, lg, _, rfl, ?_, _, rfl, ?_, _, rfl, .inl ⟨why, rfl, ?_, _, rfl, ?_, ?_⟩⟩⟩
    · exact lz (by rw [Str.length_append]; show 0 + _ ≤ _; omega)
    · exact lz (by rw [Str.length_append, Str.length_append]; show 0 + _ + _ ≤ _; omega)
    · exact lz (by rw [Str.length_append, Str.length_append, Str.length_append]; show 0 + _ + _ + _ ≤ _; omega)
    · exact lz (by omega)
    · exact lz (by rw [Str.length_append, Str.length_append, Str.length_append, Str.length_append]; show 0 + _ + _ + _ + _ ≤ _; omega)
    refine ⟨a, C, _, rfl, by show 1 ≤ 1000; decide, oex, ea, ?_⟩
    refine ⟨_, rfl, _, rfl, a, C, rfl, oex, na, .inl ⟨ea, fun d nd dne => ?_⟩⟩
    refine ⟨_, rfl, _, rfl, a, C, rfl, oex, nw, .inr ⟨d, [("at", .int (i : Int))], upd_same, ?_, by show 1 ≤ 900; decide, ?_⟩⟩
    · rw [upd_ne dne, upd_same]
    · exact q d nd dne
end
end KT
namespace KT
open PySem PySem.Spec PyProof.Rows L2
section
variable {P : Program} {w : World} {K : PySem.W.Frag} {mg : Str → Option Value} {base : Heap}
theorem ok_BadTable_init {f C T : Addr} {fd : FuncData} (F : FunD K "__init__" "BadTable.__init__" (defArgs sBadTable___init__) (defBody sBadTable___init__) (defScope sBadTable___init__) [] [] f fd) (c_TapError : mg "TapError" = some (.ref T)) (inhT : InhI K T) (oex : OexC K C)
    (na : PySem.W.findIn K (.ref C) "at" = some none) (nw : PySem.W.findIn K (.ref C) "why" = some none) : FnOk P w K mg base CX0 1 f fd ["self", "at", "why"] (spBadInit K C) := by
  refine F.ok scBadTable___init__ (fun vs H Q E h => ?_) (fun cdv A outer s H vs Q E hr h => ?_)
  · obtain ⟨a, i, why, rfl, _⟩ := h
    rfl
  · obtain ⟨a, i, why, rfl, ea, hi, hw, q⟩ := h
    refine ⟨_, PSs.nox (pss_cons (ps_expr (pe_binit (K := K) rfl (by rfl) c_TapError inhT (pa_cons (pv 0) (pa_cons (pe_joined (.cons pe_str (.cons (pe_fmt (pv 1)) (.cons pe_str (.cons (pe_fmt (pv 2)) .nil))))) pa_nil))))
      (pss_cons (ps_ostK (K := K) rfl (pv 0) (pv 1))
      (pss_one (ps_ostK (K := K) rfl (pv 0) (pv 2))))), ?_⟩
    have lw : ("row " : Str).length ≤ 10 := by decide +kernel
    have lc : (": " : Str).length ≤ 10 := by decide +kernel
    have li := nat_text i hi
    have lg : ((i : Nat) : Int).natAbs.log2 < 1920 := by
      have h : ∀ j : Fin 31, ((j.val : Nat) : Int).natAbs.log2 < 1920 := by decide +kernel
      exact h ⟨i, by omega⟩
    refine ⟨_, rfl, _, rfl, ?_, _, rfl, .inr ⟨i, rfl, lg, _, rfl, ?_, _, rfl, ?_, _, rfl, .inl ⟨why, rfl, ?_, _, rfl, ?_, ?_⟩⟩⟩
    · exact lz (by rw [Str.length_append]; show 0 + _ ≤ _; omega)
    · exact lz (by rw [Str.length_append, Str.length_append]; show 0 + _ + _ ≤ _; omega)
    · exact lz (by rw [Str.length_append, Str.length_append, Str.length_append]; show 0 + _ + _ + _ ≤ _; omega)
    · exact lz (by omega)
    · exact lz (by rw [Str.length_append, Str.length_append, Str.length_append, Str.length_append]; show 0 + _ + _ + _ + _ ≤ _; omega)
    refine ⟨a, C, _, rfl, by show 1 ≤ 1000; decide, oex, ea, ?_⟩
    refine ⟨_, rfl, _, rfl, a, C, rfl, oex, na, .inl ⟨ea, fun d nd dne => ?_⟩⟩
    refine ⟨_, rfl, _, rfl, a, C, rfl, oex, nw, .inr ⟨d, [("at", .int (i : Int))], upd_same, ?_, by show 1 ≤ 900; decide, ?_⟩⟩
    · rw [upd_ne dne, upd_same]
    · exact q d nd dne
end
end KT
namespace KT
open PySem PySem.Spec PyProof.Rows L2
section
variable {P : Program} {w : World} {K : PySem.W.Frag} {mg : Str → Option Value} {base : Heap}
theorem ok_BadText_init {f C T : Addr} {fd : FuncData} (F : FunD K "__init__" "BadText.__init__" (defArgs sBadText___init__) (defBody sBadText___init__) (defScope sBadText___init__) [] [] f fd) (c_TapError : mg "TapError" = some (.ref T)) (inhT : InhI K T) (oex : OexC K C)
    (nr : PySem.W.findIn K (.ref C) "row" = some none) : FnOk P w K mg base CX0 1 f fd ["self", "row"] (spTextInit C) := by
  refine F.ok scBadText___init__ (fun vs H Q E h => ?_) (fun cdv A outer s H vs Q E hr h => ?_)
  · obtain ⟨a, i, rfl, _⟩ := h
    rfl
  · obtain ⟨a, i, rfl, ea, hi, q⟩ := h
    refine ⟨_, PSs.nox (pss_cons (ps_expr (pe_binit (K := K) rfl (by rfl) c_TapError inhT (pa_cons (pv 0) (pa_cons (pe_joined (.cons pe_str (.cons (pe_fmt (pv 1)) (.cons pe_str .nil)))) pa_nil))))
      (pss_one (ps_ostK (K := K) rfl (pv 0) (pv 1)))), ?_⟩
    have lw : ("row " : Str).length ≤ 10 := by decide +kernel
    have lc : (" is not as it should be" : Str).length ≤ 30 := by decide +kernel
    have li := nat_text i hi
    have lg : ((i : Nat) : Int).natAbs.log2 < 1920 := by
      have h : ∀ j : Fin 31, ((j.val : Nat) : Int).natAbs.log2 < 1920 := by decide +kernel
      exact h ⟨i, by omega⟩
    refine ⟨_, rfl, _, rfl, ?_, _, rfl, .inr ⟨i, rfl, lg, _, rfl, ?_, _, rfl, ?_, ?_⟩⟩
    · exact lz (by rw [Str.length_append]; show 0 + _ ≤ _; omega)
    · exact lz (by rw [Str.length_append, Str.length_append]; show 0 + _ + _ ≤ _; omega)
    · exact lz (by rw [Str.length_append, Str.length_append, Str.length_append]; show 0 + _ + _ + _ ≤ _; omega)
    refine ⟨a, C, _, rfl, by show 1 ≤ 1000; decide, oex, ea, ?_⟩
    refine ⟨_, rfl, _, rfl, a, C, rfl, oex, nr, .inl ⟨ea, fun d nd dne => ?_⟩⟩
    exact q d nd dne
end
end KT
namespace KT
open PySem PySem.Spec PyProof.Rows L2
section
variable {P : Program} {w : World} {K : PySem.W.Frag} {mg : Str → Option Value} {base : Heap}
theorem ok_check_times_m {B : Addr} (S : Src K mg "check_times" scheck_times) (m_len : mg "len" = none) (m_enumerate : mg "enumerate" = none) (c_MOST_TIMES : ∃ t, mg "MOST_TIMES" = some (.int 25 t)) (c_SHORTEST : ∃ t, mg "SHORTEST" = some (.int 1 t)) (c_LONGEST : ∃ t, mg "LONGEST" = some (.int 9999 t))
    (EBadTaps : KExc P w K mg base B 1 "BadTaps" ["self", "at", "why"] (spBadInit K B)) : KDef P w K mg base (L2N.CX P w) 3 "check_times" ["times"] (spCheckX2 K B) := by
  refine Src.okX S sccheck_times (fun _ _ _ _ _ _ us hl => match us, hl with | [_], _ => rfl) (fun vs H Q E h => ?_) (fun f cdv A outer s H vs Q E hr h => ?_)
  · obtain ⟨a, ts, rfl, _⟩ := h
    rfl
  · obtain ⟨a, ns, rfl, hS, le, q⟩ := h
    refine ⟨_, (pss_cons (ps_set (i := 1) sccheck_times.nd rfl (.inl rfl) (pe_callB (call_len_seqK (K := K) rfl) (by rfl) m_len (by decide +kernel) (pa_cons (pv 0) pa_nil)))
      (C8.pss_cut (ps_if (PW.pt (pw_or (pt_cmpR op_gt (pv 1) (pe_gI rfl c_MOST_TIMES) (nomark _)) (pw_or1 (pt_cmpR op_eq (pe_op op_mod (pv 1) pe_int) pe_int (nomark _)))))
      (pss_one (L2N.ps_raise rfl (L2N.takes_of rfl rfl rfl rfl) (pmk_D EBadTaps (hr.mono (by decide)) (by rfl) (pa_cons pe_int (pa_cons pe_str pa_nil)))))
      pss_nil)
      (pss_one (ps_for (L2.passes_of rfl) rfl (pi_enumK (K := K) rfl (by rfl) m_enumerate (pa_cons (pv 0) pa_nil)) (pg_tup rfl (pgs_cons (pg_name (i := 2) sccheck_times.nd rfl (.inl rfl)) (pgs_cons (pg_name (i := 3) sccheck_times.nd rfl (.inl rfl)) pgs_nil)))
      (pss_one (ps_if (pt_not (pt_chain op_le op_le (pe_gI rfl c_SHORTEST) (pv 3) (pe_gI rfl c_LONGEST)))
      (pss_one (L2N.ps_raise rfl (L2N.takes_of rfl rfl rfl rfl) (pmk_D EBadTaps (hr.mono (by decide)) (by rfl) (pa_cons (pv 2) (pa_cons pe_str pa_nil)))))
      pss_nil)))))), ?_⟩
    have lN : (ns.map V.int).length = ns.length := List.length_map ..
    refine ⟨_, rfl, a, _, rfl, .inl hS, ?_⟩
    refine ⟨fun σ H1 => σ = [some (.ref a), some (.int ((ns.map V.int).length : Int)), none, none] ∧ H = H1 ∧ Tps ns ∧ ∀ H', Same H H' → Q .non H', ?_, ?_⟩
    · rcases q with ⟨T, q⟩ | ⟨ev, hE⟩
      · have h1 := T.le
        have h2 := T.odd
        refine ⟨_, rfl, _, _, rfl, rfl, _, rfl, ite2 (fun e => ?_) (fun _ => ?_)⟩
        · have e := of_decide_eq_true e
          rw [lN] at e
          omega
        refine ⟨_, rfl, _, _, rfl, rfl, by show (0 : Int) < 2; decide, rfl, _, rfl, ite2 (fun e => ?_) (fun _ => ?_)⟩
        · have e := V.int.inj (of_decide_eq_true e)
          rw [lN] at e
          omega
        exact ⟨rfl, rfl, T, q⟩
      · have go : ([V.int 0, V.str ("many" : Str)] : List V).length ≤ 1000 ∧ ∀ a, H a = none → spBadInit K B (.ref a :: ([V.int 0, V.str ("many" : Str)] ++ [])) (upd H a (exo a B none)) (fun v H2 => v = .non ∧ ∃ (d : Addr) (fs : List (Str × V)), H2 a = some (exo a B (some d)) ∧ H2 d = some (exd d fs) ∧ H d = none ∧ E (.ref B) (some d) (upd (del H2 a) d (.xd fs))) (fun _ _ _ => False) :=
          ⟨by show 2 ≤ 1000; decide, fun a na => bad_made2 (i := 0) (by omega) (by decide +kernel) hE a na⟩
        refine ⟨_, rfl, _, _, rfl, rfl, _, rfl, ite2 (fun _ => go) (fun _ => ?_)⟩
        refine ⟨_, rfl, _, _, rfl, rfl, by show (0 : Int) < 2; decide, rfl, _, rfl, ite2 (fun _ => go) (fun h2 => ?_)⟩
        have h2 : ¬ (V.int (((ns.map V.int).length : Int) % 2) = V.int 0) := fun z => h2 (decide_eq_true z)
        rw [lN] at h2
        exact absurd (congrArg V.int (show ((ns.length : Int) % 2) = 0 by omega)) h2
    rintro σ H1 ⟨rfl, rfl, T, q⟩
    refine ⟨_, rfl, a, _, rfl, hS, for_it walk_enum (fun i σ H1 => ∃ y z : Option V, σ = [some (.ref a), some (.int ((ns.map V.int).length : Int)), y, z] ∧ Same H H1) ⟨none, none, rfl, Same.refl H⟩ (fun i σ H1 _ ⟨_, _, _, s1⟩ => s1.seq hS) ?_ ?_⟩
    · rintro i x σ H1 H1' hi ⟨y, z, rfl, s1⟩ ⟨Tp, x1, x2, rfl, nT, rfl, f1, f2⟩
      cases f1
      obtain ⟨t, rfl, et⟩ := int_at f2
      obtain ⟨b1, b2⟩ := T.all i t et
      refine ⟨_, _, rfl, .inl (.inl upd_same), rfl, _, _, rfl, _, _, rfl, rfl, ?_⟩
      refine ⟨_, rfl, _, _, rfl, rfl, _, rfl, ite2 (fun e1 => ?_) (fun e1 => ?_)⟩
      · refine ⟨_, _, rfl, rfl, _, rfl, ite2 (fun e2 => ?_) (fun e2 => ?_)⟩
        · rw [decide_eq_true b2] at e2
          cases e2
        · exact ⟨_, _, rfl, s1.trans (sm nT)⟩
      · exact absurd (decide_eq_true b1) e1
    · rintro σ H1 ⟨y, z, rfl, s1⟩
      exact q H1 s1
end
end KT
namespace KT
open PySem PySem.Spec PyProof.Rows L2
section
variable {P : Program} {w : World} {K : PySem.W.Frag} {mg : Str → Option Value} {base : Heap}
theorem ok_Taps_init_m {f C B : Addr} {fd : FuncData} (F : FunD K "__init__" "Taps.__init__" (defArgs sTaps___init__) (defBody sTaps___init__) (defScope sTaps___init__) [] [] f fd) (cl : Cls K C) (nT : NoAttr K C "_times") (m_list : mg "list" = none)
    (Xcheck_times : KDef P w K mg base (L2N.CX P w) 3 "check_times" ["times"] (spCheckX2 K B)) : FnOk P w K mg base (L2N.CX P w) 4 f fd ["self", "times"] (spTapsX2 K C B) := by
  refine F.ok scTaps___init__ (fun vs H Q E h => ?_) (fun cdv A outer s H vs Q E hr h => ?_)
  · obtain ⟨x, a, dx, ts, rfl, _⟩ := h
    rfl
  · obtain ⟨x, a, dx, ns, rfl, hx, hS, le, q⟩ := h
    refine ⟨_, (pss_cons (ps_expr (pe_callX Xcheck_times (L2N.takes_of rfl rfl rfl rfl) (hr.mono (by decide)) (by rfl) (pa_cons (pv 1) pa_nil)))
      (pss_one (ps_fldK (K := K) rfl (pv 0) (pe_callTy (call_list_ofK (K := K) rfl) (by rfl) m_list (by decide +kernel) (pa_cons (pv 1) pa_nil)) rfl))), ?_⟩
    refine ⟨_, rfl, a, ns, rfl, hS, le, ?_⟩
    rcases q with ⟨T, q⟩ | ⟨ev, hE⟩
    · refine .inl ⟨T, fun H1 s1 => ?_⟩
      refine ⟨_, rfl, a, _, rfl, .inl (s1.seq hS), fun l nl => ?_⟩
      have nxl : x ≠ l := ne_of_none (s1 _ _ hx) nl
      refine ⟨_, rfl, x, C, dx, [], rfl, by rw [upd_ne nxl]; exact s1 _ _ hx, cl, nT, by show 0 < 1000; decide, ?_⟩
      refine q l _ (s1.free nl) (fun b o nb e => ?_) ⟨⟨dx, upd_same⟩, ?_⟩
      · rw [upd_ne nb, upd_ne (ne_of_none (s1 _ _ e) nl)]
        exact s1 _ _ e
      · rw [upd_ne nxl.symm, upd_same]
    · exact .inr ⟨ev, hE⟩
end
end KT
namespace KT
open PySem PySem.Spec PyProof.Rows L2
section
variable {P : Program} {w : World} {K : PySem.W.Frag} {mg : Str → Option Value} {base : Heap}
theorem ok_check_table_m {T : List Addr} {B : Addr} (S : Src K mg "check_table" scheck_table) (m_len : mg "len" = none) (m_enumerate : mg "enumerate" = none) (m_set : mg "set" = none) (Gis_small : KDef P w K mg base CX0 2 "is_small" ["text"] (spIsSmall T)) (Gis_marks : KDef P w K mg base CX0 2 "is_marks" ["text"] (spIsMarks T))
    (EBadTable : KExc P w K mg base B 1 "BadTable" ["self", "at", "why"] (spBadInit K B)) : KDef P w K mg base (L2N.CX P w) 3 "check_table" ["rows"] (spCheckTableX K T B) := by
  refine Src.okX S sccheck_table (fun _ _ _ _ _ _ us hl => match us, hl with | [_], _ => rfl) (fun vs H Q E h => ?_) (fun f cdv A outer s H vs Q E hr h => ?_)
  · obtain ⟨a, ys, l, rfl, _⟩ := h
    rfl
  · obtain ⟨a, ys, l, rfl, hS, rt, tb, q⟩ := h
    refine ⟨_, (pss_cons (ps_set (i := 1) sccheck_table.nd rfl (.inl rfl) (pe_callTy0 cr_set0K (by rfl) m_set (by decide +kernel)))
      (pss_one (ps_for (L2.passes_of rfl) rfl (pi_enumK (K := K) rfl (by rfl) m_enumerate (pa_cons (pv 0) pa_nil)) (pg_tup rfl (pgs_cons (pg_name (i := 2) sccheck_table.nd rfl (.inl rfl)) (pgs_cons (pg_tup rfl (pgs_cons (pg_name (i := 3) sccheck_table.nd rfl (.inl rfl)) (pgs_cons (pg_name (i := 4) sccheck_table.nd rfl (.inl rfl)) pgs_nil))) pgs_nil)))
      (pss_cons (ps_if (PW.pt (pw_or (pt_cmpR op_ne (pe_callB call_len_str (by rfl) m_len (by decide +kernel) (pa_cons (pv 3) pa_nil)) pe_int (nomark _)) (pw_or1 (pt_not (pt_val (pe_callD Gis_small (hr.mono (by decide)) (by rfl) (pa_cons (pv 3) pa_nil)))))))
      (pss_one (L2N.ps_raise rfl (L2N.takes_of rfl rfl rfl rfl) (pmk_D EBadTable (hr.mono (by decide)) (by rfl) (pa_cons (pv 2) (pa_cons pe_str pa_nil)))))
      pss_nil)
      (pss_cons (ps_if (pt_not (pt_val (pe_callD Gis_marks (hr.mono (by decide)) (by rfl) (pa_cons (pv 4) pa_nil))))
      (pss_one (L2N.ps_raise rfl (L2N.takes_of rfl rfl rfl rfl) (pmk_D EBadTable (hr.mono (by decide)) (by rfl) (pa_cons (pv 2) (pa_cons pe_str pa_nil)))))
      pss_nil)
      (pss_cons (ps_if (PW.pt (pw_or (pt_cmpR or_sinK (pv 3) (pv 1) (by rfl)) (pw_or1 (pt_cmpR or_sinK (pv 4) (pv 1) (by rfl)))))
      (pss_one (L2N.ps_raise rfl (L2N.takes_of rfl rfl rfl rfl) (pmk_D EBadTable (hr.mono (by decide)) (by rfl) (pa_cons (pv 2) (pa_cons pe_str pa_nil)))))
      pss_nil)
      (pss_cons (ps_expr (pe_saddK (pv 1) (pa_cons (pv 3) pa_nil)))
      (pss_one (ps_expr (pe_saddK (pv 1) (pa_cons (pv 4) pa_nil))))))))))), ?_⟩
    have ly := rt.1
    obtain ⟨g, good, gl, pre, last⟩ : ∃ g : List (Str × Str), GoodT g ∧ g.length ≤ l.length ∧ (∀ i, i < g.length → l[i]? = g[i]?) ∧ ((g.length = l.length ∧ ∀ H', ExtT H H' → Tb T H' → Q .non H') ∨
        ∃ (e : Str × Str) (why : Str), l[g.length]? = some e ∧ l.length = g.length + 1 ∧ e.1.length = 1 ∧ e.2.length ≤ 1000 ∧ ((why = ("letter" : Str) ∧ isSmall e.1 = false) ∨ (why = ("marks" : Str) ∧ isSmall e.1 = true ∧ isMarks e.2 = false)) ∧
          ∀ (d : Addr) (H' : Hp), ExtT H H' → Tb T H' → H' d = some (.xd (atF (g.length : Nat) why)) → E (.ref B) (some d) H') := by
      rcases q with ⟨good, q⟩ | ⟨i, why, ⟨g, e, rfl, rfl, good, b1, b2, b3⟩, hE⟩
      · exact ⟨l, good, Nat.le_refl _, fun _ _ => rfl, .inl ⟨rfl, q⟩⟩
      · exact ⟨g, good, by simp, fun i hi => List.getElem?_append_left hi, .inr ⟨e, why, by rw [List.getElem?_append_right (Nat.le_refl _), Nat.sub_self]; rfl, by simp, b1, b2, b3, hE⟩⟩
    clear q
    have few := good.few
    refine ⟨rfl, fun p np => ?_⟩
    have sp := sm (o := SetK P w p (fun _ => false) 0) np
    refine ⟨_, rfl, a, _, rfl, sp.seq hS, for_it walk_enum (fun i σ H1 => ∃ (y2 y3 y4 : Option V) (S : Key → Bool) (n : Nat), σ = [some (.ref a), some (.ref p), y2, y3, y4] ∧ ExtT H H1 ∧ Tb T H1 ∧ H1 p = some (SetK P w p S n) ∧ n ≤ 2 * i ∧ SeenTo g i S ∧ i ≤ g.length) ⟨none, none, none, _, 0, rfl, ext_same sp, tb_same tb sp, upd_same, Nat.le_refl _, (fun z h => nomatch h), Nat.zero_le _⟩ (fun i σ H1 _ ⟨_, _, _, _, _, _, s1, _⟩ => ext_seq hS s1) ?_ ?_⟩
    · rintro i x σ H1 H1' hi ⟨y2, y3, y4, S, n, rfl, s1, tb1, ep, hn, seen, ig⟩ ⟨T0, x1, x2, rfl, nT, rfl, f1, f2⟩
      cases f1
      have f2 : ys[i]? = some x2 := f2
      have sb : ∀ m, m ≤ 70 → m + 1 < scanBound := fun m hm => Nat.lt_of_lt_of_le (show m + 1 < 100 by omega) (by decide)
      by_cases c : i < g.length
      · have ei := List.getElem?_eq_getElem c
        obtain ⟨TR, g1, g2⟩ := (rt.ext s1).2 i _ ((pre i c).trans ei)
        rw [f2] at g1
        cases g1
        have sT := sm (o := .tup [V.int (i : Nat), V.ref TR]) nT
        obtain ⟨h1, h2, h3, h4⟩ := good.one _ (List.getElem_mem c)
        have fresh : ∀ z : Str, (z = g[i].1 ∨ z = g[i].2) → S (.inr z) = false := fun z hz => by
          cases c : S (.inr z) with
          | false => rfl
          | true =>
            obtain ⟨j, e, hj, hl, he⟩ := seen z c
            obtain ⟨n1, n2, n3, n4⟩ := good.new j i e _ hj hl ei
            rcases hz with rfl | rfl <;> rcases he with he | he
            · exact absurd he n1
            · exact absurd he n2
            · exact absurd he n3
            · exact absurd he n4
        refine ⟨_, _, rfl, .inl (.inl upd_same), rfl, _, _, rfl, _, _, rfl, _, _, rfl, .inl (.inl (sT _ _ g2)), rfl, _, _, rfl, _, _, rfl, rfl, rfl, ?_⟩
        refine ⟨_, rfl, g[i].1, rfl, lz (by omega), rfl, _, rfl, iteNS (by rw [h1]; rfl) ?_⟩
        refine ⟨_, rfl, g[i].1, rfl, by omega, tb_same tb1 sT, fun H2 s2 tb2 => ⟨_, rfl, iteQ (by rw [h2]; rfl) ?_⟩⟩
        refine ⟨_, rfl, g[i].2, rfl, by omega, tb2, fun H3 s3 tb3 => ⟨_, rfl, iteQ (by rw [h4]; rfl) ?_⟩⟩
        have s13 : ExtT H1 H3 := ((ext_same sT).trans s2).trans s3
        have ep3 := s13 _ _ ep setK_tbl
        refine ⟨_, rfl, _, rfl, .inr g[i].1, p, S, n, rfl, rfl, ep3, _, rfl, iteQ (fresh _ (.inl rfl)) ?_⟩
        refine ⟨_, rfl, _, rfl, .inr g[i].2, p, S, n, rfl, rfl, ep3, _, rfl, iteQ (fresh _ (.inr rfl)) ?_⟩
        refine ⟨_, rfl, ⟨p, S, n, rfl, ep3⟩, _, rfl, p, .inr g[i].1, S, n, rfl, rfl, ep3, sb n (by omega), ?_⟩
        refine ⟨_, rfl, ⟨p, _, _, rfl, upd_same⟩, _, rfl, p, .inr g[i].2, _, _, rfl, rfl, upd_same, sb _ (by split <;> omega), ?_⟩
        refine ⟨_, _, _, _, _, rfl, ?_, ?_, upd_same, ?_, ?_, c⟩
        · intro b o e nt
          have nb : b ≠ p := ne_of_none e np
          rw [upd_ne nb, upd_ne nb]
          exact (s1.trans s13) _ _ e nt
        · exact tb_put (tb_put tb3 ep3 setK_tbl) upd_same setK_tbl
        · split <;> split <;> omega
        · intro z hz
          simp only [Bool.or_eq_true, decide_eq_true_eq, Sum.inr.injEq] at hz
          rcases hz with (hz | rfl) | rfl
          · obtain ⟨j, e, hj, hl, he⟩ := seen z hz
            exact ⟨j, e, by omega, hl, he⟩
          · exact ⟨i, _, by omega, ei, .inl rfl⟩
          · exact ⟨i, _, by omega, ei, .inr rfl⟩
      · have ic : i = g.length := by omega
        subst ic
        rcases last with ⟨h, _⟩ | ⟨e, why, el, ll, b1, b2, b3, hE⟩
        · omega
        obtain ⟨TR, g1, g2⟩ := (rt.ext s1).2 _ _ el
        rw [f2] at g1
        cases g1
        have sT := sm (o := .tup [V.int (g.length : Nat), V.ref TR]) nT
        have bad : ∀ {H2 : Hp} {z : Str}, ExtT H H2 → Tb T H2 → why = z → z.length ≤ 100 → ([V.int (g.length : Nat), V.str z] : List V).length ≤ 1000 ∧ ∀ a, H2 a = none → spBadInit K B (.ref a :: ([V.int (g.length : Nat), V.str z] ++ [])) (upd H2 a (exo a B none)) (fun v H3 => v = .non ∧ ∃ (d : Addr) (fs : List (Str × V)), H3 a = some (exo a B (some d)) ∧ H3 d = some (exd d fs) ∧ H2 d = none ∧ E (.ref B) (some d) (upd (del H3 a) d (.xd fs))) (fun _ _ _ => False) := fun {H2 z} x2 tb2 e l => by
          subst e
          exact ⟨by show 2 ≤ 1000; decide, fun a na => bad_made2 (by omega) l (fun d H' s e => hE d H' (x2.trans (ext_same s)) (tb_same tb2 s) e) a na⟩
        refine ⟨_, _, rfl, .inl (.inl upd_same), rfl, _, _, rfl, _, _, rfl, _, _, rfl, .inl (.inl (sT _ _ g2)), rfl, _, _, rfl, _, _, rfl, rfl, rfl, ?_⟩
        refine ⟨_, rfl, e.1, rfl, lz (by omega), rfl, _, rfl, iteNS (by rw [b1]; rfl) ?_⟩
        refine ⟨_, rfl, e.1, rfl, by omega, tb_same tb1 sT, fun H2 s2 tb2 => ⟨_, rfl, ?_⟩⟩
        have x2 := s1.trans ((ext_same sT).trans s2)
        rcases b3 with ⟨hw, b3⟩ | ⟨hw, b3, b4⟩
        · exact iteY (by rw [b3]; rfl) ⟨_, rfl, bad x2 tb2 hw (by decide +kernel)⟩
        · refine iteQ (by rw [b3]; rfl) ?_
          refine ⟨_, rfl, e.2, rfl, b2, tb2, fun H3 s3 tb3 => ⟨_, rfl, iteY (by rw [b4]; rfl) ⟨_, rfl, bad (x2.trans s3) tb3 hw (by decide +kernel)⟩⟩⟩
    · rintro σ H1 ⟨y2, y3, y4, S, n, rfl, s1, tb1, ep, hn, seen, ig⟩
      rcases last with ⟨_, q⟩ | ⟨e, why, el, ll, _⟩
      · exact q H1 s1 tb1
      · omega
end
end KT
namespace KT
open PySem PySem.Spec PyProof.Rows L2
section
variable {P : Program} {w : World} {K : PySem.W.Frag} {mg : Str → Option Value} {base : Heap}
theorem ok_Table_init_m {T : List Addr} {B : Addr} {f C : Addr} {fd : FuncData} (F : FunD K "__init__" "Table.__init__" (defArgs sTable___init__) (defBody sTable___init__) (defScope sTable___init__) [] [] f fd) (cl : Cls K C) (nT : NoAttr K C "_rows") (m_list : mg "list" = none)
    (Xcheck_table : KDef P w K mg base (L2N.CX P w) 3 "check_table" ["rows"] (spCheckTableX K T B)) : FnOk P w K mg base (L2N.CX P w) 4 f fd ["self", "rows"] (spTableX K T C B) := by
  refine F.ok scTable___init__ (fun vs H Q E h => ?_) (fun cdv A outer s H vs Q E hr h => ?_)
  · obtain ⟨x, a, dx, ys, l, rfl, _⟩ := h
    rfl
  · obtain ⟨x, a, dx, ys, l, rfl, hx, hS, rt, tb, q⟩ := h
    refine ⟨_, (pss_cons (ps_expr (pe_callX Xcheck_table (L2N.takes_of rfl rfl rfl rfl) (hr.mono (by decide)) (by rfl) (pa_cons (pv 1) pa_nil)))
      (pss_one (ps_fldK (K := K) rfl (pv 0) (pe_callTy (call_list_ofK (K := K) rfl) (by rfl) m_list (by decide +kernel) (pa_cons (pv 1) pa_nil)) rfl))), ?_⟩
    refine ⟨_, rfl, a, ys, l, rfl, hS, rt, tb, ?_⟩
    rcases q with ⟨good, q⟩ | ⟨i, why, b, hE⟩
    rotate_left
    · exact .inr ⟨i, why, b, hE⟩
    refine .inl ⟨good, fun H1 s1 tb1 => ?_⟩
    have hx1 := s1 _ _ hx (fun ps z => nomatch z)
    refine ⟨_, rfl, a, _, rfl, .inl (ext_seq hS s1), fun la nl => ?_⟩
    have nxl : x ≠ la := ne_of_none hx1 nl
    refine ⟨_, rfl, x, C, dx, [], rfl, by rw [upd_ne nxl]; exact hx1, cl, nT, by show 0 < 1000; decide, ?_⟩
    refine q la _ (fun b o nb e nt => ?_) (tb_put (tb_same tb1 (sm nl)) (show upd H1 la (.lst ys) x = some (.ins C dx []) by rw [upd_ne nxl]; exact hx1) (fun ps z => nomatch z)) ⟨⟨dx, upd_same⟩, ?_⟩
    · rw [upd_ne nb, upd_ne (ne_of_none (s1 _ _ e nt) nl)]
      exact s1 _ _ e nt
    · rw [upd_ne nxl.symm, upd_same]
end
end KT
namespace KT
open PySem PySem.Spec PyProof.Rows L2
section
variable {P : Program} {w : World} {K : PySem.W.Frag} {mg : Str → Option Value} {base : Heap}
theorem ok_check_book_m {T : List Addr} {B : Addr} (S : Src K mg "check_book" scheck_book) (m_enumerate : mg "enumerate" = none) (m_set : mg "set" = none) (Gis_small : KDef P w K mg base CX0 2 "is_small" ["text"] (spIsSmall T))
    (EBadTable : KExc P w K mg base B 1 "BadTable" ["self", "at", "why"] (spBadInit K B)) : KDef P w K mg base (L2N.CX P w) 3 "check_book" ["book"] (spCheckBookX K T B) := by
  refine Src.okX S sccheck_book (fun _ _ _ _ _ _ us hl => match us, hl with | [_], _ => rfl) (fun vs H Q E h => ?_) (fun f cdv A outer s H vs Q E hr h => ?_)
  · obtain ⟨b, bs, rfl, _⟩ := h
    rfl
  · obtain ⟨b, bs, rfl, hS, tb, i0, why, ⟨g, z0, rfl, rfl, i30, good, zl, bz⟩, hE⟩ := h
    refine ⟨_, (pss_cons (ps_set (i := 1) sccheck_book.nd rfl (.inl rfl) (pe_callTy0 cr_set0K (by rfl) m_set (by decide +kernel)))
      (pss_one (ps_for (L2.passes_of rfl) rfl (pi_enumK (K := K) rfl (by rfl) m_enumerate (pa_cons (pv 0) pa_nil)) (pg_tup rfl (pgs_cons (pg_name (i := 2) sccheck_book.nd rfl (.inl rfl)) (pgs_cons (pg_name (i := 3) sccheck_book.nd rfl (.inl rfl)) pgs_nil)))
      (pss_cons (ps_if (pt_not (pt_val (pe_callD Gis_small (hr.mono (by decide)) (by rfl) (pa_cons (pv 3) pa_nil))))
      (pss_one (L2N.ps_raise rfl (L2N.takes_of rfl rfl rfl rfl) (pmk_D EBadTable (hr.mono (by decide)) (by rfl) (pa_cons (pv 2) (pa_cons pe_str pa_nil)))))
      pss_nil)
      (pss_cons (ps_if (pt_cmpR or_sinK (pv 3) (pv 1) (by rfl))
      (pss_one (L2N.ps_raise rfl (L2N.takes_of rfl rfl rfl rfl) (pmk_D EBadTable (hr.mono (by decide)) (by rfl) (pa_cons (pv 2) (pa_cons pe_str pa_nil)))))
      pss_nil)
      (pss_one (ps_expr (pe_saddK (pv 1) (pa_cons (pv 3) pa_nil))))))))), ?_⟩
    have few := good.few
    have lb : ((g ++ [z0]).map V.str).length = g.length + 1 := by simp
    refine ⟨rfl, fun p np => ?_⟩
    have sp := sm (o := SetK P w p (fun _ => false) 0) np
    refine ⟨_, rfl, b, _, rfl, sp.seq hS, for_it walk_enum (fun i σ H1 => ∃ (y2 y3 : Option V) (S : Key → Bool) (n : Nat), σ = [some (.ref b), some (.ref p), y2, y3] ∧ ExtT H H1 ∧ Tb T H1 ∧ H1 p = some (SetK P w p S n) ∧ n ≤ i ∧ (∀ z : Str, S (.inr z) = true ↔ z ∈ g.take i) ∧ i ≤ g.length) ⟨none, none, _, 0, rfl, ext_same sp, tb_same tb sp, upd_same, Nat.le_refl _, (fun z => ⟨fun h => (nomatch h), fun h => (by cases h)⟩), Nat.zero_le _⟩ (fun i σ H1 _ ⟨_, _, _, _, _, s1, _⟩ => ext_seq hS s1) ?_ ?_⟩
    · rintro i x σ H1 H1' hi ⟨y2, y3, S, n, rfl, s1, tb1, ep, hn, seen, ig⟩ ⟨T0, x1, x2, rfl, nT, rfl, f1, f2⟩
      cases f1
      have f2 : ((g ++ [z0]).map V.str)[i]? = some x2 := f2
      rw [List.getElem?_map] at f2
      have sb : n + 1 < scanBound := Nat.lt_of_lt_of_le (show n + 1 < 1002 by omega) (by decide)
      by_cases c : i < g.length
      · have ei := List.getElem?_eq_getElem c
        rw [List.getElem?_append_left c, ei] at f2
        cases f2
        have sT := sm (o := .tup [V.int (i : Nat), V.str g[i]]) nT
        obtain ⟨h1, h2⟩ := good.small _ (List.getElem_mem c)
        have fresh : S (.inr g[i]) = false := by
          cases cS : S (.inr g[i]) with
          | false => rfl
          | true =>
            obtain ⟨j, hj, ej⟩ := List.getElem_of_mem ((seen _).mp cS)
            rw [List.getElem_take] at ej
            rw [List.length_take] at hj
            exact absurd ((List.getElem_inj good.new).mp ej) (by omega)
        refine ⟨_, _, rfl, .inl (.inl upd_same), rfl, _, _, rfl, _, _, rfl, rfl, ?_⟩
        refine ⟨_, rfl, g[i], rfl, h2, tb_same tb1 sT, fun H2 s2 tb2 => ⟨_, rfl, iteQ (by rw [h1]; rfl) ?_⟩⟩
        have s12 : ExtT H1 H2 := (ext_same sT).trans s2
        have ep2 := s12 _ _ ep setK_tbl
        refine ⟨_, rfl, _, rfl, .inr g[i], p, S, n, rfl, rfl, ep2, _, rfl, iteQ fresh ?_⟩
        refine ⟨_, rfl, ⟨p, S, n, rfl, ep2⟩, _, rfl, p, .inr g[i], S, n, rfl, rfl, ep2, sb, ?_⟩
        refine ⟨_, _, _, _, rfl, ?_, tb_put tb2 ep2 setK_tbl, upd_same, ?_, fun z => ?_, c⟩
        · intro b' o e nt
          rw [upd_ne (ne_of_none e np)]
          exact (s1.trans s12) _ _ e nt
        · split <;> omega
        · rw [take_snoc ei, List.mem_append, List.mem_singleton]
          simp only [Bool.or_eq_true, decide_eq_true_eq, Sum.inr.injEq]
          rw [seen z]
      · have ic : i = g.length := by omega
        subst ic
        rw [List.getElem?_append_right (Nat.le_refl _), Nat.sub_self] at f2
        cases f2
        have sT := sm (o := .tup [V.int (g.length : Nat), V.str z0]) nT
        have bad : ∀ {H2 : Hp} {z : Str}, ExtT H H2 → Tb T H2 → why = z → z.length ≤ 100 → ([V.int (g.length : Nat), V.str z] : List V).length ≤ 1000 ∧ ∀ a, H2 a = none → spBadInit K B (.ref a :: ([V.int (g.length : Nat), V.str z] ++ [])) (upd H2 a (exo a B none)) (fun v H3 => v = .non ∧ ∃ (d : Addr) (fs : List (Str × V)), H3 a = some (exo a B (some d)) ∧ H3 d = some (exd d fs) ∧ H2 d = none ∧ E (.ref B) (some d) (upd (del H3 a) d (.xd fs))) (fun _ _ _ => False) := fun {H2 z} x2 tb2 e l => by
          subst e
          exact ⟨by show 2 ≤ 1000; decide, fun a na => bad_made2 i30 l (fun d H' s e => hE d H' (x2.trans (ext_same s)) (tb_same tb2 s) e) a na⟩
        refine ⟨_, _, rfl, .inl (.inl upd_same), rfl, _, _, rfl, _, _, rfl, rfl, ?_⟩
        refine ⟨_, rfl, z0, rfl, zl, tb_same tb1 sT, fun H2 s2 tb2 => ⟨_, rfl, ?_⟩⟩
        have s12 : ExtT H1 H2 := (ext_same sT).trans s2
        have x2 := s1.trans s12
        rcases bz with ⟨hw, h1⟩ | ⟨hw, h1, hm⟩
        · exact iteY (by rw [h1]; rfl) ⟨_, rfl, bad x2 tb2 hw (by decide +kernel)⟩
        · refine iteQ (by rw [h1]; rfl) ?_
          have ep2 := s12 _ _ ep setK_tbl
          have inS : S (.inr z0) = true := (seen z0).mpr (by rw [List.take_length]; exact hm)
          exact ⟨_, rfl, _, rfl, .inr z0, p, S, n, rfl, rfl, ep2, _, rfl, iteY inS ⟨_, rfl, bad x2 tb2 hw (by decide +kernel)⟩⟩
    · rintro σ H1 ⟨y2, y3, S, n, rfl, s1, tb1, ep, hn, seen, ig⟩
      rw [lb] at ig
      omega
end
end KT
namespace KT
open PySem PySem.Spec PyProof.Rows L2
section
variable {P : Program} {w : World} {K : PySem.W.Frag} {mg : Str → Option Value} {base : Heap}
theorem ok_check_sheet_m {T : List Addr} {B : Addr} (S : Src K mg "check_sheet" scheck_sheet) (m_len : mg "len" = none) (m_range : mg "range" = none) (Gis_first_row : KDef P w K mg base CX0 6 "is_first_row" ["row"] (spIsFirst K T)) (Gis_next_row : KDef P w K mg base CX0 1 "is_next_row" ["row", "ahead"] (spIsNext K))
    (EBadText : KExc P w K mg base B 1 "BadText" ["self", "row"] (spTextInit B)) : KDef P w K mg base (L2N.CX P w) 7 "check_sheet" ["rows"] (spCheckSheetX K T B) := by
  refine Src.okX S sccheck_sheet (fun _ _ _ _ _ _ us hl => match us, hl with | [_], _ => rfl) (fun vs H Q E h => ?_) (fun f cdv A outer s H vs Q E hr h => ?_)
  · obtain ⟨a, xs, R, rfl, _⟩ := h
    rfl
  · obtain ⟨a, xs, R, rfl, hS, rw_, sh, tb, q⟩ := h
    refine ⟨_, (pss_cons (ps_if (pt_not (pt_val (pe_callD Gis_first_row (hr.mono (by decide)) (by rfl) (pa_cons (pe_ix (ix_listK (K := K) rfl) (pv 0) pe_int (fun _ _ => rfl)) pa_nil))))
      (pss_one (L2N.ps_raise rfl (L2N.takes_of rfl rfl rfl rfl) (pmk_D EBadText (hr.mono (by decide)) (by rfl) (pa_cons pe_int pa_nil))))
      pss_nil)
      (pss_one (ps_for (L2.passes_of rfl) rfl (pi_range2 rfl m_range (pa_cons pe_int (pa_cons (pe_callB (call_len_seqK (K := K) rfl) (by rfl) m_len (by decide +kernel) (pa_cons (pv 0) pa_nil)) pa_nil))) (pg_name (i := 1) sccheck_sheet.nd rfl (.inl rfl))
      (pss_one (ps_if (pt_not (pt_val (pe_callD Gis_next_row (hr.mono (by decide)) (by rfl) (pa_cons (pe_ix (ix_listK (K := K) rfl) (pv 0) (pv 1) (fun _ _ => rfl)) (pa_cons (pe_ix (ix_listK (K := K) rfl) (pv 0) (pe_op op_sub (pv 1) pe_int) (fun _ _ => rfl)) pa_nil)))))
      (pss_one (L2N.ps_raise rfl (L2N.takes_of rfl rfl rfl rfl) (pmk_D EBadText (hr.mono (by decide)) (by rfl) (pa_cons (pv 1) pa_nil))))
      pss_nil))))), ?_⟩
    have lx := rw_.1
    have few := sh.few
    have pos : 0 < R.length := List.length_pos_iff.mpr sh.ne
    obtain ⟨n, nR, okn, last⟩ : ∃ n, n ≤ R.length ∧ okTo R n ∧ ((n = R.length ∧ ∀ H', ExtT H H' → Tb T H' → Q .non H') ∨ (n ≤ 30 ∧ n < R.length ∧ badRow R n ∧ ∀ (d : Addr) (H' : Hp), ExtT H H' → Tb T H' → H' d = some (.xd (rowF n)) → E (.ref B) (some d) H')) := by
      rcases q with ⟨ok, q⟩ | ⟨i, h1, h2, ok, h3, hE⟩
      · exact ⟨_, Nat.le_refl _, ok, .inl ⟨rfl, q⟩⟩
      · exact ⟨i, by omega, ok, .inr ⟨h1, h2, h3, hE⟩⟩
    clear q
    have bad : ∀ {H2 : Hp}, ExtT H H2 → Tb T H2 → n < R.length → ([V.int (n : Nat)] : List V).length ≤ 1000 ∧ ∀ a, H2 a = none → spTextInit B (.ref a :: ([V.int (n : Nat)] ++ [])) (upd H2 a (exo a B none)) (fun v H3 => v = .non ∧ ∃ (d : Addr) (fs : List (Str × V)), H3 a = some (exo a B (some d)) ∧ H3 d = some (exd d fs) ∧ H2 d = none ∧ E (.ref B) (some d) (upd (del H3 a) d (.xd fs))) (fun _ _ _ => False) := fun {H2} x2 tb2 hn => by
      rcases last with ⟨h, _⟩ | ⟨h1, h2, h3, hE⟩
      · omega
      · exact ⟨by show 1 ≤ 1000; decide, fun a na => text_made h1 (fun d H' s e => hE d H' (x2.trans (ext_same s)) (tb_same tb2 s) e) a na⟩
    obtain ⟨a0, g0, h0⟩ := rw_.2 0 _ (List.getElem?_eq_getElem pos)
    have gd : ∀ (i : Nat) (h : i < R.length), R.getD i [] = R[i] := fun i h => by rw [List.getD_eq_getElem?_getD, List.getElem?_eq_getElem h, Option.getD_some]
    refine ⟨_, rfl, _, _, _, _, rfl, rfl, hS, aI (by decide) g0, a0, R[0], rfl, h0, sh.each _ (List.getElem_mem pos), tb, fun H1 s1 tb1 => ⟨_, rfl, ?_⟩⟩
    by_cases n0 : n = 0
    · subst n0
      have f0 : isFirst R[0] = false := by
        rcases last with ⟨h, _⟩ | ⟨_, _, h3 | h3, _⟩
        · omega
        · rw [← gd 0 pos]
          exact h3.2
        · omega
      exact iteY (by rw [f0]; rfl) (bad s1 tb1 pos)
    have f0 : isFirst R[0] = true := by
      rw [← gd 0 pos]
      exact (okn 0 (by omega) pos).1 rfl
    refine iteQ (by rw [f0]; rfl) ?_
    refine ⟨_, rfl, a, _, rfl, .inl (ext_seq hS s1), _, _, rfl, ⟨by omega, by omega, by omega, by omega⟩, ?_⟩
    refine for_range (lo := 1) (n := ((xs.length : Int) - 1).toNat) (fun i σ H2 => ∃ y1 : Option V, σ = [some (.ref a), y1] ∧ ExtT H H2 ∧ Tb T H2 ∧ i + 1 ≤ n) ⟨_, rfl, s1, tb1, by omega⟩ ?_ ?_
    · rintro i σ H2 hi ⟨y1, rfl, s2, tb2, le⟩
      have hi1 : i + 1 < R.length := by omega
      obtain ⟨ai, gi, hai⟩ := rw_.2 (i + 1) _ (List.getElem?_eq_getElem hi1)
      obtain ⟨aj, gj, haj⟩ := rw_.2 i _ (List.getElem?_eq_getElem (show i < R.length by omega))
      have hS2 := ext_seq hS s2
      refine ⟨_, rfl, _, rfl, _, _, _, _, rfl, rfl, hS2, aI (by omega) (by rw [show (1 + (i : Int)).toNat = i + 1 by omega]; exact gi), _, rfl, _, rfl, _, _, rfl, rfl, _, _, _, _, rfl, rfl, hS2, aI (by omega) (by rw [show (1 + (i : Int) - 1).toNat = i by omega]; exact gj),
        ai, aj, R[i + 1], R[i], rfl, ext_seq hai s2, ext_seq haj s2, sh.each _ (List.getElem_mem hi1), sh.each _ (List.getElem_mem _), fun H3 s3 => ⟨_, rfl, ?_⟩⟩
      by_cases c : i + 1 = n
      · subst c
        have fi : isNext R[i + 1] R[i] = false := by
          rcases last with ⟨h, _⟩ | ⟨_, _, h3 | h3, _⟩
          · omega
          · omega
          · have := h3.2
            rwa [Nat.add_sub_cancel, gd _ hi1, gd i (by omega)] at this
        have e1 : V.int (1 + (i : Int)) = V.int ((i + 1 : Nat) : Int) := congrArg V.int (by omega)
        rw [e1]
        exact iteY (by rw [fi]; rfl) ⟨_, rfl, bad (s2.trans (ext_same s3)) (tb_same tb2 s3) hi1⟩
      · have fi : isNext R[i + 1] R[i] = true := by
          have := (okn (i + 1) (by omega) hi1).2 (by omega)
          rwa [Nat.add_sub_cancel, gd _ hi1, gd i (by omega)] at this
        exact iteQ (by rw [fi]; rfl) ⟨_, rfl, s2.trans (ext_same s3), tb_same tb2 s3, by omega⟩
    · rintro σ H2 ⟨y1, rfl, s2, tb2, le⟩
      rcases last with ⟨_, q⟩ | ⟨_, h2, _⟩
      · exact q H2 s2 tb2
      · omega
end
end KT
namespace KT
open PySem PySem.Spec PyProof.Rows L2
section
variable {P : Program} {w : World} {K : PySem.W.Frag} {mg : Str → Option Value} {base : Heap}
theorem ok_read_m {T : List Addr} {C CT BT BB BX : Addr} (S : Src K mg "read" sread) (m_int : mg "int" = none) (Xcheck_sheet : KDef P w K mg base (L2N.CX P w) 7 "check_sheet" ["rows"] (spCheckSheetX K T BX)) (XTaps : KMake P w K mg base (L2N.CX P w) C 4 "Taps" ["self", "times"] (spTapsX2 K C BT)) (XTable : KMake P w K mg base (L2N.CX P w) CT 4 "Table" ["self", "rows"] (spTableX K T CT BB))
    (Xcheck_book : KDef P w K mg base (L2N.CX P w) 3 "check_book" ["book"] (spCheckBookX K T BB)) : KDef P w K mg base (L2N.CX P w) 8 "read" ["text"] (spReadX K T BT BB BX) := by
  refine Src.okX S scread (fun _ _ _ _ _ _ us hl => match us, hl with | [_], _ => rfl) (fun vs H Q E h => ?_) (fun f cdv A outer s H vs Q E hr h => ?_)
  · obtain ⟨R, rfl, _⟩ := h
    rfl
  · obtain ⟨R, rfl, SW, short, tb, q⟩ := h
    refine ⟨_, (pss_cons (ps_setLc (i := 1) (own := [("row", 5)]) (g := gName 5) (tt := tYes) rfl scread.nd rfl rfl (sw_true rfl rfl rfl (by decide +kernel)) (pi_listK (K := K) rfl (pe_bm PySem.F.plainAttrs_str PySem.F.slot_str_split PySem.F.type_str_split mt_split (pv 0) (pa_cons pe_str pa_nil))) (blkOk_by (own := [("row", 5)]) (N := ["text", "rows", "taps", "table", "book", "row", "word"]) (sc := defScope sread) (by decide +kernel)) (fun _ _ _ _ _ => (pg_name (i := 5) scread.nd rfl (.inl rfl) (.inr rfl))) (fun _ _ _ _ _ => pts_nil) (fun _ _ _ _ _ => (pe_split (pv 5) pe_str)))
      (pss_cons (ps_expr (pe_callX Xcheck_sheet (L2N.takes_of rfl rfl rfl rfl) (hr.mono (by decide)) (by rfl) (pa_cons (pv 1) pa_nil)))
      (pss_cons (ps_set (i := 2) scread.nd rfl (.inl rfl) (pe_makeX XTaps (L2N.takes_of rfl rfl rfl rfl) (hr.mono (by decide)) (by rfl) (pa_cons (pe_lc (own := [("word", 6)]) (g := gName 6) (tt := tYes) rfl scread.nd (pi_listK (K := K) rfl (pe_slice (sl_listK (K := K) rfl) (pe_ix (ix_listK (K := K) rfl) (pv 1) pe_int (fun _ _ => rfl)) (po_some pe_int) po_none)) (blkOk_by (own := [("word", 6)]) (N := ["text", "rows", "taps", "table", "book", "row", "word"]) (sc := defScope sread) (by decide +kernel)) (fun _ _ _ _ _ => (pg_name (i := 6) scread.nd rfl (.inl rfl) (.inr rfl))) (fun _ _ _ _ _ => pts_nil) (fun _ _ _ _ _ => (pe_callTy call_int_str (by rfl) m_int (by decide +kernel) (pa_cons (pv 6) pa_nil)))) pa_nil)))
      (pss_cons (ps_set (i := 3) scread.nd rfl (.inl rfl) (pe_makeX XTable (L2N.takes_of rfl rfl rfl rfl) (hr.mono (by decide)) (by rfl) (pa_cons (pe_lc (own := [("row", 5)]) (g := gName 5) rfl scread.nd (pi_listK (K := K) rfl (pv 1)) (blkOk_by (own := [("row", 5)]) (N := ["text", "rows", "taps", "table", "book", "row", "word"]) (sc := defScope sread) (by decide +kernel)) (fun _ _ _ _ _ => (pg_name (i := 5) scread.nd rfl (.inl rfl) (.inr rfl))) (fun _ _ _ _ _ => (pts_one (pt_cmpR op_eq (pe_ix (ix_listK (K := K) rfl) (pv 5) pe_int (fun _ _ => rfl)) pe_str (nomark _)))) (fun _ _ _ _ _ => (pe_tup (pa_cons (pe_ix (ix_listK (K := K) rfl) (pv 5) pe_int (fun _ _ => rfl)) (pa_cons (pe_ix (ix_listK (K := K) rfl) (pv 5) pe_int (fun _ _ => rfl)) pa_nil))))) pa_nil)))
      (pss_cons (ps_setLc (i := 4) (own := [("row", 5)]) (g := gName 5) rfl scread.nd rfl rfl (sw_true rfl rfl rfl (by decide +kernel)) (pi_listK (K := K) rfl (pv 1)) (blkOk_by (own := [("row", 5)]) (N := ["text", "rows", "taps", "table", "book", "row", "word"]) (sc := defScope sread) (by decide +kernel)) (fun _ _ _ _ _ => (pg_name (i := 5) scread.nd rfl (.inl rfl) (.inr rfl))) (fun _ _ _ _ _ => (pts_one (pt_cmpR op_eq (pe_ix (ix_listK (K := K) rfl) (pv 5) pe_int (fun _ _ => rfl)) pe_str (nomark _)))) (fun _ _ _ _ _ => (pe_ix (ix_listK (K := K) rfl) (pv 5) pe_int (fun _ _ => rfl))))
      (pss_cons (ps_expr (pe_callX Xcheck_book (L2N.takes_of rfl rfl rfl rfl) (hr.mono (by decide)) (by rfl) (pa_cons (pv 4) pa_nil)))
      (pss_one (ps_ret (pe_tup (pa_cons (pv 2) (pa_cons (pv 3) (pa_cons (pv 4) pa_nil)))))))))))), ?_⟩
    unfold Short at short
    have few := SW.few
    -- the rows of words
    refine ⟨_, rfl, rfl, _, "\n", rfl, rfl, by decide +kernel, lz (by omega), fun yl ny => ?_⟩
    rw [split_rows SW]
    have s1 := sm (o := .lst ((R.map (Txt.join " ")).map V.str)) ny
    refine ⟨yl, rfl, ⟨_, SqL.of upd_same⟩, fun D nD => ?_⟩
    refine lc_h walk_list (fun i v H6 => ∀ r, R[i]? = some r → ∃ a : Addr, v = .ref a ∧ H6 a = some (.lst (r.map V.str))) (fun i v H1 H2 s h r e => by
      obtain ⟨a, g1, g2⟩ := h r e
      exact ⟨a, g1, s _ _ g2⟩) nD (by rw [List.length_map, List.length_map]; omega) (fun H6 s6 => s6.seq (SqL.of upd_same)) ?_ ?_
    · rintro i v H6 H6' acc k hi s6 eD la pe ⟨rfl, hx⟩ fin
      rw [List.length_map, List.length_map] at hi
      have hx : ((R.map (Txt.join " ")).map V.str)[i]? = some v := hx
      have ei := List.getElem?_eq_getElem hi
      rw [List.getElem?_map, List.getElem?_map, ei] at hx
      cases hx
      have rw1 := SW.each _ (List.getElem_mem hi)
      have rl := row_len rw1
      refine ⟨rfl, _, rfl, ⟨_, rfl⟩, _, " ", rfl, rfl, by decide +kernel, lz (by omega), fun p np => ?_⟩
      rw [split_row rw1]
      refine fin _ _ (sm np) fun r er => ?_
      rw [ei] at er
      cases er
      exact ⟨p, rfl, hid_new np eD upd_same⟩
    intro H1 xs s2 eD lx pe
    rw [List.length_map, List.length_map] at lx
    have rw0 : RowsW K H1 xs R := ⟨lx, fun i r er => by
      have hi := (List.getElem?_eq_some_iff.mp er).1
      obtain ⟨a, g1, g2⟩ := pe i _ (List.getElem?_eq_getElem (show i < xs.length by omega)) r er
      exact ⟨a, by rw [List.getElem?_eq_getElem (show i < xs.length by omega), g1], SqL.of (hid_some g2).2⟩⟩
    have s12 := s1.trans s2
    have tb1 := tb_same tb s12
    refine ⟨_, rfl, D, xs, R, rfl, SqL.of eD, rw0, SW, tb1, ?_⟩
    have x01 := ext_same s12
    rcases (show (∃ i : Nat, RefT R i ∧ ∀ (d : Addr) (H' : Hp), ExtT H H' → Tb T H' → H' d = some (.xd (rowF i)) → E (.ref BX) (some d) H') ∨
        (∃ (ts : List Int) (l : List (Str × Str)) (bs : List Str), R = sheetWs ts l bs ∧ Parts ts l bs ∧ ((ts.length % 2 = 0 ∧ ∀ (d : Addr) (H' : Hp), ExtT H H' → Tb T H' → H' d = some (.xd (atF 0 "many")) → E (.ref BT) (some d) H') ∨
          (Tps ts ∧ ∃ (i : Nat) (why : Str), (BadT l i why ∨ (GoodT l ∧ BadB bs i why)) ∧ ∀ (d : Addr) (H' : Hp), ExtT H H' → Tb T H' → H' d = some (.xd (atF i why)) → E (.ref BB) (some d) H'))) from by
      rcases q with h | ⟨⟨ts, l, bs, e, pa, ev⟩, hE⟩ | ⟨i, why, ⟨ts, l, bs, e, pa, tp, b⟩, hE⟩
      · exact .inl h
      · exact .inr ⟨ts, l, bs, e, pa, .inl ⟨ev, hE⟩⟩
      · exact .inr ⟨ts, l, bs, e, pa, .inr ⟨tp, i, why, b, hE⟩⟩) with ⟨i, ⟨i30, lt, ok, bad⟩, hE⟩ | ⟨ts, l, bs, eR, pa, q2⟩
    · exact .inr ⟨i, i30, lt, ok, bad, fun d H' x tb e => hE d H' (x01.trans x) tb e⟩
    clear q
    have OK := ok_sheet pa
    have LO := lets_of ts l bs
    have WI := words_in ts l bs
    have SO := sorted_sheet ts l bs
    have R0 : (sheetWs ts l bs)[0]? = some (headW ts) := rfl
    rw [← eR] at OK LO WI SO R0
    refine .inl ⟨OK, fun H2 x2 tb2 => ?_⟩
    have eD2 := x2 _ _ eD (fun ps z => nomatch z)
    have rw2 := rw0.ext x2
    have x02 : ExtT H H2 := (ext_same s12).trans x2
    -- the taps
    obtain ⟨a0, g0, h0⟩ := rw2.2 0 _ R0
    refine ⟨_, rfl, _, _, _, _, rfl, rfl, SqL.of eD2, aI (by decide) g0, _, rfl, a0, _, rfl, h0, fun p1 np1 => ?_⟩
    have hl : (headW ts).length = ts.length + 1 := by
      unfold headW
      rw [List.length_cons, List.length_map]
    have le := pa.few
    have ec : cutV ((headW ts).map V.str) (some 1) none = (ts.map numS).map V.str := by
      rw [show (1 : Int) = ((1 : Nat) : Int) from rfl, cut_fromN _ (by rw [List.length_map, hl]; omega)]
      rfl
    rw [ec]
    have s3 := sm (o := .lst ((ts.map numS).map V.str)) np1
    refine ⟨p1, rfl, ⟨_, SqL.of upd_same⟩, fun D1 nD1 => ?_⟩
    refine lc_s walk_list (fun i y => ∃ t, ts[i]? = some t ∧ y = V.int t) nD1 (by rw [List.length_map, List.length_map]; omega) (fun H7 s7 => s7.seq (SqL.of upd_same)) ?_ ?_
    · rintro i v H7 H7' acc k hi s7 eD1 lac ⟨rfl, hx⟩ fin
      rw [List.length_map, List.length_map] at hi
      have hx : ((ts.map numS).map V.str)[i]? = some v := hx
      have ei := List.getElem?_eq_getElem hi
      rw [List.getElem?_map, List.getElem?_map, ei] at hx
      cases hx
      have tt := pa.all i _ ei
      exact ⟨rfl, _, rfl, _, ts[i], rfl, PySem.W.KIN.num_reads (by omega) (by omega), by have := num_len (t := ts[i]) (by omega) tt.2; show (numS ts[i]).length ≤ 640; omega, fin _ _ s7 eD1 ⟨_, ei, rfl⟩⟩
    intro H3 us s4 eD1 lu pu
    rw [List.length_map, List.length_map] at lu
    have eu : us = ts.map V.int := by
      apply List.ext_getElem?
      intro i
      by_cases c : i < us.length
      · obtain ⟨t, h1, h2⟩ := pu i _ (List.getElem?_eq_getElem c)
        rw [List.getElem?_eq_getElem c, h2, List.getElem?_map, h1]
        rfl
      · rw [List.getElem?_eq_none (by omega), List.getElem?_eq_none (by rw [List.length_map]; omega)]
    subst eu
    have s34 := s3.trans s4
    refine fun x dx nx ndx ne => ?_
    have sB : Same H3 _ := (sm (o := .own x) ndx).trans (sm (o := .ins C dx []) (by rw [upd_ne ne.symm]; exact nx))
    refine ⟨x, D1, dx, ts, rfl, upd_same, SqL.of (sB _ _ eD1), by omega, ?_⟩
    rcases q2 with ⟨ev, hE⟩ | ⟨tp, i0, why, bad, hE⟩
    · exact .inr ⟨ev, fun d H' s e => hE d H' (x02.trans (ext_same (s34.trans (sB.trans s)))) (tb_same tb2 (s34.trans (sB.trans s))) e⟩
    refine .inl ⟨tp, fun la H4 nla keep4 ta4 => ⟨rfl, ?_⟩⟩
    have s5 : Same H3 H4 := fun b o e => keep4 b o (ne_of_none e nx) (sB _ _ e)
    have s25 := s34.trans s5
    have eD4 := s25 _ _ eD2
    have rw4 := rw2.ext (ext_same s25)
    have tb4 := tb_same tb2 s25
    have x04 := x02.trans (ext_same s25)
    clear keep4 sB nx ndx ne
    -- the table
    refine ⟨_, rfl, D, rfl, ⟨_, SqL.of eD4⟩, fun D3 nD3 => ?_⟩
    have nDD3 : D ≠ D3 := ne_of_none eD4 nD3
    have ltake : ∀ i, (letsOf (R.take i)).length ≤ i := fun i => by
      have h1 : (letsOf (R.take i)).length ≤ (R.take i).length := List.length_filterMap_le ..
      rw [List.length_take] at h1
      omega
    have wtake : ∀ i, (wordsIn (R.take i)).length ≤ i := fun i => by
      have h1 : (wordsIn (R.take i)).length ≤ (R.take i).length := List.length_filterMap_le ..
      rw [List.length_take] at h1
      omega
    refine lc_list (K := K) (a := D) (xs := xs) (fun i H5 => ∃ vs : List V, H5 D3 = some (.lst vs) ∧ RowsT H5 vs (letsOf (R.take i)) ∧ Same H4 H5) ⟨[], upd_same, ⟨rfl, fun i e h => by cases h⟩, sm nD3⟩ (fun i H5 _ ⟨_, _, _, s⟩ => s.seq (SqL.of eD4)) ?_ ?_
    · rintro i v H5 hx ⟨vs, e3, rt3, s6⟩
      have hi := (List.getElem?_eq_some_iff.mp hx).1
      have er := List.getElem?_eq_getElem (show i < R.length by omega)
      obtain ⟨a, g1, ha⟩ := rw4.2 i _ er
      rw [hx] at g1
      cases g1
      have hm := List.getElem_mem (show i < R.length by omega)
      have ha5 := s6.seq ha
      have lv := rt3.1
      have lt3 := ltake i
      refine ⟨rfl, _, rfl, _, _, _, _, rfl, rfl, ha5, at_0 (SW.each _ hm), rfl, _, rfl, ?_⟩
      rw [str_dec]
      refine ite2 (fun c => ?_) (fun c => ?_)
      · have c := of_decide_eq_true c
        have l3 := (SO _ hm).1 c
        refine ⟨_, rfl, _, _, _, _, rfl, rfl, ha5, at_w (j := 1) (by omega), _, rfl, _, _, _, _, rfl, rfl, ha5, at_w (j := 2) (by omega), lz (by show 2 ≤ 1000000; decide), fun T1 nT1 => ?_⟩
        have sT := sm (o := .tup [V.str (R[i].getD 1 ""), V.str (R[i].getD 2 "")]) nT1
        have e3T := sT _ _ e3
        refine ⟨vs, e3T, lz' (by omega), vs ++ [.ref T1], upd_same, ?_, same_put (s6.trans sT) nD3⟩
        rw [lets_snoc er, if_pos c]
        have rtT : RowsT _ (vs ++ [V.ref T1]) (letsOf (R.take i) ++ [(R[i].getD 1 "", R[i].getD 2 "")]) := (rt3.ext (ext_same sT)).snocT (T := T1) (e := (R[i].getD 1 "", R[i].getD 2 "")) upd_same
        exact rtT.putT e3T
      · have c : ¬ w0 R[i] = ("letter" : Str) := fun h => c (decide_eq_true h)
        refine ⟨vs, e3, ?_, s6⟩
        rw [lets_snoc er, if_neg c, List.append_nil]
        exact rt3
    rintro H5 ⟨vs, e3, rt3, s6⟩
    rw [lx, List.take_length, LO] at rt3
    have tb5 := tb_same tb4 s6
    refine fun xt dt nxt ndt net => ?_
    have sC : Same H5 _ := (sm (o := .own xt) ndt).trans (sm (o := .ins CT dt []) (by rw [upd_ne net.symm]; exact nxt))
    refine ⟨xt, D3, dt, vs, l, rfl, upd_same, SqL.of (sC _ _ e3), rt3.ext (ext_same sC), tb_same tb5 sC, ?_⟩
    rcases bad with bad | ⟨good, bad⟩
    · exact .inr ⟨i0, why, bad, fun d H' x tb e => hE d H' (x04.trans ((ext_same (s6.trans sC)).trans x)) tb e⟩
    refine .inl ⟨good, fun lt H6 keep6 tb6 TB6 => ⟨rfl, ?_⟩⟩
    have x56 : ExtT H5 H6 := fun b o e n => keep6 b o (ne_of_none e nxt) (sC _ _ e) n
    have x46 := (ext_same s6).trans x56
    have eD6 := x46 _ _ eD4 (fun ps z => nomatch z)
    have rw6 := rw4.ext x46
    have x06 := x04.trans x46
    have ta6 := taps_ext ta4 x46
    have rt6 := rt3.ext x56
    clear keep6 sC nxt ndt net
    -- the book
    refine ⟨_, rfl, D, rfl, ⟨_, SqL.of eD6⟩, fun D4 nD4 => ?_⟩
    refine lc_list (K := K) (a := D) (xs := xs) (fun i H7 => H7 D4 = some (.lst ((wordsIn (R.take i)).map V.str)) ∧ Same H6 H7) ⟨upd_same, sm nD4⟩ (fun i H7 _ ⟨_, s⟩ => s.seq (SqL.of eD6)) ?_ ?_
    · rintro i v H7 hx ⟨e4, s7⟩
      have hi := (List.getElem?_eq_some_iff.mp hx).1
      have er := List.getElem?_eq_getElem (show i < R.length by omega)
      obtain ⟨a, g1, ha⟩ := rw6.2 i _ er
      rw [hx] at g1
      cases g1
      have hm := List.getElem_mem (show i < R.length by omega)
      have ha7 := s7.seq ha
      have wt := wtake i
      refine ⟨rfl, _, rfl, _, _, _, _, rfl, rfl, ha7, at_0 (SW.each _ hm), rfl, _, rfl, ?_⟩
      rw [str_dec]
      refine ite2 (fun c => ?_) (fun c => ?_)
      · have c := of_decide_eq_true c
        have l2 := (SO _ hm).2 c
        refine ⟨_, rfl, _, _, _, _, rfl, rfl, ha7, at_w (j := 1) (by omega), _, e4, lz' (by rw [List.length_map]; omega), ?_, same_put s7 nD4⟩
        rw [upd_same, words_snoc er, if_pos c, List.map_append]
        rfl
      · have c : ¬ w0 R[i] = ("word" : Str) := fun h => c (decide_eq_true h)
        refine ⟨?_, s7⟩
        rw [words_snoc er, if_neg c, List.append_nil]
        exact e4
    rintro H7 ⟨e4, s7⟩
    rw [lx, List.take_length, WI] at e4
    have tb7 := tb_same tb6 s7
    exact ⟨_, rfl, D4, bs, rfl, SqL.of e4, tb7, i0, why, bad, fun d H' x tb e => hE d H' ((x06.trans (ext_same s7)).trans x) tb e⟩
end
end KT
namespace KT
open PySem PySem.Spec PyProof.Rows L2
section
variable {P : Program} {w : World} {K : PySem.W.Frag} {mg : Str → Option Value} {base : Heap}
/-- the error of the class D, fields in the dict d, is the one that a word names -/
def isWords : List Str := ["taps", "reading", "width", "table", "words", "text"]
def spIs (a : Addr) (d : Option Addr) (word : Str) : Sp := fun vs H Q _ => vs = [.ref a, .str word] ∧ XdAt H d ∧ ∀ H', Same H H' → Q (.bl true) H'
theorem eqv_bools (l : List Bool) : PyData.eqv (.list (l.map PyData.bool)) (.list (l.map PyData.bool)) = true := by
  simp only [PyData.eqv]
  induction l with
  | nil => simp [PyData.eqvAll]
  | cons d l ih =>
    simp only [List.map_cons, PyData.eqvAll, PyData.eqv, Bool.and_eq_true]
    exact ⟨by simp, ih⟩
theorem bools_can : ∀ l : List Bool, PyData.canLayAll0 (l.map PyData.bool) = true ∧ PyData.depthAll (l.map PyData.bool) ≤ 1
  | [] => by simp [PyData.canLayAll0, PyData.depthAll]
  | b :: l => by
    obtain ⟨h1, h2⟩ := bools_can l
    simp only [List.map_cons, PyData.canLayAll0, PyData.canLay0, PyData.depthAll, PyData.depth, Bool.true_and]
    exact ⟨h1, Nat.max_le.mpr ⟨by omega, h2⟩⟩
theorem bools_shaped (l : List Bool) : SeqAt.shaped (.list (l.map PyData.bool)) = true := by
  obtain ⟨h1, h2⟩ := bools_can l
  have h3 : PyData.depth (.list (l.map PyData.bool)) ≤ 64 := by
    simp only [PyData.depth]
    omega
  show (PyData.canLay0 (.list (l.map PyData.bool)) && decide (PyData.depth (.list (l.map PyData.bool)) ≤ 64)) = true
  rw [Bool.and_eq_true]
  exact ⟨by simp only [PyData.canLay0]; exact h1, decide_eq_true h3⟩
theorem dp_bools {K : PySem.W.Frag} {H : Hp} : ∀ l : List Bool, DpAll K H (l.map V.bl) (l.map PyData.bool)
  | [] => .nil
  | b :: l => .cons (.bl b) (dp_bools l)
theorem ok_law_is {a D BT BR BW BB BO BX : Addr} {oe : Obj} {d : Option Addr} {word : Str} (S : Src K mg "_law_is" s_law_is) (m_isinstance : mg "isinstance" = none) (m_ValueError : mg "ValueError" = none)
    (c_BadTaps : mg "BadTaps" = some (.ref BT)) (c_BadReading : mg "BadReading" = some (.ref BR)) (c_BadWidth : mg "BadWidth" = some (.ref BW)) (c_BadTable : mg "BadTable" = some (.ref BB)) (c_BadWords : mg "BadWords" = some (.ref BO)) (c_BadText : mg "BadText" = some (.ref BX))
    (hC : ExcC K D) (hz : Zc (.ref D) d oe) (hf : ∃ vs, oe.data = .fields vs) (k1 : PySem.W.kitOne K (.ref D) (.ref BT) = some (decide (word = ("taps" : Str)))) (k2 : PySem.W.kitOne K (.ref D) (.ref BR) = some (decide (word = ("reading" : Str)))) (k3 : PySem.W.kitOne K (.ref D) (.ref BW) = some (decide (word = ("width" : Str))))
    (k4 : PySem.W.kitOne K (.ref D) (.ref BB) = some (decide (word = ("table" : Str)))) (k5 : PySem.W.kitOne K (.ref D) (.ref BO) = some (decide (word = ("words" : Str)))) (k6 : PySem.W.kitOne K (.ref D) (.ref BX) = some (decide (word = ("text" : Str)))) (k7 : PySem.W.kitOne K (.ref D) (.type "ValueError") = some true) :
    KDefP P w K mg base (a, oe) 1 "_law_is" ["_law_e", "_law_word"] (spIs a d word) := by
  refine Src.okP S sc_law_is (fun _ _ _ _ _ _ us hl => match us, hl with | [_, _], _ => rfl) (fun vs H Q E h => ?_) (fun f cdv A outer s H vs Q E hot hr h => ?_)
  · obtain ⟨rfl, _⟩ := h
    rfl
  · obtain ⟨rfl, xd, q⟩ := h
    refine ⟨_, (pss_cons (ps_set (i := 2) sc_law_is.nd rfl (.inl rfl) (pe_lst (pa_cons (pe_callB (call_isN (K := K) (List.mem_singleton.mpr rfl) rfl hC hz hf) (by rfl) m_isinstance (by decide +kernel) (pa_cons (pv 0) (pa_cons (pe_gR rfl c_BadTaps) pa_nil))) (pa_cons (pe_callB (call_isN (K := K) (List.mem_singleton.mpr rfl) rfl hC hz hf) (by rfl) m_isinstance (by decide +kernel) (pa_cons (pv 0) (pa_cons (pe_gR rfl c_BadReading) pa_nil))) (pa_cons (pe_callB (call_isN (K := K) (List.mem_singleton.mpr rfl) rfl hC hz hf) (by rfl) m_isinstance (by decide +kernel) (pa_cons (pv 0) (pa_cons (pe_gR rfl c_BadWidth) pa_nil))) (pa_cons (pe_callB (call_isN (K := K) (List.mem_singleton.mpr rfl) rfl hC hz hf) (by rfl) m_isinstance (by decide +kernel) (pa_cons (pv 0) (pa_cons (pe_gR rfl c_BadTable) pa_nil))) pa_nil))))))
      (pss_cons (ps_set (i := 2) sc_law_is.nd rfl (.inl rfl) (pe_op op_cat (pv 2) (pe_lst (pa_cons (pe_callB (call_isN (K := K) (List.mem_singleton.mpr rfl) rfl hC hz hf) (by rfl) m_isinstance (by decide +kernel) (pa_cons (pv 0) (pa_cons (pe_gR rfl c_BadWords) pa_nil))) (pa_cons (pe_callB (call_isN (K := K) (List.mem_singleton.mpr rfl) rfl hC hz hf) (by rfl) m_isinstance (by decide +kernel) (pa_cons (pv 0) (pa_cons (pe_gR rfl c_BadText) pa_nil))) pa_nil)))))
      (pss_cons (ps_set (i := 3) sc_law_is.nd rfl (.inl rfl) (pe_lst (pa_cons pe_str (pa_cons pe_str (pa_cons pe_str (pa_cons pe_str (pa_cons pe_str (pa_cons pe_str pa_nil))))))))
      (pss_one (ps_ret (pe_and (pe_callB (call_isN (K := K) (List.mem_singleton.mpr rfl) rfl hC hz hf) (by rfl) m_isinstance (by decide +kernel) (pa_cons (pv 0) (pa_cons (pe_bltn (v := .ty "ValueError") (u := .type "ValueError") (by rfl) m_ValueError (by decide +kernel) rfl) pa_nil))) (pe_one (pe_cmpR (op_eqDK (unitsH hr) (K := K) rfl) (pv 2) (pe_lcH (own := [("_law_one", 4)]) (g := gName 4) (tt := tYes) (hotC hot rfl) sc_law_is.nd (pi_listHK (K := K) rfl (pv 3)) (blkOk_by (own := [("_law_one", 4)]) (N := ["_law_e", "_law_word", "_law_kinds_here", "_law_words", "_law_one"]) (sc := defScope s_law_is) (by decide +kernel)) ⟨fun _ _ _ _ _ => (pg_name (i := 4) sc_law_is.nd rfl (.inl rfl) (.inr rfl)), fun _ _ _ _ _ => pts_nil, fun _ _ _ _ _ => (pe_cmpR op_eq (pv 1) (pv 4) (nomark _))⟩) (nomark _))))))))), ?_⟩
    refine ⟨_, rfl, _, .ref BT, _, rfl, fun u r => r, xd, k1, _, rfl, _, .ref BR, _, rfl, fun u r => r, xd, k2, _, rfl, _, .ref BW, _, rfl, fun u r => r, xd, k3, _, rfl, _, .ref BB, _, rfl, fun u r => r, xd, k4, lz (by show 4 ≤ 1000000; decide), fun L1 nL1 => ?_⟩
    have g1 := sm (o := .lst [.bl (decide (word = ("taps" : Str))), .bl (decide (word = ("reading" : Str))), .bl (decide (word = ("width" : Str))), .bl (decide (word = ("table" : Str)))]) nL1
    refine ⟨_, rfl, _, rfl, _, .ref BO, _, rfl, fun u r => r, xd.same g1, k5, _, rfl, _, .ref BX, _, rfl, fun u r => r, xd.same g1, k6, lz (by show 2 ≤ 1000000; decide), fun L2 nL2 => ?_⟩
    have g2 := sm (o := .lst [.bl (decide (word = ("words" : Str))), .bl (decide (word = ("text" : Str)))]) nL2
    refine ⟨L1, L2, _, _, rfl, rfl, g2 _ _ upd_same, upd_same, lz (by show 6 ≤ 1000000; decide), fun L3 nL3 => ?_⟩
    have g3 := sm (o := .lst ((isWords.map fun x => decide (word = x)).map V.bl)) nL3
    have g13 := (g1.trans g2).trans g3
    refine ⟨lz (by show 6 ≤ 1000000; decide), fun L4 nL4 => ?_⟩
    have g4 := sm (o := .lst (isWords.map V.str)) nL4
    have g14 := g13.trans g4
    refine ⟨_, rfl, _, .type "ValueError", true, rfl, fun u r => r, xd.same g14, k7, ?_⟩
    refine ⟨_, rfl, iteT ?_⟩
    refine ⟨_, rfl, _, rfl, L4, rfl, ⟨_, SqL.of upd_same⟩, fun D nD => ?_⟩
    refine lc_s walk_list (fun i y => ∃ z, isWords[i]? = some z ∧ y = V.bl (decide (word = z))) nD (by show 6 ≤ 1000000; decide) (fun H5 s5 => s5.seq (SqL.of upd_same)) ?_ ?_
    · rintro i x H5 H5' acc k hi s5 eD lac ⟨rfl, hx⟩ fin
      have hx : (isWords.map V.str)[i]? = some x := hx
      rw [List.getElem?_map] at hx
      cases hw : isWords[i]? with
      | none =>
        rw [hw] at hx
        cases hx
      | some z =>
        rw [hw] at hx
        cases hx
        refine ⟨rfl, _, rfl, _, rfl, rfl, fin _ _ s5 eD ⟨z, hw, ?_⟩⟩
        simp only [V.str.injEq]
    · intro H5 xs s5 eD lx px
      have ex : xs = (isWords.map fun x => decide (word = x)).map V.bl := by
        have lx : xs.length = isWords.length := lx
        apply List.ext_getElem?
        intro i
        by_cases c : i < xs.length
        · obtain ⟨z, h1, h2⟩ := px i _ (List.getElem?_eq_getElem c)
          rw [List.getElem?_eq_getElem c, h2, List.getElem?_map, List.getElem?_map, h1]
          rfl
        · rw [List.getElem?_eq_none (by omega), List.getElem?_eq_none (by rw [List.length_map, List.length_map]; omega)]
      rw [ex] at eD
      have s35 := (g4.trans s5)
      refine ⟨_, _, .lst (SqL.of (s35 _ _ upd_same)) (dp_bools (isWords.map fun x => decide (word = x))), .lst (SqL.of eD) (dp_bools (isWords.map fun x => decide (word = x))), bools_shaped _, bools_shaped _, ?_⟩
      rw [eqv_bools]
      exact q _ (g14.trans s5)
end
end KT
namespace KT
open PySem PySem.Spec PyProof.Rows L2
section
variable {P : Program} {w : World} {K : PySem.W.Frag} {mg : Str → Option Value} {base : Heap}
-- needs: _law_is
theorem ok_law_refused_m {T : List Addr} {BT BB BX TE : Addr} (S : Src K mg "_law_refused" s_law_refused) (Xread : KDef P w K mg base (L2N.CX P w) 8 "read" ["text"] (spReadX K T BT BB BX))
    (H_isT : ∀ {a : Addr} {oe : Obj} {cls : Value} {d : Option Addr}, cls = .ref BT → L2N.Zn cls d oe → (∃ vs, oe.data = .fields vs) → KDefP P w K mg base (a, oe) 1 "_law_is" ["_law_e", "_law_word"] (spIs a d "taps"))
    (H_isB : ∀ {a : Addr} {oe : Obj} {cls : Value} {d : Option Addr}, cls = .ref BB → L2N.Zn cls d oe → (∃ vs, oe.data = .fields vs) → KDefP P w K mg base (a, oe) 1 "_law_is" ["_law_e", "_law_word"] (spIs a d "table"))
    (H_isX : ∀ {a : Addr} {oe : Obj} {cls : Value} {d : Option Addr}, cls = .ref BX → L2N.Zn cls d oe → (∃ vs, oe.data = .fields vs) → KDefP P w K mg base (a, oe) 1 "_law_is" ["_law_e", "_law_word"] (spIs a d "text"))
    (H_law_alike : ∀ pe n, KDefP P w K mg base pe n "_law_alike" ["_law_found", "_law_due"] (spAlike K n)) (c_TapError : mg "TapError" = some (.ref TE))
    (exmT : PySem.W.exmOne K (.ref BT) (.ref TE) = some true) (exmB : PySem.W.exmOne K (.ref BB) (.ref TE) = some true) (exmX : PySem.W.exmOne K (.ref BX) (.ref TE) = some true)
    (xfT : XfC K BT) (xfBB : XfC K BB) (xfX : XfC K BX) (nT_at : PySem.W.findIn K (.ref BT) "at" = some none) (nT_why : PySem.W.findIn K (.ref BT) "why" = some none) (nB_at : PySem.W.findIn K (.ref BB) "at" = some none) (nB_why : PySem.W.findIn K (.ref BB) "why" = some none) (n_row : PySem.W.findIn K (.ref BX) "row" = some none) :
    KDef P w K mg base CX0 9 "_law_refused" ["_law_rows", "_law_word", "_law_due"] (spRefd K T) := by
  refine S.ok sc_law_refused (fun _ _ _ _ _ _ us hl => match us, hl with | [_, _, _], _ => rfl) (fun vs H Q E h => ?_) (fun f cdv A outer s H vs Q E hr h => ?_)
  · obtain ⟨a, R, word, due, rfl, _⟩ := h
    rfl
  · obtain ⟨a, R, word, due, rfl, hS, ne, low, tb, h, q⟩ := h
    have js : ((R.map (Txt.join " ")).map (·.length)).sum + (R.map (Txt.join " ")).length * ("\n" : Str).length ≤ 16777216 := Nat.le_trans low.sum (by decide)
    rcases h with ⟨rfl, i, rfl, rt⟩ | ⟨rfl, rm, p, rfl, ep⟩ | ⟨rfl, i, why, p, rfl, rb, ep⟩
    · have H_law_is := @H_isX
      have xfB := xfT
      have n_at := nT_at
      have n_why := nT_why
      refine ⟨_, (pss_cons (L2N.ps_try_as (i := 3) rfl rfl sc_law_refused.nd rfl rfl ⟨by rfl, by decide, .inl c_TapError⟩ takes_noN (fun W pn xe tk own => (pss_one (ps_expr (pe_callX Xread tk (hr.mono (by decide)) (by rfl) (pa_cons (pe_joinK (K := K) rfl pe_str (pv 0)) pa_nil)))))
      (fun a oe cls d pn hz hf => pss_when fun hcls => (pss_cons (ps_if (pt_not (pt_val (pe_callP (H_law_is hcls hz hf) (hotS hz hf) ((roomS hr).mono (by decide)) (by rfl) (pa_cons (pv 3) (pa_cons (pv 1) pa_nil)))))
      (pss_one (ps_ret pe_bl))
      pss_nil)
      (pss_cons (ps_if (pt_cmpR op_eq (pv 1) pe_str (nomark _))
      (pss_one (ps_ret (pe_callP (H_law_alike (_, _) 2) (hotS hz hf) ((roomS hr).mono (by decide)) (by rfl) (pa_cons (pe_xf xfX n_row hz.zc hf (pv 3)) (pa_cons (pv 2) pa_nil)))))
      pss_nil)
      (pss_one (ps_ret (pe_callP (H_law_alike (_, _) 2) (hotS hz hf) ((roomS hr).mono (by decide)) (by rfl) (pa_cons (pe_tup (pa_cons (pe_xf xfB n_at hz.zc hf (pv 3)) (pa_cons (pe_xf xfB n_why hz.zc hf (pv 3)) pa_nil))) (pa_cons (pv 2) pa_nil)))))))))
      (pss_one (ps_ret pe_bl))), ?_⟩
      refine ⟨⟨_, rfl⟩, _, rfl, _, a, R.map (Txt.join " "), rfl, rfl, .inl hS, js, ?_⟩
      refine ⟨R, rfl, low.sheet ne, low.short, tb, .inl ⟨i, rt, fun d H' x tb' hd => ⟨true, exmX, fun _ ae nae => ⟨rfl, ?_⟩, fun z => nomatch z⟩⟩⟩
      refine ⟨_, rfl, _, rfl, rfl, .inr ⟨d, _, rfl, hd⟩, fun H10 s10 => ⟨_, rfl, iteF ?_⟩⟩
      refine ⟨_, rfl, rfl, _, rfl, ite2 (fun _ => ?_) (fun c => absurd (decide_eq_true rfl) c)⟩
      exact ⟨_, rfl, rfl, rfl, d, _, .int (i : Int), rfl, s10 _ _ hd, rfl, _, rfl, .int (i : Int), .int (i : Int), .int (i : Int), rfl, .int _, .int _, True.intro, fun H11 s11 => q _ (x.trans (ext_same (s10.trans s11))) (tb_same tb' (s10.trans s11))⟩
    · have H_law_is := @H_isT
      have xfB := xfT
      have n_at := nT_at
      have n_why := nT_why
      refine ⟨_, (pss_cons (L2N.ps_try_as (i := 3) rfl rfl sc_law_refused.nd rfl rfl ⟨by rfl, by decide, .inl c_TapError⟩ takes_noN (fun W pn xe tk own => (pss_one (ps_expr (pe_callX Xread tk (hr.mono (by decide)) (by rfl) (pa_cons (pe_joinK (K := K) rfl pe_str (pv 0)) pa_nil)))))
      (fun a oe cls d pn hz hf => pss_when fun hcls => (pss_cons (ps_if (pt_not (pt_val (pe_callP (H_law_is hcls hz hf) (hotS hz hf) ((roomS hr).mono (by decide)) (by rfl) (pa_cons (pv 3) (pa_cons (pv 1) pa_nil)))))
      (pss_one (ps_ret pe_bl))
      pss_nil)
      (pss_cons (ps_if (pt_cmpR op_eq (pv 1) pe_str (nomark _))
      (pss_one (ps_ret (pe_callP (H_law_alike (_, _) 2) (hotS hz hf) ((roomS hr).mono (by decide)) (by rfl) (pa_cons (pe_xf xfX n_row hz.zc hf (pv 3)) (pa_cons (pv 2) pa_nil)))))
      pss_nil)
      (pss_one (ps_ret (pe_callP (H_law_alike (_, _) 2) (hotS hz hf) ((roomS hr).mono (by decide)) (by rfl) (pa_cons (pe_tup (pa_cons (pe_xf xfB n_at hz.zc hf (pv 3)) (pa_cons (pe_xf xfB n_why hz.zc hf (pv 3)) pa_nil))) (pa_cons (pv 2) pa_nil)))))))))
      (pss_one (ps_ret pe_bl))), ?_⟩
      refine ⟨⟨_, rfl⟩, _, rfl, _, a, R.map (Txt.join " "), rfl, rfl, .inl hS, js, ?_⟩
      refine ⟨R, rfl, low.sheet ne, low.short, tb, .inr (.inl ⟨rm, fun d H' x tb' hd => ⟨true, exmT, fun _ ae nae => ⟨rfl, ?_⟩, fun z => nomatch z⟩⟩)⟩
      refine ⟨_, rfl, _, rfl, rfl, .inr ⟨d, _, rfl, hd⟩, fun H10 s10 => ⟨_, rfl, iteF ?_⟩⟩
      refine ⟨_, rfl, rfl, _, rfl, ite2 (fun e => absurd (V.str.inj (of_decide_eq_true e)) (by decide +kernel)) (fun _ => ?_)⟩
      have hd10 := s10 _ _ hd
      refine ⟨_, rfl, rfl, rfl, d, _, .int 0, rfl, hd10, rfl, _, rfl, rfl, rfl, d, _, .str "many", rfl, hd10, rfl, lz (by show 2 ≤ 1000000; decide), fun q1 n1 => ?_⟩
      have s1 := sm (o := .tup [V.int 0, V.str "many"]) n1
      have ep1 := s1 _ _ (s10 _ _ (x _ _ ep fun ps z => nomatch z))
      refine ⟨_, rfl, .ref q1, .ref p, .tuple [.int 0, .str "many"], rfl, .tup (SqT.of upd_same) (.cons (.int _) (.cons (.str _) .nil)), .tup (SqT.of ep1) (.cons (.int _) (.cons (.str _) .nil)), ⟨by show 2 ≤ 1000000; decide, fun d hd => ?_⟩, fun H11 s11 => q _ (x.trans (ext_same ((s10.trans s1).trans s11))) (tb_same tb' ((s10.trans s1).trans s11))⟩
      simp only [List.mem_cons, List.not_mem_nil, or_false] at hd
      rcases hd with rfl | rfl <;> exact True.intro
    · have H_law_is := @H_isB
      have xfB := xfBB
      have n_at := nB_at
      have n_why := nB_why
      refine ⟨_, (pss_cons (L2N.ps_try_as (i := 3) rfl rfl sc_law_refused.nd rfl rfl ⟨by rfl, by decide, .inl c_TapError⟩ takes_noN (fun W pn xe tk own => (pss_one (ps_expr (pe_callX Xread tk (hr.mono (by decide)) (by rfl) (pa_cons (pe_joinK (K := K) rfl pe_str (pv 0)) pa_nil)))))
      (fun a oe cls d pn hz hf => pss_when fun hcls => (pss_cons (ps_if (pt_not (pt_val (pe_callP (H_law_is hcls hz hf) (hotS hz hf) ((roomS hr).mono (by decide)) (by rfl) (pa_cons (pv 3) (pa_cons (pv 1) pa_nil)))))
      (pss_one (ps_ret pe_bl))
      pss_nil)
      (pss_cons (ps_if (pt_cmpR op_eq (pv 1) pe_str (nomark _))
      (pss_one (ps_ret (pe_callP (H_law_alike (_, _) 2) (hotS hz hf) ((roomS hr).mono (by decide)) (by rfl) (pa_cons (pe_xf xfX n_row hz.zc hf (pv 3)) (pa_cons (pv 2) pa_nil)))))
      pss_nil)
      (pss_one (ps_ret (pe_callP (H_law_alike (_, _) 2) (hotS hz hf) ((roomS hr).mono (by decide)) (by rfl) (pa_cons (pe_tup (pa_cons (pe_xf xfB n_at hz.zc hf (pv 3)) (pa_cons (pe_xf xfB n_why hz.zc hf (pv 3)) pa_nil))) (pa_cons (pv 2) pa_nil)))))))))
      (pss_one (ps_ret pe_bl))), ?_⟩
      refine ⟨⟨_, rfl⟩, _, rfl, _, a, R.map (Txt.join " "), rfl, rfl, .inl hS, js, ?_⟩
      refine ⟨R, rfl, low.sheet ne, low.short, tb, .inr (.inr ⟨i, why, rb, fun d H' x tb' hd => ⟨true, exmB, fun _ ae nae => ⟨rfl, ?_⟩, fun z => nomatch z⟩⟩)⟩
      refine ⟨_, rfl, _, rfl, rfl, .inr ⟨d, _, rfl, hd⟩, fun H10 s10 => ⟨_, rfl, iteF ?_⟩⟩
      refine ⟨_, rfl, rfl, _, rfl, ite2 (fun e => absurd (V.str.inj (of_decide_eq_true e)) (by decide +kernel)) (fun _ => ?_)⟩
      have hd10 := s10 _ _ hd
      refine ⟨_, rfl, rfl, rfl, d, _, .int (i : Int), rfl, hd10, rfl, _, rfl, rfl, rfl, d, _, .str why, rfl, hd10, rfl, lz (by show 2 ≤ 1000000; decide), fun q1 n1 => ?_⟩
      have s1 := sm (o := .tup [V.int (i : Int), V.str why]) n1
      have ep1 := s1 _ _ (s10 _ _ (x _ _ ep fun ps z => nomatch z))
      refine ⟨_, rfl, .ref q1, .ref p, .tuple [.int (i : Int), .str why], rfl, .tup (SqT.of upd_same) (.cons (.int _) (.cons (.str _) .nil)), .tup (SqT.of ep1) (.cons (.int _) (.cons (.str _) .nil)), ⟨by show 2 ≤ 1000000; decide, fun d hd => ?_⟩, fun H11 s11 => q _ (x.trans (ext_same ((s10.trans s1).trans s11))) (tb_same tb' ((s10.trans s1).trans s11))⟩
      simp only [List.mem_cons, List.not_mem_nil, or_false] at hd
      rcases hd with rfl | rfl <;> exact True.intro
end
end KT
namespace KT
open PySem PySem.Spec PyProof.Rows L2
section
variable {P : Program} {w : World} {K : PySem.W.Frag} {mg : Str → Option Value} {base : Heap}
theorem ok_law_table (S : Src K mg "_law_table" s_law_table) (m_len : mg "len" = none) (m_range : mg "range" = none) (G_law_off : KDef P w K mg base CX0 1 "_law_off" ["_law_d", "_law_most"] spOff) : KDef P w K mg base CX0 2 "_law_table" ["_law_d"] spTable := by
  refine S.ok sc_law_table (fun _ _ _ _ _ _ us hl => match us, hl with | [_], _ => rfl) (fun vs H Q E h => ?_) (fun f cdv A outer s H vs Q E hr h => ?_)
  · obtain ⟨d, rfl, _⟩ := h
    rfl
  · obtain ⟨d, rfl, dd, q⟩ := h
    refine ⟨_, (pss_cons (ps_set (i := 1) sc_law_table.nd rfl (.inl rfl) pe_str)
      (pss_cons (ps_set (i := 2) sc_law_table.nd rfl (.inl rfl) (pe_callD G_law_off (hr.mono (by decide)) (by rfl) (pa_cons (pv 0) (pa_cons pe_int pa_nil))))
      (pss_cons (ps_set (i := 1) sc_law_table.nd rfl (.inl rfl) (pe_op op_add_str (pe_slice sl_str (pv 1) (po_some (pv 2)) po_none) (pe_slice sl_str (pv 1) po_none (po_some (pv 2)))))
      (pss_cons (ps_set (i := 3) sc_law_table.nd rfl (.inl rfl) (pe_lst (pa_cons pe_str (pa_cons pe_str (pa_cons pe_str (pa_cons pe_str (pa_cons pe_str (pa_cons pe_str (pa_cons pe_str (pa_cons pe_str (pa_cons pe_str (pa_cons pe_str (pa_cons pe_str (pa_cons pe_str (pa_cons pe_str (pa_cons pe_str (pa_cons pe_str (pa_cons pe_str pa_nil))))))))))))))))))
      (pss_cons (ps_set (i := 4) sc_law_table.nd rfl (.inl rfl) (pe_op op_cat (pv 3) (pe_lst (pa_cons pe_str (pa_cons pe_str (pa_cons pe_str (pa_cons pe_str (pa_cons pe_str pa_nil))))))))
      (pss_cons (ps_set (i := 5) sc_law_table.nd rfl (.inl rfl) (pe_lst pa_nil))
      (pss_cons (ps_for PassesOwn.never rfl (pi_range1 rfl m_range (pa_cons (pe_callD G_law_off (hr.mono (by decide)) (by rfl) (pa_cons (pv 0) (pa_cons pe_int pa_nil))) pa_nil)) (pg_name (i := 6) sc_law_table.nd rfl (.inl rfl))
      (pss_one (ps_expr (pe_bm PySem.F.plainAttrs_list PySem.F.slot_list_append PySem.F.type_list_append mt_append (pv 5) (pa_cons (pe_tup (pa_cons (pe_ix ix_str (pv 1) (pv 6) (fun _ _ => rfl)) (pa_cons (pe_bm PySem.F.plainAttrs_list PySem.F.slot_list_pop PySem.F.type_list_pop mt_popAt (pv 4) (pa_cons (pe_callD G_law_off (hr.mono (by decide)) (by rfl) (pa_cons (pv 0) (pa_cons (pe_callB (call_len_seqK (K := K) rfl) (by rfl) m_len (by decide +kernel) (pa_cons (pv 4) pa_nil)) pa_nil))) pa_nil)) pa_nil))) pa_nil)))))
      (pss_one (ps_ret (pv 5)))))))))), ?_⟩
    refine ⟨_, rfl, d, _, rfl, dd, by decide, by decide, fun r H1 r0 r1 d1 k1 => ?_⟩
    obtain ⟨t, rfl, ht⟩ : ∃ t : Nat, r = (t : Nat) ∧ t < 25 := ⟨r.toNat, by omega, by omega⟩
    have rl := rot_len ⟨t, ht⟩
    have rl' : (rotS ((t : Nat) : Int)).length = 25 := rl
    have z25 : ("abcdefghijklmnopqrstuvwxy" : Str).length ≤ 1000000 := by decide +kernel
    have rl2 : (cutS "abcdefghijklmnopqrstuvwxy" (some ((t : Nat) : Int)) none).length + (cutS "abcdefghijklmnopqrstuvwxy" none (some ((t : Nat) : Int))).length = 25 := by rw [← Str.length_append]; exact rl
    refine ⟨_, rfl, _, rfl, _, rfl, _, rfl, lz z25, _, rfl, _, rfl, _, rfl, _, rfl, lz z25, _, _, rfl, rfl, lz (by omega), ?_⟩
    refine ⟨lz (by show 16 ≤ 1000000; decide), fun pm npm => ?_⟩
    refine ⟨_, rfl, lz (by show 5 ≤ 1000000; decide), fun p5 np5 => ?_⟩
    have nm5 : pm ≠ p5 := fun z => by rw [z, upd_same] at np5; cases np5
    refine ⟨pm, p5, _, _, rfl, rfl, by rw [upd_ne nm5, upd_same], upd_same, lz (by show 16 + 5 ≤ 1000000; decide), fun pl npl => ?_⟩
    refine ⟨lz (by show 0 ≤ 1000000; decide), fun pr npr => ?_⟩
    have np5' : H1 p5 = none := by rw [upd_ne (Ne.symm nm5)] at np5; exact np5
    have sA := ((sm (o := .lst (([".", "-", "..", ".-", "-.", "--", "...", "..-", ".-.", ".--", "-..", "-.-", "--.", "---", "....", "...-"] : List Str).map V.str)) npm).trans (sm (o := .lst (([".....", "--.--", "......", "-.-.-.", "------"] : List Str).map V.str)) np5)).trans (sm (o := .lst (marks21.map V.str)) npl)
    have npl1 : H1 pl = none := ((sm npm).trans (sm np5)).free npl
    have sB := sA.trans (sm (o := .lst []) npr)
    have npr1 : H1 pr = none := sA.free npr
    have nlr : pl ≠ pr := fun z => by rw [← z, upd_same] at npr; cases npr
    have dB := d1.same sB
    have nld : pl ≠ d := d1.ne npl1
    have nrd : pr ≠ d := d1.ne npr1
    have npl0 : H pl = none := k1.new d1 npl1
    have npr0 : H pr = none := k1.new d1 npr1
    refine ⟨_, rfl, d, _, rfl, dB, by decide, by decide, fun n H4 n0 n1 d4 k4 => ?_⟩
    have el4 : H4 pl = some (.lst (marks21.map V.str)) := k4 _ _ nld (by rw [upd_ne nlr, upd_same]; rfl)
    have er4 : H4 pr = some (.lst []) := k4 _ _ nrd upd_same
    refine ⟨n, rfl, by omega, by omega, for_it walk_range (fun i σ H5 => ∃ (y6 : Option V) (l : List (Str × Str)) (ys : List V) (left : List Str), σ = [some (.ref d), some (.str (rotS (t : Nat))), some (.int (t : Nat)), some (.ref pm), some (.ref pl), some (.ref pr), y6] ∧ l.length = i ∧ TabOk t l left ∧ H5 pr = some (.lst ys) ∧ H5 pl = some (.lst (left.map V.str)) ∧ RowsT H5 ys l ∧ Dice H5 d ∧ Kp d H H5) ⟨none, [], [], marks21, rfl, rfl, ⟨fun i e he => by simp at he, marks_nodup, fun x hx => hx, rfl⟩, er4, el4, ⟨rfl, fun i e he => by simp at he⟩, d4, (k1.then sB).trans k4⟩ (fun _ _ _ _ _ => trivial) ?_ ?_⟩
    · rintro i v σ H5 H5' hi ⟨y6, l, ys, left, rfl, ln, tok, er, el, rt, d5, k5⟩ ⟨rfl, rfl⟩
      have tl := tok.len
      have hi16 : i < 16 := by omega
      have rd := rot_dec ⟨t, ht⟩ ⟨i, by omega⟩
      have hlt : (t + i) % 25 < lets.length := Nat.mod_lt _ (by decide)
      rw [show lets[(t + i) % 25]? = some lets[(t + i) % 25] from List.getElem?_eq_getElem hlt] at rd
      obtain ⟨c, hc1, hc2⟩ := Option.map_eq_some_iff.mp rd
      refine ⟨_, rfl, ty_list er, ?_⟩
      refine ⟨_, rfl, _, rfl, _, _, c, rfl, rfl, lz (by rw [rl']; decide), by rw [Int.zero_add]; exact atI_nat hc1, ?_⟩
      refine ⟨_, rfl, ty_list el, _, rfl, _, rfl, pl, _, rfl, .inl (SqL.of el), d, _, rfl, d5, by rw [List.length_map]; omega, by rw [List.length_map]; omega, fun j H6 j0 j1 d6 k6 => ?_⟩
      rw [List.length_map] at j1
      obtain ⟨j, rfl⟩ : ∃ m : Nat, j = (m : Nat) := ⟨j.toNat, by omega⟩
      have hj : j < left.length := by omega
      have el6 := k6 _ _ nld el
      have er6 := k6 _ _ nrd er
      refine ⟨_, _, _, _, V.str left[j], rfl, rfl, el6, by omega, by omega, pI (by omega) (by rw [List.length_map]; omega), by rw [Int.toNat_natCast, List.getElem?_map, List.getElem?_eq_getElem hj]; rfl, ?_⟩
      refine ⟨lz (by show 2 ≤ 1000000; decide), fun T nT => ?_⟩
      have er7 : upd H6 pl (.lst ((left.map V.str).eraseIdx j)) pr = some (.lst ys) := by rw [upd_ne (Ne.symm nlr)]; exact er6
      have nTl : pl ≠ T := fun z => by rw [← z, upd_same] at nT; cases nT
      have nTr : pr ≠ T := ne_of_none er7 nT
      have ly := rt.1
      refine ⟨pr, ys, _, rfl, rfl, by rw [upd_ne nTr]; exact er7, lz' (by omega), ?_⟩
      have nTd : d ≠ T := fun z => by
        obtain ⟨x, y, zs, qd, _⟩ := d6
        rw [← z, upd_ne nld.symm, qd] at nT
        cases nT
      refine ⟨_, l ++ [(⟨#[c]⟩, left[j])], ys ++ [.ref T], left.eraseIdx j, rfl, by simp; omega, tok.step (by rw [ln, hc2]; exact List.getElem?_eq_getElem hlt) hj, upd_same, ?_, ?_, ?_, ?_⟩
      · rw [upd_ne nlr, upd_ne nTl, upd_same]
        exact congrArg (fun z => some (HO.lst z)) (by rw [Int.toNat_natCast, map_erase])
      · have nTr' : T ≠ pr := Ne.symm nTr
        refine ⟨by rw [List.length_append, List.length_append, ly]; rfl, fun m e he => ?_⟩
        by_cases hm : m < l.length
        · rw [List.getElem?_append_left hm] at he
          obtain ⟨T', g1, g2⟩ := rt.2 m e he
          refine ⟨T', by rw [List.getElem?_append_left (by omega)]; exact g1, ?_⟩
          have m1 : T' ≠ d := fun z => by
            obtain ⟨x, y, zs, qd, _⟩ := d5
            rw [z, qd] at g2
            cases g2
          have m2 : T' ≠ pl := fun z => by rw [z, el] at g2; cases g2
          have m3 : T' ≠ pr := fun z => by rw [z, er] at g2; cases g2
          have g6 := k6 _ _ m1 g2
          rw [upd_ne m3, upd_ne (ne_of_none (by rw [upd_ne m2]; exact g6) nT), upd_ne m2]
          exact g6
        · rw [List.getElem?_append_right (by omega)] at he
          have hm2 := (List.getElem?_eq_some_iff.mp he).1
          simp only [List.length_singleton] at hm2
          have hm0 : m - l.length = 0 := by omega
          rw [hm0] at he
          cases he
          refine ⟨T, by rw [List.getElem?_append_right (by omega), ly, hm0]; rfl, ?_⟩
          rw [upd_ne nTr', upd_same]
      · obtain ⟨x, y, zs, qd, qr⟩ := d6
        exact ⟨x, y, zs, by rw [upd_ne nrd.symm, upd_ne nTd, upd_ne nld.symm]; exact qd, qr⟩
      · intro b o nb e
        have e6 := k6 _ _ nb (k5 _ _ nb e)
        have b1 : b ≠ pl := ne_of_none e npl0
        have b2 : b ≠ pr := ne_of_none e npr0
        rw [upd_ne b2, upd_ne (ne_of_none (by rw [upd_ne b1]; exact e6) nT), upd_ne b1]
        exact e6
    · rintro σ H5 ⟨y6, l, ys, left, rfl, ln, tok, er, el, rt, d5, k5⟩
      exact ⟨_, rfl, q l ys pr H5 (tok.good (by omega)) (fun e he => ⟨tok.inLets e he, tok.inMarks e he⟩) (by omega) npr0 er rt d5 k5⟩
end
end KT
namespace KT
open PySem PySem.Spec PyProof.Rows L2
section
variable {P : Program} {w : World} {K : PySem.W.Frag} {mg : Str → Option Value} {base : Heap}
theorem ok_law_sheet (S : Src K mg "_law_sheet" s_law_sheet) (m_int : mg "int" = none) (G_law_off : KDef P w K mg base CX0 1 "_law_off" ["_law_d", "_law_most"] spOff) (G_law_table : KDef P w K mg base CX0 2 "_law_table" ["_law_d"] spTable)
    (G_law_times : KDef P w K mg base CX0 3 "_law_times" ["_law_d", "_law_most"] spTimes) : KDef P w K mg base CX0 4 "_law_sheet" ["_law_d"] spSheet := by
  refine S.ok sc_law_sheet (fun _ _ _ _ _ _ us hl => match us, hl with | [_], _ => rfl) (fun vs H Q E h => ?_) (fun f cdv A outer s H vs Q E hr h => ?_)
  · obtain ⟨d, rfl, _⟩ := h
    rfl
  · obtain ⟨d, rfl, dd, q⟩ := h
    refine ⟨_, (pss_cons (ps_set (i := 1) sc_law_sheet.nd rfl (.inl rfl) (pe_op op_cat (pe_callD G_law_table (hr.mono (by decide)) (by rfl) (pa_cons (pv 0) pa_nil)) (pe_op op_rep (pe_lst (pa_cons (pe_tup (pa_cons pe_str (pa_cons pe_str pa_nil))) pa_nil)) (pe_callTy call_int1 (by rfl) m_int (by decide +kernel) (pa_cons (pe_cmpR op_eq (pe_callD G_law_off (hr.mono (by decide)) (by rfl) (pa_cons (pv 0) (pa_cons pe_int pa_nil))) pe_int (nomark _)) pa_nil)))))
      (pss_one (ps_ret (pe_tup (pa_cons (pe_callD G_law_times (hr.mono (by decide)) (by rfl) (pa_cons (pv 0) (pa_cons pe_int pa_nil))) (pa_cons (pv 1) (pa_cons (pe_slice (sl_listK (K := K) rfl) (pe_lst (pa_cons pe_str (pa_cons pe_str (pa_cons pe_str (pa_cons pe_str pa_nil))))) (po_some (pe_callD G_law_off (hr.mono (by decide)) (by rfl) (pa_cons (pv 0) (pa_cons pe_int pa_nil)))) po_none) pa_nil))))))), ?_⟩
    refine ⟨_, rfl, d, rfl, dd, fun l ys p1 H1 good hin few np1 ep1 rt1 d1 k1 => ?_⟩
    refine ⟨lz (by show 2 ≤ 1000000; decide), fun TZ nTZ => ⟨lz (by show 1 ≤ 1000000; decide), fun pz npz => ?_⟩⟩
    have sZ := (sm (o := .tup [V.str "z", V.str ".----."]) nTZ).trans (sm (o := .lst [V.ref TZ]) npz)
    refine ⟨_, rfl, d, 3, rfl, d1.same sZ, by decide, by decide, fun r H2 r0 r3 d2 k2 => ?_⟩
    have pz_d : pz ≠ d := (d1.same (sm nTZ)).ne npz
    have tz_d : TZ ≠ d := d1.ne nTZ
    have p1_d : p1 ≠ d := dd.ne np1
    have ez2 := k2 _ _ pz_d upd_same
    have eT2 := k2 _ _ tz_d (sm npz _ _ upd_same)
    obtain ⟨n, n1, en⟩ : ∃ n : Nat, n ≤ 1 ∧ (if decide (V.int r = V.int 0) = true then (1 : Int) else 0) = (n : Int) := by
      cases decide (V.int r = V.int 0) with
      | false => exact ⟨0, by decide, rfl⟩
      | true => exact ⟨1, by decide, rfl⟩
    refine ⟨rfl, .inr ⟨_, rfl, ?_⟩⟩
    rw [en]
    refine ⟨pz, n, _, rfl, rfl, ez2, by omega, by omega, lz (by rw [Int.toNat_natCast]; show 1 * n ≤ 1000000; omega), fun p3 np3 => ?_⟩
    rw [Int.toNat_natCast]
    have ep2 := k2 _ _ p1_d (sZ _ _ ep1)
    have s3 := sm (o := .lst (List.replicate n [V.ref TZ]).flatten) np3
    have ly := rt1.1
    have lf : (List.replicate n [V.ref TZ]).flatten.length ≤ 1 := by
      rcases (by omega : n = 0 ∨ n = 1) with rfl | rfl
      · exact Nat.zero_le _
      · exact Nat.le_refl _
    refine ⟨p1, p3, _, _, rfl, rfl, s3 _ _ ep2, upd_same, lz (by omega), fun pr npr => ?_⟩
    have s4 := sm (o := .lst (ys ++ (List.replicate n [V.ref TZ]).flatten)) npr
    have dB := (d2.same s3).same s4
    have rtB := (((rt1.ext (ext_same sZ)).kp k2 (d1.same sZ)).ext (ext_same (s3.trans s4)))
    have rtZ := addZ_rows n1 rtB ((s3.trans s4) _ _ eT2)
    have gZ := good.addN n1 hin few
    have pr_d : pr ≠ d := (d2.same s3).ne npr
    have kA : Kp d H _ := ((k1.then sZ).trans k2).then (s3.trans s4)
    have npr0 : H pr = none := ((k1.then sZ).trans k2).new d2 (s3.free npr)
    have lzn : (l ++ List.replicate n rowZ).length ≤ 17 := by rw [List.length_append, List.length_replicate]; omega
    generalize l ++ List.replicate n rowZ = l' at rtZ gZ lzn
    refine ⟨_, rfl, d, 25, rfl, dB, by decide, by decide, fun ts pt H5 tps tl npt ept d5 k5 => ?_⟩
    have pt_d : pt ≠ d := dB.ne npt
    have er5 := k5 _ _ pr_d upd_same
    have rt5 := rtZ.kp k5 dB
    refine ⟨_, rfl, lz (by show 4 ≤ 1000000; decide), fun p4 np4 => ?_⟩
    have s5 := sm (o := .lst (books4.map V.str)) np4
    have p4_d : p4 ≠ d := d5.ne np4
    refine ⟨_, rfl, d, 5, rfl, d5.same s5, by decide, by decide, fun c H6 c0 c1 d6 k6 => ?_⟩
    obtain ⟨m, rfl⟩ := Int.eq_ofNat_of_zero_le c0
    refine ⟨_, rfl, p4, _, rfl, SqL.of (k6 _ _ p4_d upd_same), fun pb npb => ?_⟩
    have ecut : cutV (books4.map V.str) (some (m : Int)) none = (books4.drop m).map V.str := by
      rw [cut_fromN _ (by show m ≤ 4; omega), List.map_drop]
    refine ⟨lz (by show 3 ≤ 1000000; decide), fun p np => ?_⟩
    have s6 := sm (o := .lst (cutV (books4.map V.str) (some (m : Int)) none)) npb
    have s7 := sm (o := .tup [V.ref pt, V.ref pr, V.ref pb]) np
    have d7 := (d6.same s6).same s7
    have k35 := kA.trans k5
    have k46 := (k35.then s5).trans k6
    have s67 := s6.trans s7
    have ept7 := s67 _ _ (k6 _ _ pt_d (s5 _ _ ept))
    have er7 := s67 _ _ (k6 _ _ pr_d (s5 _ _ er5))
    have rt7 := ((rt5.ext (ext_same s5)).kp k6 (d5.same s5)).ext (ext_same s67)
    refine q ts l' (books4.drop m) _ p pt pr pb _ tps gZ (good_books m) ((k46.then s6).new (d6.same s6) np) (kA.new dB npt) npr0 (k46.new d6 npb) upd_same ept7 er7 rt7 ?_ ⟨lzn, m, rfl⟩ d7 (k46.then s67)
    rw [← ecut]
    exact s7 _ _ upd_same
end
end KT
namespace KT
open PySem PySem.Spec PyProof.Rows L2
section
variable {P : Program} {w : World} {K : PySem.W.Frag} {mg : Str → Option Value} {base : Heap}
theorem ok_law_lines (S : Src K mg "_law_lines" s_law_lines) (m_str : mg "str" = none) : KDef P w K mg base CX0 1 "_law_lines" ["_law_sheet_here"] (spLines K) := by
  refine S.ok sc_law_lines (fun _ _ _ _ _ _ us hl => match us, hl with | [_], _ => rfl) (fun vs H Q E h => ?_) (fun f cdv A outer s H vs Q E hr h => ?_)
  · obtain ⟨p, pt, pr, pb, ys, ts, l, bs, rfl, _⟩ := h
    rfl
  · obtain ⟨p, pt, pr, pb, ys, ts, l, bs, rfl, hp, ht, hrs, rt, hb, tp, good, gb, q⟩ := h
    refine ⟨_, (pss_cons (ps_set (i := 1) sc_law_lines.nd rfl (.inl rfl) (pe_lst (pa_cons (pe_op op_add_str pe_str (pe_joinK (K := K) rfl pe_str (pe_lc (own := [("_law_time", 2)]) (g := gName 2) (tt := tYes) rfl sc_law_lines.nd (pi_listK (K := K) rfl (pe_ix (ix_tupK (K := K) rfl) (pv 0) pe_int (fun _ _ => rfl))) (blkOk_by (own := [("_law_time", 2)]) (N := ["_law_sheet_here", "_law_rows", "_law_time", "_law_letter", "_law_marks", "_law_word"]) (sc := defScope s_law_lines) (by decide +kernel)) (fun _ _ _ _ _ => (pg_name (i := 2) sc_law_lines.nd rfl (.inl rfl) (.inr rfl))) (fun _ _ _ _ _ => pts_nil) (fun _ _ _ _ _ => (pe_callTy call_str_int (by rfl) m_str (by decide +kernel) (pa_cons (pv 2) pa_nil)))))) pa_nil)))
      (pss_cons (ps_set (i := 1) sc_law_lines.nd rfl (.inl rfl) (pe_op op_cat (pv 1) (pe_lc (own := [("_law_letter", 3), ("_law_marks", 4)]) (g := gTup K 2 (gCons (gName 3) (gCons (gName 4) gNil))) (tt := tYes) rfl sc_law_lines.nd (pi_listK (K := K) rfl (pe_ix (ix_tupK (K := K) rfl) (pv 0) pe_int (fun _ _ => rfl))) (blkOk_by (own := [("_law_letter", 3), ("_law_marks", 4)]) (N := ["_law_sheet_here", "_law_rows", "_law_time", "_law_letter", "_law_marks", "_law_word"]) (sc := defScope s_law_lines) (by decide +kernel)) (fun _ _ _ _ _ => (pg_tup rfl (pgs_cons (pg_name (i := 3) sc_law_lines.nd rfl (.inl rfl) (.inr rfl)) (pgs_cons (pg_name (i := 4) sc_law_lines.nd rfl (.inl rfl) (.inr rfl)) pgs_nil)))) (fun _ _ _ _ _ => pts_nil) (fun _ _ _ _ _ => (pe_op op_add_str (pe_op op_add_str (pe_op op_add_str pe_str (pv 3)) pe_str) (pv 4))))))
      (pss_one (ps_ret (pe_op op_cat (pv 1) (pe_lc (own := [("_law_word", 5)]) (g := gName 5) (tt := tYes) rfl sc_law_lines.nd (pi_listK (K := K) rfl (pe_ix (ix_tupK (K := K) rfl) (pv 0) pe_int (fun _ _ => rfl))) (blkOk_by (own := [("_law_word", 5)]) (N := ["_law_sheet_here", "_law_rows", "_law_time", "_law_letter", "_law_marks", "_law_word"]) (sc := defScope s_law_lines) (by decide +kernel)) (fun _ _ _ _ _ => (pg_name (i := 5) sc_law_lines.nd rfl (.inl rfl) (.inr rfl))) (fun _ _ _ _ _ => pts_nil) (fun _ _ _ _ _ => (pe_op op_add_str pe_str (pv 5))))))))), ?_⟩
    have le := tp.le
    have few := good.few
    have fewB := gb.few
    refine ⟨⟨_, rfl⟩, _, rfl, _, _, _, _, rfl, rfl, hp, aI (by decide) rfl, pt, rfl, ⟨_, ht⟩, fun D nD => ?_⟩
    refine lc_s walk_list (fun i y => ∃ t, ts[i]? = some t ∧ y = V.str (numS t)) nD (by rw [List.length_map]; omega) (fun H7 s7 => s7.seq ht) ?_ ?_
    · rintro i v H7 H7' acc k hi s7 eD lac ⟨rfl, hx⟩ fin
      obtain ⟨t, rfl, et⟩ := int_at hx
      have tt := tp.all i t et
      exact ⟨rfl, _, rfl, t, rfl, num_log (by omega) (by omega), fin _ _ s7 eD ⟨t, et, rfl⟩⟩
    intro H3 xs s3 eD lx px
    have ex : xs = (ts.map numS).map V.str := by
      rw [List.length_map] at lx
      apply List.ext_getElem?
      intro i
      by_cases c : i < xs.length
      · obtain ⟨z, h1, h2⟩ := px i _ (List.getElem?_eq_getElem c)
        rw [List.getElem?_eq_getElem c, h2, List.getElem?_map, List.getElem?_map, h1]
        rfl
      · rw [List.getElem?_eq_none (by omega), List.getElem?_eq_none (by rw [List.length_map, List.length_map]; omega)]
    subst ex
    have nl := nums_len tp
    have hl := head_len tp
    refine ⟨_, D, ts.map numS, rfl, rfl, .inl (SqL.of eD), by omega, _, _, rfl, rfl, lz (by unfold headRow at hl; rw [Str.length_append] at hl; omega), lz (by show 1 ≤ 1000000; decide), fun R nR => ?_⟩
    have sR := sm (o := .lst [V.str (headRow ts)]) nR
    have s13 := s3.trans sR
    have eR := upd_same (H := H3) (a := R) (o := .lst [V.str (headRow ts)])
    refine ⟨_, rfl, _, rfl, _, _, _, _, rfl, rfl, same_tup s13 hp, aI (by decide) rfl, pr, rfl, ⟨_, s13.seq hrs⟩, fun D2 nD2 => ?_⟩
    have rt5 := rt.ext (ext_same s13)
    have lenY := rt.1
    refine lc_s walk_list (fun i y => ∃ e, l[i]? = some e ∧ y = V.str (letRow e)) nD2 (by omega) (fun H7 s7 => s7.seq (s13.seq hrs)) ?_ ?_
    · rintro i v H7 H7' acc k hi s7 eD2 lac ⟨rfl, hx⟩ fin
      have hx : ys[i]? = some v := hx
      have ei := List.getElem?_eq_getElem (show i < l.length by omega)
      obtain ⟨TR, g1, g2⟩ := rt5.2 i _ ei
      rw [hx] at g1
      cases g1
      obtain ⟨a1, _, a2, _⟩ := good.one _ (List.getElem_mem (show i < l.length by omega))
      have ll := let_len a1 a2
      unfold letRow at ll
      simp only [Str.length_append] at ll
      have l0 : Str.empty.length = 0 := rfl
      refine ⟨_, _, rfl, .inl (.inl (s7 _ _ g2)), rfl, _, _, rfl, _, _, rfl, rfl, ?_⟩
      refine ⟨rfl, _, rfl, _, _, rfl, rfl, lz (by omega), _, _, rfl, rfl, lz (by rw [Str.length_append]; omega), _, rfl, _, _, rfl, rfl, lz (by rw [Str.length_append, Str.length_append]; omega), ?_⟩
      refine fin _ _ s7 eD2 ⟨_, ei, ?_⟩
      unfold letRow
      rw [e_app]
    intro H6 xs s6 eD2 lx px
    have ex : xs = (l.map letRow).map V.str := by
      apply List.ext_getElem?
      intro i
      by_cases c : i < xs.length
      · obtain ⟨z, h1, h2⟩ := px i _ (List.getElem?_eq_getElem c)
        rw [List.getElem?_eq_getElem c, h2, List.getElem?_map, List.getElem?_map, h1]
        rfl
      · rw [List.getElem?_eq_none (by omega), List.getElem?_eq_none (by rw [List.length_map, List.length_map]; omega)]
    subst ex
    have eR6 := s6 _ _ eR
    refine ⟨R, D2, _, _, rfl, rfl, eR6, eD2, lz (by rw [List.length_map, List.length_map]; show 1 + _ ≤ _; omega), fun R2 nR2 => ?_⟩
    have s8 := sm (o := .lst ([V.str (headRow ts)] ++ (l.map letRow).map V.str)) nR2
    have s18 := (s13.trans s6).trans s8
    refine ⟨_, rfl, _, rfl, _, _, _, _, rfl, rfl, same_tup s18 hp, aI (by decide) rfl, pb, rfl, ⟨_, s18.seq hb⟩, fun D3 nD3 => ?_⟩
    refine lc_s walk_list (fun i y => ∃ z, bs[i]? = some z ∧ y = V.str (wordRow z)) nD3 (by rw [List.length_map]; omega) (fun H7 s7 => s7.seq (s18.seq hb)) ?_ ?_
    · rintro i v H7 H7' acc k hi s7 eD3 lac ⟨rfl, hx⟩ fin
      have hx : (bs.map V.str)[i]? = some v := hx
      rw [List.getElem?_map] at hx
      obtain ⟨z, ez, rfl⟩ := Option.map_eq_some_iff.mp hx
      have zl := (gb.small z (List.mem_of_getElem? ez)).2
      have ll := word_len zl
      unfold wordRow at ll
      simp only [Str.length_append] at ll
      refine ⟨rfl, _, rfl, _, _, rfl, rfl, lz (by omega), ?_⟩
      refine fin _ _ s7 eD3 ⟨z, ez, ?_⟩
      unfold wordRow
      rw [e_app]
    intro H9 xs s9 eD3 lx px
    have ex : xs = (bs.map wordRow).map V.str := by
      rw [List.length_map] at lx
      apply List.ext_getElem?
      intro i
      by_cases c : i < xs.length
      · obtain ⟨z, h1, h2⟩ := px i _ (List.getElem?_eq_getElem c)
        rw [List.getElem?_eq_getElem c, h2, List.getElem?_map, List.getElem?_map, h1]
        rfl
      · rw [List.getElem?_eq_none (by omega), List.getElem?_eq_none (by rw [List.length_map, List.length_map]; omega)]
    subst ex
    have eR9 := s9 _ _ (upd_same (H := H6) (a := R2) (o := .lst ([V.str (headRow ts)] ++ (l.map letRow).map V.str)))
    refine ⟨R2, D3, _, _, rfl, rfl, eR9, eD3, lz (by rw [List.length_append, List.length_map, List.length_map, List.length_map, List.length_map]; show 1 + _ + _ ≤ _; omega), fun r nr => ?_⟩
    have s10 := sm (o := .lst ([V.str (headRow ts)] ++ (l.map letRow).map V.str ++ (bs.map wordRow).map V.str)) nr
    have eq : [V.str (headRow ts)] ++ (l.map letRow).map V.str ++ (bs.map wordRow).map V.str = (sheetRows ts l bs).map V.str := by
      unfold sheetRows
      rw [List.map_append, List.map_append]
      rfl
    refine q r _ ((s18.trans s9).free nr) ((s18.trans s9).trans s10) ?_
    rw [upd_same, eq]
end
end KT
namespace KT
open PySem PySem.Spec PyProof.Rows L2
section
variable {P : Program} {w : World} {K : PySem.W.Frag} {mg : Str → Option Value} {base : Heap}
theorem ok_law {T : List Addr} {f : Addr} {fd : FuncData} (F : FunD K "law" "law" (defArgs slaw) (defBody slaw) (defScope slaw) [] [] f fd)
    (G_law_dice : KDef P w K mg base CX0 1 "_law_dice" ["_law_script", "_law_k"] (spDice K)) (G_law_off : KDef P w K mg base CX0 1 "_law_off" ["_law_d", "_law_most"] spOff) (G_law_sheet : KDef P w K mg base CX0 4 "_law_sheet" ["_law_d"] spSheet) (G_law_lines : KDef P w K mg base CX0 1 "_law_lines" ["_law_sheet_here"] (spLines K))
    (G_law_refused : KDef P w K mg base CX0 9 "_law_refused" ["_law_rows", "_law_word", "_law_due"] (spRefd K T)) (m_len : mg "len" = none) : FnOk P w K mg base CX0 10 f fd ["_law_script"] (spLawT K T) := by
  refine F.ok sclaw (fun vs H Q E h => ?_) (fun cdv A outer s H vs Q E hr h => ?_)
  · obtain ⟨a, ns, rfl, _⟩ := h
    rfl
  · obtain ⟨a, ns, rfl, hS, hl, tb0, q⟩ := h
    refine ⟨_, PSs.nox (pss_cons (ps_set (i := 1) sclaw.nd rfl (.inl rfl) (pe_callD G_law_dice (hr.mono (by decide)) (by rfl) (pa_cons (pv 0) (pa_cons pe_int pa_nil))))
      (pss_cons (ps_set (i := 2) sclaw.nd rfl (.inl rfl) (pe_callD G_law_sheet (hr.mono (by decide)) (by rfl) (pa_cons (pv 1) pa_nil)))
      (pss_cons (ps_set (i := 3) sclaw.nd rfl (.inl rfl) (pe_callD G_law_lines (hr.mono (by decide)) (by rfl) (pa_cons (pv 2) pa_nil)))
      (pss_cons (ps_set (i := 4) sclaw.nd rfl (.inl rfl) (pe_lst (pa_cons pe_str (pa_cons pe_str (pa_cons pe_str (pa_cons pe_str (pa_cons pe_str (pa_cons pe_str (pa_cons pe_str (pa_cons pe_str (pa_cons pe_str (pa_cons pe_str pa_nil))))))))))))
      (pss_cons (ps_set (i := 4) sclaw.nd rfl (.inl rfl) (pe_op op_cat (pv 4) (pe_lst (pa_cons pe_str (pa_cons pe_str (pa_cons pe_str (pa_cons pe_str (pa_cons pe_str (pa_cons pe_str (pa_cons pe_str (pa_cons pe_str pa_nil)))))))))))
      (pss_cons (ps_set (i := 4) sclaw.nd rfl (.inl rfl) (pe_op op_cat (pv 4) (pe_lst (pa_cons pe_str (pa_cons pe_str pa_nil)))))
      (pss_cons (ps_set (i := 5) sclaw.nd rfl (.inl rfl) (pe_lst (pa_cons pe_str (pa_cons pe_str (pa_cons pe_str (pa_cons pe_str (pa_cons pe_str (pa_cons pe_str (pa_cons pe_str (pa_cons pe_str (pa_cons pe_str (pa_cons pe_str pa_nil))))))))))))
      (C8.pss_cut (ps_set (i := 5) sclaw.nd rfl (.inl rfl) (pe_op op_cat (pv 5) (pe_lst (pa_cons pe_str (pa_cons pe_str (pa_cons pe_str (pa_cons pe_str (pa_cons pe_str pa_nil))))))))
      (C8.pss_cut (ps_set (i := 6) sclaw.nd rfl (.inl rfl) (pe_op op_add pe_int (pe_callD G_law_off (hr.mono (by decide)) (by rfl) (pa_cons (pv 1) (pa_cons (pe_callB (call_len_seqK (K := K) rfl) (by rfl) m_len (by decide +kernel) (pa_cons (pv 3) pa_nil)) pa_nil)))))
      (C8.pss_cut (ps_set (i := 7) sclaw.nd rfl (.inl rfl) (pe_slice (sl_listK (K := K) rfl) (pe_lst (pa_cons pe_str (pa_cons pe_str pa_nil))) po_none (po_some (pe_callD G_law_off (hr.mono (by decide)) (by rfl) (pa_cons (pv 1) (pa_cons pe_int pa_nil))))))
      (C8.pss_cut (ps_if (pt_not (pt_val (pe_callD G_law_refused (hr.mono (by decide)) (by rfl) (pa_cons (pe_op op_cat (pe_op op_cat (pe_op op_cat (pe_slice (sl_listK (K := K) rfl) (pv 3) po_none (po_some (pv 6))) (pe_lst (pa_cons (pe_ix (ix_listK (K := K) rfl) (pv 4) (pe_callD G_law_off (hr.mono (by decide)) (by rfl) (pa_cons (pv 1) (pa_cons pe_int pa_nil))) (fun _ _ => rfl)) pa_nil))) (pe_slice (sl_listK (K := K) rfl) (pv 3) (po_some (pv 6)) po_none)) (pv 7)) (pa_cons pe_str (pa_cons (pv 6) pa_nil))))))
      (pss_one (ps_ret pe_bl))
      pss_nil)
      (C8.pss_cut (ps_if (pt_not (pt_val (pe_callD G_law_refused (hr.mono (by decide)) (by rfl) (pa_cons (pe_op op_cat (pe_op op_cat (pe_lst (pa_cons (pe_ix (ix_listK (K := K) rfl) (pv 5) (pe_callD G_law_off (hr.mono (by decide)) (by rfl) (pa_cons (pv 1) (pa_cons pe_int pa_nil))) (fun _ _ => rfl)) pa_nil)) (pe_slice (sl_listK (K := K) rfl) (pv 3) (po_some pe_int) po_none)) (pv 7)) (pa_cons pe_str (pa_cons pe_int pa_nil))))))
      (pss_one (ps_ret pe_bl))
      pss_nil)
      (C8.pss_cut (ps_if (pt_not (pt_val (pe_callD G_law_refused (hr.mono (by decide)) (by rfl) (pa_cons (pe_op op_cat (pv 3) (pe_lst (pa_cons pe_str (pa_cons pe_str pa_nil)))) (pa_cons pe_str (pa_cons (pe_op op_add (pe_callB (call_len_seqK (K := K) rfl) (by rfl) m_len (by decide +kernel) (pa_cons (pv 3) pa_nil)) pe_int) pa_nil))))))
      (pss_one (ps_ret pe_bl))
      pss_nil)
      (pss_cons (ps_set (i := 8) sclaw.nd rfl (.inl rfl) (pe_tup (pa_cons (pe_op op_cat (pe_op op_cat (pe_lst (pa_cons pe_str pa_nil)) (pe_slice (sl_listK (K := K) rfl) (pv 3) (po_some pe_int) po_none)) (pe_lst (pa_cons pe_str pa_nil))) (pa_cons pe_str (pa_cons (pe_tup (pa_cons pe_int (pa_cons pe_str pa_nil))) pa_nil)))))
      (pss_cons (ps_set (i := 9) sclaw.nd rfl (.inl rfl) (pe_tup (pa_cons (pe_op op_cat (pe_slice (sl_listK (K := K) rfl) (pv 3) po_none (po_some (pe_op op_add pe_int (pe_callB (call_len_seqK (K := K) rfl) (by rfl) m_len (by decide +kernel) (pa_cons (pe_ix (ix_tupK (K := K) rfl) (pv 2) pe_int (fun _ _ => rfl)) pa_nil))))) (pe_lst (pa_cons pe_str (pa_cons pe_str pa_nil)))) (pa_cons pe_str (pa_cons (pe_tup (pa_cons (pe_callB (call_len_seqK (K := K) rfl) (by rfl) m_len (by decide +kernel) (pa_cons (pe_ix (ix_tupK (K := K) rfl) (pv 2) pe_int (fun _ _ => rfl)) pa_nil)) (pa_cons pe_str pa_nil))) pa_nil)))))
      (C8.pss_cut (ps_set (i := 10) sclaw.nd rfl (.inl rfl) (pe_lst (pa_cons (pv 8) (pa_cons (pv 9) (pa_cons (pe_tup (pa_cons (pe_op op_cat (pv 3) (pe_lst (pa_cons pe_str pa_nil))) (pa_cons pe_str (pa_cons (pe_tup (pa_cons (pe_callB (call_len_seqK (K := K) rfl) (by rfl) m_len (by decide +kernel) (pa_cons (pe_ix (ix_tupK (K := K) rfl) (pv 2) pe_int (fun _ _ => rfl)) pa_nil)) (pa_cons pe_str pa_nil))) pa_nil)))) pa_nil)))))
      (pss_cons (ps_expr (pe_bm PySem.F.plainAttrs_list PySem.F.slot_list_append PySem.F.type_list_append mt_append (pv 10) (pa_cons (pe_tup (pa_cons (pe_op op_cat (pe_slice (sl_listK (K := K) rfl) (pv 3) po_none (po_some pe_int)) (pe_lst (pa_cons pe_str pa_nil))) (pa_cons pe_str (pa_cons (pe_tup (pa_cons pe_int (pa_cons pe_str pa_nil))) pa_nil)))) pa_nil)))
      (pss_cons (ps_expr (pe_bm PySem.F.plainAttrs_list PySem.F.slot_list_append PySem.F.type_list_append mt_append (pv 10) (pa_cons (pe_tup (pa_cons (pe_lst (pa_cons pe_str (pa_cons pe_str (pa_cons pe_str (pa_cons pe_str pa_nil))))) (pa_cons pe_str (pa_cons (pe_tup (pa_cons pe_int (pa_cons pe_str pa_nil))) pa_nil)))) pa_nil)))
      (C8.pss_cut (ps_expr (pe_bm PySem.F.plainAttrs_list PySem.F.slot_list_append PySem.F.type_list_append mt_append (pv 10) (pa_cons (pe_tup (pa_cons (pe_lst (pa_cons pe_str (pa_cons pe_str pa_nil))) (pa_cons pe_str (pa_cons (pe_tup (pa_cons pe_int (pa_cons pe_str pa_nil))) pa_nil)))) pa_nil)))
      (pss_cons (ps_set (i := 11) sclaw.nd rfl (.inl rfl) (pe_ix (ix_listK (K := K) rfl) (pv 10) (pe_callD G_law_off (hr.mono (by decide)) (by rfl) (pa_cons (pv 1) (pa_cons pe_int pa_nil))) (fun _ _ => rfl)))
      (pss_one (ps_ret (pe_and (pe_callD G_law_refused (hr.mono (by decide)) (by rfl) (pa_cons (pe_ix (ix_tupK (K := K) rfl) (pv 11) pe_int (fun _ _ => rfl)) (pa_cons (pe_ix (ix_tupK (K := K) rfl) (pv 11) pe_int (fun _ _ => rfl)) (pa_cons (pe_ix (ix_tupK (K := K) rfl) (pv 11) pe_int (fun _ _ => rfl)) pa_nil)))) (pe_one (pe_callD G_law_refused (hr.mono (by decide)) (by rfl) (pa_cons (pe_op op_cat (pe_ix (ix_tupK (K := K) rfl) (pv 11) pe_int (fun _ _ => rfl)) (pe_lst (pa_cons pe_str pa_nil))) (pa_cons pe_str (pa_cons (pe_callB (call_len_seqK (K := K) rfl) (by rfl) m_len (by decide +kernel) (pa_cons (pe_ix (ix_tupK (K := K) rfl) (pv 11) pe_int (fun _ _ => rfl)) pa_nil)) pa_nil)))))))))))))))))))))))))))), ?_⟩
    refine ⟨_, rfl, a, ns, rfl, hS, hl, fun d H1 nd s1 dd => ?_⟩
    refine ⟨_, rfl, d, rfl, dd, fun ts l bs ys p pt pr pb H2 tps good gb np npt npr npb ep ept epr rt epb bk d2 k2 => ?_⟩
    have tb2 := tb_kp (tb_same tb0 s1) k2 dd
    have ok : SheetOk ts l bs := ⟨tps, good, gb, bk⟩
    have hlen := ok.len
    have slen := sheet_len ts l bs
    refine ⟨_, rfl, p, pt, pr, pb, ys, ts, l, bs, rfl, SqT.of ep, SqL.of ept, SqL.of epr, rt, SqL.of epb, tps, good, gb, fun r H3 nr s3 er => ?_⟩
    rw [rows_words (List.length_pos_iff.mp tps.pos)] at er
    replace er : H3 r = some (.lst (tx (sheetWs ts l bs))) := er
    have ne := fun (x : Addr) (n : H2 x = none) => d2.ne n
    have d3 := d2.same s3
    -- odd rows, odd heads
    refine ⟨lz (by show 10 ≤ 1000000; decide), fun o1 n1 => ?_⟩
    have g1 : Same H3 (upd H3 o1 (.lst oddVa)) := sm n1
    refine ⟨_, rfl, lz (by show 8 ≤ 1000000; decide), fun o2 n2 => ?_⟩
    have g2 : Same (upd H3 o1 (.lst oddVa)) (upd (upd H3 o1 (.lst oddVa)) o2 (.lst oddVb)) := sm n2
    refine ⟨o1, o2, _, _, rfl, rfl, g2 _ _ upd_same, upd_same, lz (by show 10 + 8 ≤ 1000000; decide), fun o3 n3 => ?_⟩
    have g3 := g1.trans (g2.trans (sm (o := .lst (oddVa ++ oddVb)) n3))
    refine ⟨_, rfl, lz (by show 2 ≤ 1000000; decide), fun o4 n4 => ?_⟩
    have g4 := sm (o := .lst oddVc) n4
    refine ⟨o3, o4, _, _, rfl, rfl, g4 _ _ upd_same, upd_same, lz (by show 18 + 2 ≤ 1000000; decide), fun o n5 => ?_⟩
    have g5 := g3.trans (g4.trans (sm (o := .lst oddV) n5))
    have no : o ≠ d := (d3.same (g3.trans g4)).ne n5
    refine ⟨lz (by show 10 ≤ 1000000; decide), fun h1 m1 => ?_⟩
    have f1 := sm (o := .lst headsVa) m1
    refine ⟨fun σ H' => ∃ h : Addr, σ = [some (.ref a), some (.ref d), some (.ref p), some (.ref r), some (.ref o), some (.ref h), none, none, none, none, none, none] ∧ S17 T H' d p pt pr pb r o h ys ts l bs, ?_, ?_⟩
    · refine ⟨_, rfl, lz (by show 5 ≤ 1000000; decide), fun h2 m2 => ?_⟩
      have f2 := sm (o := .lst headsVb) m2
      refine ⟨h1, h2, _, _, rfl, rfl, f2 _ _ upd_same, upd_same, lz (by show 10 + 5 ≤ 1000000; decide), fun h m3 => ?_⟩
      have f3 := sm (o := .lst headsV) m3
      have f13 := f1.trans (f2.trans f3)
      have s23 := s3.trans (g5.trans f13)
      refine ⟨h, rfl, d2.same s23, tb_same tb2 s23, s23 _ _ ep, s23 _ _ epr, rt.1, s23 _ _ epb, g5.trans f13 _ _ er, ?_, ?_, dd.ne np, dd.ne npr, dd.ne npb, d2.ne nr, no, (d3.same (g5.trans (f1.trans f2))).ne m3⟩
      · rw [← odd_tx]
        exact f13 _ _ upd_same
      · rw [← heads_tx]
        exact upd_same
    clear no m1 f1 n5 g5 g4 g3 g2 g1 n1 n2 n3 n4 er d3 nr s3 ne ep ept epr epb rt d2 k2 np npt npr npb dd nd s1 tb0 tb2 hS
    rintro σ H4 ⟨h, rfl, st⟩
    clear h1 o1 o2 o3 o4 H3 H2 H1
    have RO := ok_sheet ok.parts
    have RL := ok.low
    have R1 : 1 ≤ (sheetWs ts l bs).length := by omega
    -- where
    refine ⟨fun σ H' => ∃ n : Nat, σ = [some (.ref a), some (.ref d), some (.ref p), some (.ref r), some (.ref o), some (.ref h), some (.int (n : Int)), none, none, none, none, none] ∧ S17 T H' d p pt pr pb r o h ys ts l bs ∧ 0 < n ∧ n ≤ (sheetWs ts l bs).length, ?_, ?_⟩
    · refine ⟨_, rfl, _, rfl, r, _, rfl, .inl (SqL.of st.er), d, _, rfl, st.dd, by rw [tx_len]; omega, by rw [tx_len]; omega, fun k H5 k0 k1 d5 kp5 => ⟨_, _, rfl, rfl, (1 + k).toNat, ?_, st.kp kp5 d5, by omega, ?_⟩⟩
      · rw [show (((1 + k).toNat : Nat) : Int) = 1 + k by omega]
        rfl
      · rw [tx_len] at k1
        omega
    rintro σ H5 ⟨n, rfl, st5, hn1⟩
    clear st
    -- what follows
    refine ⟨fun σ H' => ∃ (lt : Addr) (m : Nat), σ = [some (.ref a), some (.ref d), some (.ref p), some (.ref r), some (.ref o), some (.ref h), some (.int (n : Int)), some (.ref lt), none, none, none, none] ∧ S17 T H' d p pt pr pb r o h ys ts l bs ∧ H' lt = some (.lst (tx (laterW.take m))) ∧ lt ≠ d, ?_, ?_⟩
    · refine ⟨lz (by show 2 ≤ 1000000; decide), fun p1 n1 => ?_⟩
      have s1 := sm (o := .lst [V.str "", V.str "x"]) n1
      refine ⟨_, rfl, d, _, rfl, st5.dd.same s1, by decide, by decide, fun k3 H3 r0 r1 d3 kp3 => ⟨_, rfl, p1, _, rfl, SqL.of (kp3 _ _ (st5.dd.ne n1) upd_same), fun lt nlt => ?_⟩⟩
      refine ⟨lt, k3.toNat, rfl, ((st5.same s1).kp kp3 d3).same (sm nlt), ?_, d3.ne nlt⟩
      obtain ⟨m, rfl⟩ := Int.eq_ofNat_of_zero_le r0
      rw [upd_same, later_tx, cut_to _ (by rw [tx_len]; show m ≤ 2; omega), tx_take]
      rfl
    rintro σ H6 ⟨lt, m, rfl, st, elt, nlt⟩
    clear st5
    have lm : (laterW.take m).length ≤ 2 := by rw [List.length_take]; show min m 2 ≤ 2; omega
    have ll2 : laterW.length = 2 := rfl
    have LL : Low (laterW.take m) := (low_dec (by decide) later_low).take m
    -- an odd row
    refine ⟨fun σ H' => σ = [some (.ref a), some (.ref d), some (.ref p), some (.ref r), some (.ref o), some (.ref h), some (.int (n : Int)), some (.ref lt), none, none, none, none] ∧ S17 T H' d p pt pr pb r o h ys ts l bs ∧ H' lt = some (.lst (tx (laterW.take m))), ?_, ?_⟩
    · refine ⟨_, rfl, _, rfl, _, rfl, r, _, rfl, SqL.of st.er, fun p1 n1 => ?_⟩
      rw [cut_to _ (by rw [tx_len]; omega), tx_take]
      have s1 := sm (o := .lst (tx ((sheetWs ts l bs).take n))) n1
      have st1 := st.same s1
      refine ⟨_, rfl, _, rfl, d, _, rfl, st1.dd, by decide, by decide, fun k H7 k0 k1 d7 kp7 => ?_⟩
      have st7 := st1.kp kp7 d7
      have ew := List.getElem?_eq_getElem (show k.toNat < oddW.length by show k.toNat < 20; omega)
      have mw := List.getElem_mem (show k.toNat < oddW.length by show k.toNat < 20; omega)
      have nv := List.all_eq_true.mp odd_never _ mw
      have lw := List.all_eq_true.mp odd_low _ mw
      generalize oddW[k.toNat]'(by show k.toNat < 20; omega) = o0 at ew nv lw
      refine ⟨_, _, _, _, rfl, rfl, SqL.of st7.eo, aI k0 (tx_at ew), lz (by show 1 ≤ 1000000; decide), fun p2 n2 => ?_⟩
      have s2 := sm (o := .lst (tx [o0])) n2
      have e71 := kp7 _ _ (st.dd.ne n1) upd_same
      refine ⟨p1, p2, _, _, rfl, rfl, s2 _ _ e71, upd_same, lz (by rw [tx_len, List.length_take]; show _ + 1 ≤ 1000000; omega), fun p3 n3 => ?_⟩
      have s3 := sm (o := .lst (tx ((sheetWs ts l bs).take n) ++ tx [o0])) n3
      have st3 := st7.same (s2.trans s3)
      refine ⟨_, rfl, _, rfl, _, rfl, r, _, rfl, SqL.of st3.er, fun p4 n4 => ?_⟩
      rw [cut_fromN _ (by rw [tx_len]; omega), tx_drop]
      have s4 := sm (o := .lst (tx ((sheetWs ts l bs).drop n))) n4
      refine ⟨p3, p4, _, _, rfl, rfl, s4 _ _ upd_same, upd_same, lz (by simp only [List.length_append, tx_len, List.length_take, List.length_drop]; show _ + 1 + _ ≤ 1000000; omega), fun p5 n5 => ?_⟩
      have s5 := sm (o := .lst (tx ((sheetWs ts l bs).take n) ++ tx [o0] ++ tx ((sheetWs ts l bs).drop n))) n5
      have elt5 := (s2.trans (s3.trans (s4.trans s5))) _ _ (kp7 _ _ nlt (s1 _ _ elt))
      refine ⟨_, rfl, p5, lt, _, _, rfl, rfl, upd_same, elt5, lz (by simp only [List.length_append, tx_len, List.length_take, List.length_drop]; show _ + 1 + _ + _ ≤ 1000000; omega), fun p6 n6 => ?_⟩
      have s6 := sm (o := .lst (tx ((sheetWs ts l bs).take n) ++ tx [o0] ++ tx ((sheetWs ts l bs).drop n) ++ tx (laterW.take m))) n6
      have st6 := st3.same (s4.trans (s5.trans s6))
      have elt6 := s6 _ _ elt5
      refine ⟨_, rfl, p6, (sheetWs ts l bs).take n ++ [o0] ++ (sheetWs ts l bs).drop n ++ laterW.take m, "text", _, rfl, ?_, ?_, ?_, st6.tb, .inl ⟨rfl, n, rfl, ref_in RO hn1.2 (by omega) hn1.1 nv⟩, fun H8 x8 tb8 => ⟨_, rfl, iteQ rfl ?_⟩⟩
      · rw [tx_app, tx_app, tx_app]
        exact SqL.of upd_same
      · simp
      · refine Low.app (Low.app (Low.app (RL.take n) ⟨by show 1 ≤ 60; decide, fun r m => ?_⟩ ?_) (RL.drop n) ?_) LL ?_
        · rw [List.mem_singleton.mp m]
          exact rowB_ok lw
        · rw [List.length_take]
          show _ + 1 ≤ 60
          omega
        · rw [List.length_append, List.length_take, List.length_drop]
          show _ + 1 + _ ≤ 60
          omega
        · rw [List.length_append, List.length_append, List.length_take, List.length_drop]
          show _ + 1 + _ + _ ≤ 60
          omega
      · exact ⟨rfl, st6.ext x8 tb8, x8 _ _ elt6 fun ps z => nomatch z⟩
    rintro σ H7 ⟨rfl, st7, elt7⟩
    clear st elt
    -- an odd head
    refine ⟨fun σ H' => σ = [some (.ref a), some (.ref d), some (.ref p), some (.ref r), some (.ref o), some (.ref h), some (.int (n : Int)), some (.ref lt), none, none, none, none] ∧ S17 T H' d p pt pr pb r o h ys ts l bs, ?_, ?_⟩
    · refine ⟨_, rfl, _, rfl, d, _, rfl, st7.dd, by decide, by decide, fun k H8 k0 k1 d8 kp8 => ?_⟩
      have st8 := st7.kp kp8 d8
      have elt8 := kp8 _ _ nlt elt7
      have ew := List.getElem?_eq_getElem (show k.toNat < headsW.length by show k.toNat < 15; omega)
      have mw := List.getElem_mem (show k.toNat < headsW.length by show k.toNat < 15; omega)
      have nv := List.all_eq_true.mp heads_bad _ mw
      have lw := List.all_eq_true.mp heads_low _ mw
      generalize headsW[k.toNat]'(by show k.toNat < 15; omega) = o0 at ew nv lw
      refine ⟨_, _, _, _, rfl, rfl, SqL.of st8.eh, aI k0 (tx_at ew), lz (by show 1 ≤ 1000000; decide), fun p1 n1 => ?_⟩
      have s1 := sm (o := .lst (tx [o0])) n1
      have st1 := st8.same s1
      refine ⟨_, rfl, _, rfl, r, _, rfl, SqL.of st1.er, fun p2 n2 => ?_⟩
      rw [cut_1 R1]
      have s2 := sm (o := .lst (tx ((sheetWs ts l bs).drop 1))) n2
      refine ⟨p1, p2, _, _, rfl, rfl, s2 _ _ upd_same, upd_same, lz (by rw [tx_len, List.length_drop]; show 1 + _ ≤ 1000000; omega), fun p3 n3 => ?_⟩
      have s3 := sm (o := .lst (tx [o0] ++ tx ((sheetWs ts l bs).drop 1))) n3
      have elt3 := (s1.trans (s2.trans s3)) _ _ elt8
      refine ⟨_, rfl, p3, lt, _, _, rfl, rfl, upd_same, elt3, lz (by simp only [List.length_append, tx_len, List.length_take, List.length_drop]; show 1 + _ + _ ≤ 1000000; omega), fun p4 n4 => ?_⟩
      have s4 := sm (o := .lst (tx [o0] ++ tx ((sheetWs ts l bs).drop 1) ++ tx (laterW.take m))) n4
      have st4 := st1.same (s2.trans (s3.trans s4))
      refine ⟨p4, [o0] ++ (sheetWs ts l bs).drop 1 ++ laterW.take m, "text", _, rfl, ?_, ?_, ?_, st4.tb, .inl ⟨rfl, 0, rfl, ?_⟩, fun H9 x9 tb9 => ⟨_, rfl, iteQ rfl ?_⟩⟩
      · rw [tx_app, tx_app]
        exact SqL.of upd_same
      · simp
      · refine Low.app (Low.app ⟨by show 1 ≤ 60; decide, fun r m => ?_⟩ (RL.drop 1) ?_) LL ?_
        · rw [List.mem_singleton.mp m]
          exact rowB_ok lw
        · rw [List.length_drop]
          show 1 + _ ≤ 60
          omega
        · rw [List.length_append, List.length_drop]
          show 1 + _ + _ ≤ 60
          omega
      · rw [List.append_assoc]
        exact ref_head (Bool.not_eq_true' _ |>.mp nv)
      · exact ⟨rfl, st4.ext x9 tb9⟩
    rintro σ H8 ⟨rfl, st8⟩
    clear st7 elt7 LL lm
    -- a letter after a word
    refine ⟨fun σ H' => σ = [some (.ref a), some (.ref d), some (.ref p), some (.ref r), some (.ref o), some (.ref h), some (.int (n : Int)), some (.ref lt), none, none, none, none] ∧ S17 T H' d p pt pr pb r o h ys ts l bs, ?_, ?_⟩
    · refine ⟨_, rfl, lz (by show 2 ≤ 1000000; decide), fun p1 n1 => ?_⟩
      have s1 := sm (o := .lst [V.str "word q", V.str "letter q ------"]) n1
      have st1 := st8.same s1
      refine ⟨r, p1, _, _, rfl, rfl, st1.er, upd_same, lz (by rw [tx_len]; show _ + 2 ≤ 1000000; omega), fun p2 n2 => ?_⟩
      have s2 := sm (o := .lst (tx (sheetWs ts l bs) ++ [V.str "word q", V.str "letter q ------"])) n2
      have st2 := st1.same s2
      refine ⟨_, rfl, r, _, rfl, .inl (SqL.of st2.er), _, _, rfl, rfl, p2, sheetWs ts l bs ++ qW, "text", _, rfl, ?_, ?_, ?_, st2.tb, .inl ⟨rfl, _, ?_, ref_after ok⟩, fun H9 x9 tb9 => ⟨_, rfl, iteQ rfl ?_⟩⟩
      · rw [tx_app, ← q_tx]
        exact SqL.of upd_same
      · unfold qW
        simp
      · refine Low.app RL (low_dec (by decide) (by decide +kernel)) ?_
        show _ + 2 ≤ 60
        omega
      · exact congrArg V.int (by rw [tx_len]; omega)
      · exact ⟨rfl, st2.ext x9 tb9⟩
    rintro σ H9 ⟨rfl, st9⟩
    clear st8
    -- six cases
    refine ⟨lz (by show 1 ≤ 1000000; decide), fun p1 n1 => ?_⟩
    have s1 := sm (o := .lst [V.str "taps 1 2"]) n1
    have st1 := st9.same s1
    refine ⟨_, rfl, _, rfl, r, _, rfl, SqL.of st1.er, fun p2 n2 => ?_⟩
    rw [cut_1 R1]
    have s2 := sm (o := .lst (tx ((sheetWs ts l bs).drop 1))) n2
    refine ⟨p1, p2, _, _, rfl, rfl, s2 _ _ upd_same, upd_same, lz (by simp only [tx_len, List.length_drop]; show 1 + _ ≤ 1000000; omega), fun p3 n3 => ?_⟩
    have s3 := sm (o := .lst ([V.str "taps 1 2"] ++ tx ((sheetWs ts l bs).drop 1))) n3
    refine ⟨lz (by show 1 ≤ 1000000; decide), fun p4 n4 => ?_⟩
    have s4 := sm (o := .lst [V.str "word 1"]) n4
    refine ⟨p3, p4, _, _, rfl, rfl, s4 _ _ upd_same, upd_same, lz (by simp only [List.length_append, tx_len, List.length_drop]; show 1 + _ + 1 ≤ 1000000; omega), fun p5 n5 => ?_⟩
    have s5 := sm (o := .lst ([V.str "taps 1 2"] ++ tx ((sheetWs ts l bs).drop 1) ++ [V.str "word 1"])) n5
    refine ⟨lz (by show 2 ≤ 1000000; decide), fun p6 n6 => ?_⟩
    have s6 := sm (o := .tup [V.int 0, V.str "many"]) n6
    refine ⟨lz (by show 3 ≤ 1000000; decide), fun ce n7 => ?_⟩
    have s7 := sm (o := .tup [V.ref p5, V.str "taps", V.ref p6]) n7
    have st5 := st1.same (s2.trans (s3.trans s4))
    have A1 : CaseA _ d ce := ⟨p5, p6, _, _, _, 0, upd_same, by rw [tx_app, tx_app, ← head12_tx, ← word1_tx]; exact (s6.trans s7) _ _ upd_same, s7 _ _ upd_same, case_even ok, st5.dd.ne n5, (st5.same (s5.trans s6)).dd.ne n7, (st5.same s5).dd.ne n6⟩
    have st7 := st5.same (s5.trans (s6.trans s7))
    refine ⟨_, rfl, _, rfl, _, _, _, _, rfl, rfl, SqT.of st7.ep, aI (by decide) rfl, pr, _, rfl, .inl (SqL.of st7.epr), _, _, rfl, rfl, _, rfl, r, _, rfl, SqL.of st7.er, fun q1 m1 => ?_⟩
    have hc : cutV (tx (sheetWs ts l bs)) none (some (1 + (ys.length : Int))) = tx ((sheetWs ts l bs).take (1 + l.length)) := by
      rw [st7.ly, show (1 : Int) + (l.length : Int) = ((1 + l.length : Nat) : Int) by omega]
      exact cut_t (by omega)
    rw [hc]
    have r1 := sm (o := .lst (tx ((sheetWs ts l bs).take (1 + l.length)))) m1
    refine ⟨lz (by show 2 ≤ 1000000; decide), fun q2 m2 => ?_⟩
    have r2 := sm (o := .lst [V.str "letter A .", V.str "word 1"]) m2
    refine ⟨q1, q2, _, _, rfl, rfl, r2 _ _ upd_same, upd_same, lz (by simp only [tx_len, List.length_take]; show _ + 2 ≤ 1000000; omega), fun q3 m3 => ?_⟩
    have r3 := sm (o := .lst (tx ((sheetWs ts l bs).take (1 + l.length)) ++ [V.str "letter A .", V.str "word 1"])) m3
    have st8 := st7.same (r1.trans (r2.trans r3))
    refine ⟨_, rfl, _, _, _, _, rfl, rfl, SqT.of st8.ep, aI (by decide) rfl, pr, _, rfl, .inl (SqL.of st8.epr), lz (by show 2 ≤ 1000000; decide), fun q4 m4 => ?_⟩
    have r4 := sm (o := .tup [V.int (ys.length : Int), V.str "letter"]) m4
    refine ⟨lz (by show 3 ≤ 1000000; decide), fun cm m5 => ?_⟩
    have r5 := sm (o := .tup [V.ref q3, V.str "table", V.ref q4]) m5
    have A1 := A1.same (r1.trans (r2.trans (r3.trans (r4.trans r5))))
    have A2 : CaseA _ d cm := ⟨q3, q4, _, _, _, l.length, upd_same, by rw [tx_app, ← letA_tx]; exact (r4.trans r5) _ _ upd_same, (r5 q4 (.tup [V.int (ys.length : Int), V.str "letter"]) upd_same).trans (by rw [st8.ly]), case_letter ok, (st7.same (r1.trans r2)).dd.ne m3, (st8.same r4).dd.ne m5, st8.dd.ne m4⟩
    have st10 := st8.same (r4.trans r5)
    clear st1 st5 st7 st8 r1 r2 r3 r4 r5 s1 s2 s3 s4 s5 s6 s7 n1 n2 n3 n4 n5 n6 n7 m1 m2 m3 m4 m5 hc
    refine ⟨fun σ H' => ∃ (L : Addr) (vs : List V), σ = [some (.ref a), some (.ref d), some (.ref p), some (.ref r), some (.ref o), some (.ref h), some (.int (n : Int)), some (.ref lt), some (.ref ce), some (.ref cm), some (.ref L), none] ∧ S17 T H' d p pt pr pb r o h ys ts l bs ∧ SomeC T H' d L vs 3, ?_, ?_⟩
    · refine ⟨_, rfl, _, rfl, _, rfl, lz (by show 1 ≤ 1000000; decide), fun p1 n1 => ?_⟩
      have s1 := sm (o := .lst [V.str "word 1"]) n1
      have st1 := st10.same s1
      refine ⟨r, p1, _, _, rfl, rfl, st1.er, upd_same, lz (by simp only [tx_len]; show _ + 1 ≤ 1000000; omega), fun p2 n2 => ?_⟩
      have s2 := sm (o := .lst (tx (sheetWs ts l bs) ++ [V.str "word 1"])) n2
      have st2 := st1.same s2
      refine ⟨_, rfl, _, _, _, _, rfl, rfl, SqT.of st2.ep, aI (by decide) rfl, pb, _, rfl, .inl (SqL.of st2.epb), lz (by show 2 ≤ 1000000; decide), fun p3 n3 => ?_⟩
      rw [List.length_map]
      have s3 := sm (o := .tup [V.int (bs.length : Int), V.str "word"]) n3
      refine ⟨lz (by show 3 ≤ 1000000; decide), fun ct n4 => ?_⟩
      have s4 := sm (o := .tup [V.ref p2, V.str "table", V.ref p3]) n4
      have A3 : CaseA _ d ct := ⟨p2, p3, _, _, _, bs.length, upd_same, by rw [tx_app, ← word1_tx]; exact (s3.trans s4) _ _ upd_same, s4 _ _ upd_same, case_word ok, st1.dd.ne n2, (st2.same s3).dd.ne n4, st2.dd.ne n3⟩
      have st4 := st2.same (s3.trans s4)
      have s14 := s1.trans (s2.trans (s3.trans s4))
      have B1 := A1.same s14
      have B2 := A2.same s14
      refine ⟨lz (by show 3 ≤ 1000000; decide), fun L n5 => ?_⟩
      have s5 := sm (o := .lst [V.ref ce, V.ref cm, V.ref ct]) n5
      have st5 := st4.same s5
      refine ⟨L, _, rfl, st5, st5.dd, st5.tb, upd_same, rfl, fun v mv => ?_, st4.dd.ne n5⟩
      simp only [List.mem_cons, List.not_mem_nil, or_false] at mv
      rcases mv with rfl | rfl | rfl
      · exact B1.toV n5
      · exact B2.toV n5
      · exact A3.toV n5
    rintro σ H10 ⟨L, vs, rfl, st, W⟩
    clear A1 A2 st10 st9
    -- three more
    refine ⟨_, rfl, ty_list W.eL, _, rfl, _, rfl, r, _, rfl, SqL.of st.er, fun p1 n1 => ?_⟩
    rw [cut_t1 R1]
    have s1 := sm (o := .lst (tx ((sheetWs ts l bs).take 1))) n1
    refine ⟨lz (by show 1 ≤ 1000000; decide), fun p2 n2 => ?_⟩
    have s2 := sm (o := .lst [V.str "letter a x"]) n2
    refine ⟨p1, p2, _, _, rfl, rfl, s2 _ _ upd_same, upd_same, lz (by simp only [tx_len, List.length_take]; show _ + 1 ≤ 1000000; omega), fun p3 n3 => ?_⟩
    have s3 := sm (o := .lst (tx ((sheetWs ts l bs).take 1) ++ [V.str "letter a x"])) n3
    refine ⟨lz (by show 2 ≤ 1000000; decide), fun p4 n4 => ?_⟩
    have s4 := sm (o := .tup [V.int 0, V.str "marks"]) n4
    refine ⟨lz (by show 3 ≤ 1000000; decide), fun c4 n5 => ?_⟩
    have s5 := sm (o := .tup [V.ref p3, V.str "table", V.ref p4]) n5
    have W2 := W.same (s1.trans s2)
    have W3 := W2.same s3
    have W4 := W3.same s4
    have W5 := W4.same s5
    have V4 : CaseV _ d L (.ref c4) := ⟨c4, p3, p4, _, _, _, 0, rfl, upd_same, by rw [tx_app, ← ax_tx]; exact (s4.trans s5) _ _ upd_same, s5 _ _ upd_same, case_marks ok, ⟨W2.dd.ne n3, W4.dd.ne n5, W3.dd.ne n4⟩, (ne_of_none W2.eL n3).symm, (ne_of_none W4.eL n5).symm, (ne_of_none W3.eL n4).symm⟩
    refine ⟨L, _, _, rfl, rfl, W5.eL, lz' (by rw [W5.len]; decide), ?_⟩
    have X4 := W5.add V4
    generalize vs ++ [V.ref c4] = vs4 at X4
    clear V4 W5 W4 W3 W2 s1 s2 s3 s4 s5 n1 n2 n3 n4 n5 W
    refine ⟨_, rfl, ty_list X4.eL, lz (by show 4 ≤ 1000000; decide), fun p1 n1 => ?_⟩
    have s1 := sm (o := .lst [V.str "taps 1", V.str "word a", V.str "word b", V.str "word a"]) n1
    refine ⟨lz (by show 2 ≤ 1000000; decide), fun p2 n2 => ?_⟩
    have s2 := sm (o := .tup [V.int 2, V.str "twice"]) n2
    refine ⟨lz (by show 3 ≤ 1000000; decide), fun c5 n3 => ?_⟩
    have s3 := sm (o := .tup [V.ref p1, V.str "table", V.ref p2]) n3
    have W1 := X4.same s1
    have W2 := W1.same s2
    have W3 := W2.same s3
    have V5 : CaseV _ d L (.ref c5) := ⟨c5, p1, p2, twiceW, _, _, 2, rfl, upd_same, by rw [← twice_tx]; exact (s2.trans s3) _ _ upd_same, s3 _ _ upd_same, case_twice, ⟨X4.dd.ne n1, W2.dd.ne n3, W1.dd.ne n2⟩, (ne_of_none X4.eL n1).symm, (ne_of_none W2.eL n3).symm, (ne_of_none W1.eL n2).symm⟩
    refine ⟨L, _, _, rfl, rfl, W3.eL, lz' (by rw [W3.len]; decide), ?_⟩
    have X5 := W3.add V5
    generalize vs4 ++ [V.ref c5] = vs5 at X5
    clear V5 W3 W2 W1 s1 s2 s3 n1 n2 n3 X4 st
    refine ⟨fun σ H' => ∃ vs : List V, σ = [some (.ref a), some (.ref d), some (.ref p), some (.ref r), some (.ref o), some (.ref h), some (.int (n : Int)), some (.ref lt), some (.ref ce), some (.ref cm), some (.ref L), none] ∧ SomeC T H' d L vs 6, ?_, ?_⟩
    · refine ⟨_, rfl, ty_list X5.eL, lz (by show 2 ≤ 1000000; decide), fun p1 n1 => ?_⟩
      have s1 := sm (o := .lst [V.str "taps 1 2", V.str "letter a x"]) n1
      refine ⟨lz (by show 2 ≤ 1000000; decide), fun p2 n2 => ?_⟩
      have s2 := sm (o := .tup [V.int 0, V.str "many"]) n2
      refine ⟨lz (by show 3 ≤ 1000000; decide), fun c6 n3 => ?_⟩
      have s3 := sm (o := .tup [V.ref p1, V.str "taps", V.ref p2]) n3
      have W1 := X5.same s1
      have W2 := W1.same s2
      have W3 := W2.same s3
      have V6 : CaseV _ d L (.ref c6) := ⟨c6, p1, p2, bothW, _, _, 0, rfl, upd_same, by rw [← both_tx]; exact (s2.trans s3) _ _ upd_same, s3 _ _ upd_same, case_both, ⟨X5.dd.ne n1, W2.dd.ne n3, W1.dd.ne n2⟩, (ne_of_none X5.eL n1).symm, (ne_of_none W2.eL n3).symm, (ne_of_none W1.eL n2).symm⟩
      exact ⟨L, _, _, rfl, rfl, W3.eL, lz' (by rw [W3.len]; decide), _, rfl, W3.add V6⟩
    rintro σ H11 ⟨vs6, rfl, W⟩
    clear X5 vs5 vs4 vs
    -- one of them
    refine ⟨_, rfl, _, rfl, d, _, rfl, W.dd, by decide, by decide, fun k H12 k0 k1 d12 kp => ?_⟩
    have W := W.kp kp d12
    have ev := List.getElem?_eq_getElem (show k.toNat < vs6.length by rw [W.len]; omega)
    obtain ⟨c, a0, p0, R, word, why, i, hv, ec, ea, ep0, cok, _⟩ := W.all _ (List.getElem_mem (show k.toNat < vs6.length by rw [W.len]; omega))
    rw [hv] at ev
    refine ⟨_, _, _, _, rfl, rfl, SqL.of W.eL, aI k0 ev, ?_⟩
    have few := cok.few
    refine ⟨_, rfl, _, _, _, _, rfl, rfl, SqT.of ec, aI (by decide) rfl, _, rfl, _, _, _, _, rfl, rfl, SqT.of ec, aI (by decide) rfl, _, rfl, _, _, _, _, rfl, rfl, SqT.of ec, aI (by decide) rfl,
      a0, R, word, _, rfl, SqL.of ea, cok.ne, cok.low, W.tb, cok.refd ep0, fun H13 x13 tb13 => ⟨_, rfl, iteT ?_⟩⟩
    have ec13 := x13 _ _ ec fun ps z => nomatch z
    have ea13 := x13 _ _ ea fun ps z => nomatch z
    refine ⟨_, rfl, _, _, _, _, rfl, rfl, SqT.of ec13, aI (by decide) rfl, lz (by show 1 ≤ 1000000; decide), fun p1 n1 => ?_⟩
    have s1 := sm (o := .lst [V.str "x"]) n1
    refine ⟨a0, p1, _, _, rfl, rfl, s1 _ _ ea13, upd_same, lz (by simp only [tx_len]; show _ + 1 ≤ 1000000; omega), fun p2 n2 => ?_⟩
    have s2 := sm (o := .lst (tx R ++ [V.str "x"])) n2
    have s12 := s1.trans s2
    refine ⟨_, rfl, _, _, _, _, rfl, rfl, SqT.of (s12 _ _ ec13), aI (by decide) rfl, a0, _, rfl, .inl (SqL.of (s12 _ _ ea13)), p2, R ++ xW, "text", _, rfl, ?_, ?_, ?_, tb_same tb13 s12, .inl ⟨rfl, R.length, ?_, ref_x cok.ok few cok.ne⟩, fun H14 x14 tb14 => q H14 tb14⟩
    · rw [tx_app, ← x_tx]
      exact SqL.of upd_same
    · unfold xW
      simp
    · refine Low.app cok.low (low_dec (by decide) (by decide +kernel)) ?_
      show _ + 1 ≤ 60
      omega
    · rw [tx_len]
end
end KT
namespace KT
open PySem PySem.Spec PyProof.Rows L2
/-! ### the head -/
def fnL : List He.DefD := [dfn "_law_dice" s_law_dice, dfn "_law_off" s_law_off, dfn "_law_kinds" s_law_kinds, dfn "_law_reading" s_law_reading, dfn "_law_times" s_law_times, dfn "_law_alike" s_law_alike, dfn "is_small" sis_small, dfn "is_marks" sis_marks, dfn "is_number" sis_number, dfn "is_first_row" sis_first_row, dfn "is_next_row" sis_next_row, dfn "check_times" scheck_times, dfn "check_table" scheck_table, dfn "check_book" scheck_book, dfn "check_sheet" scheck_sheet, dfn "read" sread, dfn "_law_is" s_law_is, dfn "_law_refused" s_law_refused, dfn "_law_table" s_law_table, dfn "_law_sheet" s_law_sheet, dfn "_law_lines" s_law_lines, dfn "law" slaw, dfm "Taps" "__init__" "Taps.__init__" sTaps___init__, dfm "Table" "__init__" "Table.__init__" sTable___init__, dfm "BadTaps" "__init__" "BadTaps.__init__" sBadTaps___init__, dfm "BadTable" "__init__" "BadTable.__init__" sBadTable___init__, dfm "BadText" "__init__" "BadText.__init__" sBadText___init__]
def faL : List He.Fa := [.glo "_law_dice", .glo "_law_off", .glo "_law_kinds", .glo "_law_reading", .glo "_law_times", .glo "_law_alike", .glo "is_small", .glo "is_marks", .glo "is_number", .glo "is_first_row", .glo "is_next_row", .glo "check_times", .glo "check_table", .glo "check_book", .glo "check_sheet", .glo "read", .glo "_law_is", .glo "_law_refused", .glo "_law_table", .glo "_law_sheet", .glo "_law_lines", .glo "law", .glo "Taps", .cls "Taps", .noat "Taps" "_times", .mkr "Taps", .glo "Table", .cls "Table", .noat "Table" "_rows", .mkr "Table", .free "ValueError", .free "abs", .free "all", .free "bool", .free "dict", .free "enumerate", .free "int", .free "isinstance", .free "len", .free "list", .free "max", .free "min", .free "range", .free "set", .free "str", .free "tuple", .int "MOST_TIMES" 25, .int "SHORTEST" 1, .int "LONGEST" 9999, .int "MOST_MARKS" 6, .int "MOST_FIGURES" 4, .str "SMALL_LETTERS" letters26, .str "FIGURES" figures10, .glo "NUMBER_OF", .glo "BadTaps", .glo "BadReading", .glo "BadWidth", .glo "BadTable", .glo "BadWords", .glo "BadText", .glo "TapError", .meth "BadTaps" "__init__", .noat "BadTaps" "at", .noat "BadTaps" "why", .exm "BadTaps" "TapError" true, .meth "BadTable" "__init__", .noat "BadTable" "at", .noat "BadTable" "why", .exm "BadTable" "TapError" true, .meth "BadText" "__init__", .noat "BadText" "row", .exm "BadText" "TapError" true]
def TL (K : PySem.W.Frag) : List Addr := [(He.cT K ("is_small", none)).2, (He.cT K ("is_marks", none)).2, (He.cT K ("is_number", none)).2, (He.cT K ("is_first_row", none)).2]
def exL (K : PySem.W.Frag) : Bool := inhB K (He.ga K "TapError") && (oexB K (He.ga K "BadTaps") && (excB K (He.ga K "BadTaps") && (L2.xfB K (He.ga K "BadTaps") && (kitB K (He.ga K "BadTaps") (.type "ValueError") true && (kitB K (He.ga K "BadTaps") (.ref (He.ga K "BadTaps")) (decide (("taps" : Str) = ("taps" : Str))) && (kitB K (He.ga K "BadTaps") (.ref (He.ga K "BadReading")) (decide (("taps" : Str) = ("reading" : Str))) && (kitB K (He.ga K "BadTaps") (.ref (He.ga K "BadWidth")) (decide (("taps" : Str) = ("width" : Str))) && (kitB K (He.ga K "BadTaps") (.ref (He.ga K "BadTable")) (decide (("taps" : Str) = ("table" : Str))) && (kitB K (He.ga K "BadTaps") (.ref (He.ga K "BadWords")) (decide (("taps" : Str) = ("words" : Str))) && (kitB K (He.ga K "BadTaps") (.ref (He.ga K "BadText")) (decide (("taps" : Str) = ("text" : Str))) && (oexB K (He.ga K "BadTable") && (excB K (He.ga K "BadTable") && (L2.xfB K (He.ga K "BadTable") && (kitB K (He.ga K "BadTable") (.type "ValueError") true && (kitB K (He.ga K "BadTable") (.ref (He.ga K "BadTaps")) (decide (("table" : Str) = ("taps" : Str))) && (kitB K (He.ga K "BadTable") (.ref (He.ga K "BadReading")) (decide (("table" : Str) = ("reading" : Str))) && (kitB K (He.ga K "BadTable") (.ref (He.ga K "BadWidth")) (decide (("table" : Str) = ("width" : Str))) && (kitB K (He.ga K "BadTable") (.ref (He.ga K "BadTable")) (decide (("table" : Str) = ("table" : Str))) && (kitB K (He.ga K "BadTable") (.ref (He.ga K "BadWords")) (decide (("table" : Str) = ("words" : Str))) && (kitB K (He.ga K "BadTable") (.ref (He.ga K "BadText")) (decide (("table" : Str) = ("text" : Str))) && (oexB K (He.ga K "BadText") && (excB K (He.ga K "BadText") && (L2.xfB K (He.ga K "BadText") && (kitB K (He.ga K "BadText") (.type "ValueError") true && (kitB K (He.ga K "BadText") (.ref (He.ga K "BadTaps")) (decide (("text" : Str) = ("taps" : Str))) && (kitB K (He.ga K "BadText") (.ref (He.ga K "BadReading")) (decide (("text" : Str) = ("reading" : Str))) && (kitB K (He.ga K "BadText") (.ref (He.ga K "BadWidth")) (decide (("text" : Str) = ("width" : Str))) && (kitB K (He.ga K "BadText") (.ref (He.ga K "BadTable")) (decide (("text" : Str) = ("table" : Str))) && (kitB K (He.ga K "BadText") (.ref (He.ga K "BadWords")) (decide (("text" : Str) = ("words" : Str))) && (kitB K (He.ga K "BadText") (.ref (He.ga K "BadText")) (decide (("text" : Str) = ("text" : Str)))))))))))))))))))))))))))))))))
def tsL : List He.Tab := [(fun K => He.ga K "NUMBER_OF", dotDash)]
def tfL : List He.Defn := [("is_small", none), ("is_marks", none), ("is_number", none), ("is_first_row", none)]
def csL (K : PySem.W.Frag) : List (Addr × Addr) := tfL.map (He.cT K)
theorem tbT {K : PySem.W.Frag} {H : Hp} (h : ∀ p ∈ csL K, H p.2 = some (.tbl #[])) : Tb (TL K) H := tb_empty (cs := [He.cT K ("is_small", none), He.cT K ("is_marks", none), He.cT K ("is_number", none), He.cT K ("is_first_row", none)]) fun p hp => h p (List.mem_append_left [] hp)
abbrev RL : PySem.W.OpenRow := PySem.W.OpenLaw.row PySem.Challenge.rw_keyedtime_k17_texts_refused
abbrev hkL : PySem.W.Hook := hookXS 6 faL fnL tsL tfL exL
def obL (s : PySem.W.SharedT) : He.AlX := obsXS 6 faL fnL tsL tfL exL (HandSHeadRun.getT s)
theorem obL_eq (s : PySem.W.SharedT) : obL s = hkL.obs s.abs := obsXS_eq (HandSHeadRun.getT_eq s)
def looseL : List Str := ("TapError" : Str) :: ("BadTaps" : Str) :: ("BadReading" : Str) :: ("BadWidth" : Str) :: ("BadTable" : Str) :: ("BadWords" : Str) :: ("BadText" : Str) :: ("MOST_TIMES" : Str) :: ("SHORTEST" : Str) :: ("LONGEST" : Str) :: ("check_times" : Str) :: ("Taps" : Str) :: ("SMALL_LETTERS" : Str) :: ("MOST_MARKS" : Str) :: ("NUMBER_OF" : Str) :: ("is_small" : Str) :: ("is_marks" : Str) :: ("check_table" : Str) :: ("Table" : Str) :: ("check_book" : Str) :: ("FIGURES" : Str) :: ("MOST_FIGURES" : Str) :: ("is_number" : Str) :: ("is_first_row" : Str) :: ("is_next_row" : Str) :: ("check_sheet" : Str) :: ("read" : Str) :: ("_law_dice" : Str) :: ("_law_off" : Str) :: ("_law_alike" : Str) :: ("_law_kinds" : Str) :: ("_law_reading" : Str) :: ("_law_times" : Str) :: ("_law_is" : Str) :: ("_law_table" : Str) :: ("_law_lines" : Str) :: ("_law_sheet" : Str) :: ("_law_refused" : Str) :: []
theorem runL_false (w : World) : HandSHeadRun.RunEqI RL (PySem.W.view RL.prog [44]) hkL obL 4000 looseL (w.withFollow "special-get-raises" false) := by
  unfold HandSHeadRun.RunEqI
  kernel_rfl
theorem runL_true (w : World) : HandSHeadRun.RunEqI RL (PySem.W.view RL.prog [44]) hkL obL 4000 looseL (w.withFollow "special-get-raises" true) := by
  unfold HandSHeadRun.RunEqI
  kernel_rfl
theorem runL (w : World) : HandSHeadRun.RunEqI RL (PySem.W.view RL.prog [44]) hkL obL 4000 looseL w := PySem.W.byRow2 "special-get-raises" (P := fun w => HandSHeadRun.RunEqI RL (PySem.W.view RL.prog [44]) hkL obL 4000 looseL w) runL_false runL_true w
theorem factsL {P : Program} {w : World} {K : PySem.W.Frag} {h : Heap} {mg : Str → Option Value} {f : Addr} (X : K.In h) (G : h.Ns mainGlobals mg) (hfa : mg ("law" : Str) = some (.ref f)) (d : He.SaysX faL fnL tsL tfL exL w h K) :
    ∃ fd : FuncData, (∀ (s : Shared) (v : Value), BindsTo s fd ⟨[v], []⟩ [("_law_script", v)]) ∧ ∀ base : Heap, K.In base → base.Ns mainGlobals mg → (∀ p ∈ csL K, LamX.TabB base mg p.1 p.2) → FnOk P w K mg base CX0 10 f fd ["_law_script"] (spLawT K (TL K)) := by
  have c : He.SaysD faL fnL K := d.t.d
  have z := d.more
  unfold exL at z
  simp only [Bool.and_eq_true] at z
  obtain ⟨zinh, zoexT, zexcT, zxfT, zkvT, zkT1, zkT2, zkT3, zkT4, zkT5, zkT6, zoexB, zexcB, zxfB, zkvB, zkB1, zkB2, zkB3, zkB4, zkB5, zkB6, zoexX, zexcX, zxfX, zkvX, zkX1, zkX2, zkX3, zkX4, zkX5, zkX6⟩ := z
  have dicE : [He.dicW K (He.ga K "NUMBER_OF")] = [some (He.keysIn w.params dotDash)] := congrArg Prod.snd d.t
  have D_NUMBER_OF : KTexts K w (He.ga K "NUMBER_OF") dotDash := KTexts.of (List.cons.inj dicE).1
  have m_ValueError : mg "ValueError" = none := He.free_ok X G (c.fact 30 (f := .free "ValueError") rfl)
  have m_abs : mg "abs" = none := He.free_ok X G (c.fact 31 (f := .free "abs") rfl)
  have m_all : mg "all" = none := He.free_ok X G (c.fact 32 (f := .free "all") rfl)
  have m_bool : mg "bool" = none := He.free_ok X G (c.fact 33 (f := .free "bool") rfl)
  have m_dict : mg "dict" = none := He.free_ok X G (c.fact 34 (f := .free "dict") rfl)
  have m_enumerate : mg "enumerate" = none := He.free_ok X G (c.fact 35 (f := .free "enumerate") rfl)
  have m_int : mg "int" = none := He.free_ok X G (c.fact 36 (f := .free "int") rfl)
  have m_isinstance : mg "isinstance" = none := He.free_ok X G (c.fact 37 (f := .free "isinstance") rfl)
  have m_len : mg "len" = none := He.free_ok X G (c.fact 38 (f := .free "len") rfl)
  have m_list : mg "list" = none := He.free_ok X G (c.fact 39 (f := .free "list") rfl)
  have m_max : mg "max" = none := He.free_ok X G (c.fact 40 (f := .free "max") rfl)
  have m_min : mg "min" = none := He.free_ok X G (c.fact 41 (f := .free "min") rfl)
  have m_range : mg "range" = none := He.free_ok X G (c.fact 42 (f := .free "range") rfl)
  have m_set : mg "set" = none := He.free_ok X G (c.fact 43 (f := .free "set") rfl)
  have m_str : mg "str" = none := He.free_ok X G (c.fact 44 (f := .free "str") rfl)
  have m_tuple : mg "tuple" = none := He.free_ok X G (c.fact 45 (f := .free "tuple") rfl)
  have c_MOST_TIMES : ∃ t, mg "MOST_TIMES" = some (.int 25 t) := He.int_ok X G (c.fact 46 (f := .int "MOST_TIMES" 25) rfl)
  have c_SHORTEST : ∃ t, mg "SHORTEST" = some (.int 1 t) := He.int_ok X G (c.fact 47 (f := .int "SHORTEST" 1) rfl)
  have c_LONGEST : ∃ t, mg "LONGEST" = some (.int 9999 t) := He.int_ok X G (c.fact 48 (f := .int "LONGEST" 9999) rfl)
  have c_MOST_MARKS : ∃ t, mg "MOST_MARKS" = some (.int 6 t) := He.int_ok X G (c.fact 49 (f := .int "MOST_MARKS" 6) rfl)
  have c_MOST_FIGURES : ∃ t, mg "MOST_FIGURES" = some (.int 4 t) := He.int_ok X G (c.fact 50 (f := .int "MOST_FIGURES" 4) rfl)
  obtain ⟨tkSMALL_LETTERS, c_SMALL_LETTERS⟩ := He.str_ok X G (x := "SMALL_LETTERS") (z := letters26) (c.fact 51 (f := .str "SMALL_LETTERS" letters26) rfl)
  obtain ⟨tkFIGURES, c_FIGURES⟩ := He.str_ok X G (x := "FIGURES") (z := figures10) (c.fact 52 (f := .str "FIGURES" figures10) rfl)
  have c_NUMBER_OF : mg "NUMBER_OF" = some (.ref (He.ga K "NUMBER_OF")) := He.glo_ok X G (c.fact 53 (f := .glo "NUMBER_OF") rfl)
  have c_BadTaps : mg "BadTaps" = some (.ref (He.ga K "BadTaps")) := He.glo_ok X G (c.fact 54 (f := .glo "BadTaps") rfl)
  have c_BadReading : mg "BadReading" = some (.ref (He.ga K "BadReading")) := He.glo_ok X G (c.fact 55 (f := .glo "BadReading") rfl)
  have c_BadWidth : mg "BadWidth" = some (.ref (He.ga K "BadWidth")) := He.glo_ok X G (c.fact 56 (f := .glo "BadWidth") rfl)
  have c_BadTable : mg "BadTable" = some (.ref (He.ga K "BadTable")) := He.glo_ok X G (c.fact 57 (f := .glo "BadTable") rfl)
  have c_BadWords : mg "BadWords" = some (.ref (He.ga K "BadWords")) := He.glo_ok X G (c.fact 58 (f := .glo "BadWords") rfl)
  have c_BadText : mg "BadText" = some (.ref (He.ga K "BadText")) := He.glo_ok X G (c.fact 59 (f := .glo "BadText") rfl)
  have c_TapError : mg "TapError" = some (.ref (He.ga K "TapError")) := He.glo_ok X G (c.fact 60 (f := .glo "TapError") rfl)
  have inhT := inhB_ok zinh
  have oexT := oexB_ok zoexT
  have hCT := excB_ok zexcT
  have xfT := L2.xfB_ok zxfT
  have exmT := He.exm_ok (c.fact 64 (f := .exm "BadTaps" "TapError" true) rfl)
  have mBT := He.meth_ok (c.fact 61 (f := .meth "BadTaps" "__init__") rfl)
  have nT_at : PySem.W.findIn K (.ref (He.ga K "BadTaps")) "at" = some none := He.noat_ok (c.fact 62 (f := .noat "BadTaps" "at") rfl)
  have nT_why : PySem.W.findIn K (.ref (He.ga K "BadTaps")) "why" = some none := He.noat_ok (c.fact 63 (f := .noat "BadTaps" "why") rfl)
  have oexB := oexB_ok zoexB
  have hCB := excB_ok zexcB
  have xfBB := L2.xfB_ok zxfB
  have exmB := He.exm_ok (c.fact 68 (f := .exm "BadTable" "TapError" true) rfl)
  have mBB := He.meth_ok (c.fact 65 (f := .meth "BadTable" "__init__") rfl)
  have nB_at : PySem.W.findIn K (.ref (He.ga K "BadTable")) "at" = some none := He.noat_ok (c.fact 66 (f := .noat "BadTable" "at") rfl)
  have nB_why : PySem.W.findIn K (.ref (He.ga K "BadTable")) "why" = some none := He.noat_ok (c.fact 67 (f := .noat "BadTable" "why") rfl)
  have oexX := oexB_ok zoexX
  have hCX := excB_ok zexcX
  have xfX := L2.xfB_ok zxfX
  have exmX := He.exm_ok (c.fact 71 (f := .exm "BadText" "TapError" true) rfl)
  have mBX := He.meth_ok (c.fact 69 (f := .meth "BadText" "__init__") rfl)
  have nX_row : PySem.W.findIn K (.ref (He.ga K "BadText")) "row" = some none := He.noat_ok (c.fact 70 (f := .noat "BadText" "row") rfl)
  have n_row := nX_row
  obtain ⟨fd, F⟩ := c.def_ 21 (d := dfn "law" slaw) rfl
  have e := hfa.symm.trans (He.glo_ok X G (c.fact 21 (f := .glo "law") rfl))
  cases e
  have b := FunD.bindsA (ps := ["_law_script"]) F fun _ _ _ _ _ _ us hl => match us, hl with | [_], _ => rfl
  refine ⟨fd, fun s v => b s [v] rfl, fun base _ _ tbs => ?_⟩
  have TBis_small := tabB_to (tbs (He.cT K ("is_small", none)) (List.mem_map.mpr ⟨("is_small", none), by simp [tfL], rfl⟩))
  have PTis_small : (He.cT K ("is_small", none)).2 ∈ TL K := by simp [TL]
  have CAis_small : ∀ f, mg "is_small" = some (.ref f) → CodeAt K f (He.cT K ("is_small", none)).1 := fun f hf => by
    obtain ⟨fd0, F0⟩ := c.def_ 6 (d := dfn "is_small" sis_small) rfl
    have e0 := hf.symm.trans (He.glo_ok X G (c.fact 6 (f := .glo "is_small") rfl))
    cases e0
    exact codeAt_of (p := ("is_small", none)) F0
  have TBis_marks := tabB_to (tbs (He.cT K ("is_marks", none)) (List.mem_map.mpr ⟨("is_marks", none), by simp [tfL], rfl⟩))
  have PTis_marks : (He.cT K ("is_marks", none)).2 ∈ TL K := by simp [TL]
  have CAis_marks : ∀ f, mg "is_marks" = some (.ref f) → CodeAt K f (He.cT K ("is_marks", none)).1 := fun f hf => by
    obtain ⟨fd0, F0⟩ := c.def_ 7 (d := dfn "is_marks" sis_marks) rfl
    have e0 := hf.symm.trans (He.glo_ok X G (c.fact 7 (f := .glo "is_marks") rfl))
    cases e0
    exact codeAt_of (p := ("is_marks", none)) F0
  have TBis_number := tabB_to (tbs (He.cT K ("is_number", none)) (List.mem_map.mpr ⟨("is_number", none), by simp [tfL], rfl⟩))
  have PTis_number : (He.cT K ("is_number", none)).2 ∈ TL K := by simp [TL]
  have CAis_number : ∀ f, mg "is_number" = some (.ref f) → CodeAt K f (He.cT K ("is_number", none)).1 := fun f hf => by
    obtain ⟨fd0, F0⟩ := c.def_ 8 (d := dfn "is_number" sis_number) rfl
    have e0 := hf.symm.trans (He.glo_ok X G (c.fact 8 (f := .glo "is_number") rfl))
    cases e0
    exact codeAt_of (p := ("is_number", none)) F0
  have TBis_first_row := tabB_to (tbs (He.cT K ("is_first_row", none)) (List.mem_map.mpr ⟨("is_first_row", none), by simp [tfL], rfl⟩))
  have PTis_first_row : (He.cT K ("is_first_row", none)).2 ∈ TL K := by simp [TL]
  have CAis_first_row : ∀ f, mg "is_first_row" = some (.ref f) → CodeAt K f (He.cT K ("is_first_row", none)).1 := fun f hf => by
    obtain ⟨fd0, F0⟩ := c.def_ 9 (d := dfn "is_first_row" sis_first_row) rfl
    have e0 := hf.symm.trans (He.glo_ok X G (c.fact 9 (f := .glo "is_first_row") rfl))
    cases e0
    exact codeAt_of (p := ("is_first_row", none)) F0
  have G_law_dice := ok_law_dice (P := P) (w := w) (base := base) (src_of X G c 0 0 rfl rfl) m_abs
  have G_law_off := ok_law_off (P := P) (w := w) (base := base) (src_of X G c 1 1 rfl rfl) m_len
  have G_law_kinds := ok_law_kinds (P := P) (w := w) (base := base) (src_of X G c 2 2 rfl rfl)
  have G_law_reading := ok_law_reading (P := P) (w := w) (base := base) (src_of X G c 3 3 rfl rfl) m_range G_law_kinds G_law_off
  have G_law_times := ok_law_times (P := P) (w := w) (base := base) (src_of X G c 4 4 rfl rfl) m_range m_enumerate m_max m_min m_int G_law_reading G_law_off
  have G_law_alike := ok_law_alike (P := P) (w := w) (base := base) (src_of X G c 5 5 rfl rfl) m_isinstance m_bool m_int m_str m_dict m_tuple m_list m_len m_all m_range 3
  have H_law_alike := fun (pe : Addr × Obj) (n : Nat) => ok_law_alike_hot (P := P) (w := w) (base := base) (pe := pe) (src_of X G c 5 5 rfl rfl) m_isinstance m_bool m_int m_str m_dict m_tuple m_list m_len m_all m_range n
  have Gis_small := ok_is_small (P := P) (w := w) (base := base) (src_of X G c 6 6 rfl rfl) CAis_small TBis_small PTis_small m_all c_SMALL_LETTERS
  have Gis_marks := ok_is_marks (P := P) (w := w) (base := base) (src_of X G c 7 7 rfl rfl) CAis_marks TBis_marks PTis_marks m_all m_len c_MOST_MARKS c_NUMBER_OF D_NUMBER_OF
  have Gis_number := ok_is_number (P := P) (w := w) (base := base) (src_of X G c 8 8 rfl rfl) CAis_number TBis_number PTis_number m_all m_len c_FIGURES c_MOST_FIGURES
  have Gis_first_row := ok_is_first_row (P := P) (w := w) (base := base) (src_of X G c 9 9 rfl rfl) CAis_first_row TBis_first_row PTis_first_row m_all m_len Gis_number
  have Gis_next_row := ok_is_next_row (P := P) (w := w) (base := base) (src_of X G c 10 10 rfl rfl) m_len
  obtain ⟨fdBT, FBT⟩ := c.def_ 24 (d := dfm "BadTaps" "__init__" "BadTaps.__init__" sBadTaps___init__) rfl
  have EBadTaps : KExc P w K mg base (He.ga K "BadTaps") 1 "BadTaps" ["self", "at", "why"] (spBadInit K (He.ga K "BadTaps")) := ⟨_, fdBT, c_BadTaps, oexT, mBT.at_, beq_iff_eq.mp mBT.fn, FBT.bindsN fun _ _ _ _ _ _ us hl => match us, hl with | [_, _, _], _ => rfl, ok_BadTaps_init FBT c_TapError inhT oexT nT_at nT_why⟩
  obtain ⟨fdBB, FBB⟩ := c.def_ 25 (d := dfm "BadTable" "__init__" "BadTable.__init__" sBadTable___init__) rfl
  have EBadTable : KExc P w K mg base (He.ga K "BadTable") 1 "BadTable" ["self", "at", "why"] (spBadInit K (He.ga K "BadTable")) := ⟨_, fdBB, c_BadTable, oexB, mBB.at_, beq_iff_eq.mp mBB.fn, FBB.bindsN fun _ _ _ _ _ _ us hl => match us, hl with | [_, _, _], _ => rfl, ok_BadTable_init FBB c_TapError inhT oexB nB_at nB_why⟩
  obtain ⟨fdBX, FBX⟩ := c.def_ 26 (d := dfm "BadText" "__init__" "BadText.__init__" sBadText___init__) rfl
  have EBadText : KExc P w K mg base (He.ga K "BadText") 1 "BadText" ["self", "row"] (spTextInit (He.ga K "BadText")) := ⟨_, fdBX, c_BadText, oexX, mBX.at_, beq_iff_eq.mp mBX.fn, FBX.bindsN fun _ _ _ _ _ _ us hl => match us, hl with | [_, _], _ => rfl, ok_BadText_init FBX c_TapError inhT oexX nX_row⟩
  have Xcheck_times := ok_check_times_m (P := P) (w := w) (base := base) (src_of X G c 11 11 rfl rfl) m_len m_enumerate c_MOST_TIMES c_SHORTEST c_LONGEST EBadTaps
  obtain ⟨fdsTaps___init__, FsTaps___init__⟩ := c.def_ 22 (d := dfm "Taps" "__init__" "Taps.__init__" sTaps___init__) rfl
  have clsTaps___init__ := He.cls_ok (c.fact 23 (f := .cls "Taps") rfl)
  have nTsTaps___init__ := He.noat_ok (c.fact 24 (f := .noat "Taps" "_times") rfl)
  have XTaps : KMake P w K mg base (L2N.CX P w) (He.ga K "Taps") 4 "Taps" ["self", "times"] (spTapsX2 K (He.ga K "Taps") (He.ga K "BadTaps")) := ⟨_, fdsTaps___init__, He.glo_ok X G (c.fact 22 (f := .glo "Taps") rfl), He.mkr_ok (c.fact 25 (f := .mkr "Taps") rfl), FsTaps___init__.bindsN fun _ _ _ _ _ _ us hl => match us, hl with | [_, _], _ => rfl, ok_Taps_init_m FsTaps___init__ clsTaps___init__ nTsTaps___init__ m_list Xcheck_times⟩
  have Xcheck_table := ok_check_table_m (P := P) (w := w) (base := base) (src_of X G c 12 12 rfl rfl) m_len m_enumerate m_set Gis_small Gis_marks EBadTable
  obtain ⟨fdsTable___init__, FsTable___init__⟩ := c.def_ 23 (d := dfm "Table" "__init__" "Table.__init__" sTable___init__) rfl
  have clsTable___init__ := He.cls_ok (c.fact 27 (f := .cls "Table") rfl)
  have nTsTable___init__ := He.noat_ok (c.fact 28 (f := .noat "Table" "_rows") rfl)
  have XTable : KMake P w K mg base (L2N.CX P w) (He.ga K "Table") 4 "Table" ["self", "rows"] (spTableX K (TL K) (He.ga K "Table") (He.ga K "BadTable")) := ⟨_, fdsTable___init__, He.glo_ok X G (c.fact 26 (f := .glo "Table") rfl), He.mkr_ok (c.fact 29 (f := .mkr "Table") rfl), FsTable___init__.bindsN fun _ _ _ _ _ _ us hl => match us, hl with | [_, _], _ => rfl, ok_Table_init_m FsTable___init__ clsTable___init__ nTsTable___init__ m_list Xcheck_table⟩
  have Xcheck_book := ok_check_book_m (P := P) (w := w) (base := base) (src_of X G c 13 13 rfl rfl) m_enumerate m_set Gis_small EBadTable
  have Xcheck_sheet := ok_check_sheet_m (P := P) (w := w) (base := base) (src_of X G c 14 14 rfl rfl) m_len m_range Gis_first_row Gis_next_row EBadText
  have Xread := ok_read_m (P := P) (w := w) (base := base) (src_of X G c 15 15 rfl rfl) m_int Xcheck_sheet XTaps XTable Xcheck_book
  have H_isT : ∀ {a : Addr} {oe : Obj} {cls : Value} {d : Option Addr}, cls = .ref (He.ga K "BadTaps") → L2N.Zn cls d oe → (∃ vs, oe.data = .fields vs) → KDefP P w K mg base (a, oe) 1 "_law_is" ["_law_e", "_law_word"] (spIs a d "taps") := fun {a oe cls d} hc hz hf => ok_law_is (P := P) (w := w) (base := base) (a := a) (D := (He.ga K "BadTaps")) (src_of X G c 16 16 rfl rfl) m_isinstance m_ValueError c_BadTaps c_BadReading c_BadWidth c_BadTable c_BadWords c_BadText hCT (by rw [← hc]; exact hz.zc) hf (kitB_ok zkT1) (kitB_ok zkT2) (kitB_ok zkT3) (kitB_ok zkT4) (kitB_ok zkT5) (kitB_ok zkT6) (kitB_ok zkvT)
  have H_isB : ∀ {a : Addr} {oe : Obj} {cls : Value} {d : Option Addr}, cls = .ref (He.ga K "BadTable") → L2N.Zn cls d oe → (∃ vs, oe.data = .fields vs) → KDefP P w K mg base (a, oe) 1 "_law_is" ["_law_e", "_law_word"] (spIs a d "table") := fun {a oe cls d} hc hz hf => ok_law_is (P := P) (w := w) (base := base) (a := a) (D := (He.ga K "BadTable")) (src_of X G c 16 16 rfl rfl) m_isinstance m_ValueError c_BadTaps c_BadReading c_BadWidth c_BadTable c_BadWords c_BadText hCB (by rw [← hc]; exact hz.zc) hf (kitB_ok zkB1) (kitB_ok zkB2) (kitB_ok zkB3) (kitB_ok zkB4) (kitB_ok zkB5) (kitB_ok zkB6) (kitB_ok zkvB)
  have H_isX : ∀ {a : Addr} {oe : Obj} {cls : Value} {d : Option Addr}, cls = .ref (He.ga K "BadText") → L2N.Zn cls d oe → (∃ vs, oe.data = .fields vs) → KDefP P w K mg base (a, oe) 1 "_law_is" ["_law_e", "_law_word"] (spIs a d "text") := fun {a oe cls d} hc hz hf => ok_law_is (P := P) (w := w) (base := base) (a := a) (D := (He.ga K "BadText")) (src_of X G c 16 16 rfl rfl) m_isinstance m_ValueError c_BadTaps c_BadReading c_BadWidth c_BadTable c_BadWords c_BadText hCX (by rw [← hc]; exact hz.zc) hf (kitB_ok zkX1) (kitB_ok zkX2) (kitB_ok zkX3) (kitB_ok zkX4) (kitB_ok zkX5) (kitB_ok zkX6) (kitB_ok zkvX)
  have G_law_refused := ok_law_refused_m (P := P) (w := w) (base := base) (src_of X G c 17 17 rfl rfl) Xread H_isT H_isB H_isX H_law_alike c_TapError exmT exmB exmX xfT xfBB xfX nT_at nT_why nB_at nB_why n_row
  have G_law_table := ok_law_table (P := P) (w := w) (base := base) (src_of X G c 18 18 rfl rfl) m_len m_range G_law_off
  have G_law_sheet := ok_law_sheet (P := P) (w := w) (base := base) (src_of X G c 19 19 rfl rfl) m_int G_law_off G_law_table G_law_times
  have G_law_lines := ok_law_lines (P := P) (w := w) (base := base) (src_of X G c 20 20 rfl rfl) m_str
  exact ok_law F G_law_dice G_law_off G_law_sheet G_law_lines G_law_refused m_len
end KT
open PySem PySem.W PySem.Calls PyProof.Rows
theorem PySem.Challenge.cw_keyedtime_k17_texts_refused_holds : PySem.Challenge.rw_keyedtime_k17_texts_refused.Holds := by
  w_on; o_law
  refine HandSHeadRun.head_imp (r := OpenLaw.row PySem.Challenge.rw_keyedtime_k17_texts_refused) (q := view (OpenLaw.row PySem.Challenge.rw_keyedtime_k17_texts_refused).prog [44]) (H := KT.hkL) (ob := KT.obL) (M := 4000) (loose := KT.looseL) (d := HandSHeadRun.topDef (OpenLaw.row PySem.Challenge.rw_keyedtime_k17_texts_refused).prog 44) (kwd := []) KT.obL_eq
    KT.runL (by kernel_rfl) (by kernel_rfl) (by kernel_rfl) (by rfl) (by first | assumption | decide +kernel) (by decide +kernel) ⟨rfl, rfl, rfl, rfl, rfl, by decide +kernel⟩ ?hw ?hc
  case hw => w_witness2
  case hc =>
    refine LamX.walk_ofTsE (l := PySem.Challenge.rw_keyedtime_k17_texts_refused) (n := 63) (k := 10) (x := "_law_script") (CX := fun _ => L2.CX0) rfl (by decide) (by kernel_rfl) ⟨rfl, by decide, by decide⟩ ?F (fun _ _ _ _ _ z => z)
    intro w mg fa h Y G hmg0
    obtain ⟨K, KX, c⟩ := Y
    have hmg : mg ("law" : PySem.Str) = some (.ref fa) := by
      have e : (HandSHeadRun.topDef (OpenLaw.row PySem.Challenge.rw_keyedtime_k17_texts_refused).prog 44).name = ("law" : PySem.Str) := by kernel_rfl
      rw [← e]
      exact hmg0
    obtain ⟨fd, hb, hF⟩ := KT.factsL (P := (PySem.Challenge.rw_keyedtime_k17_texts_refused).prog) (w := w) KX G hmg c
    refine ⟨K, KX, fd, KT.csL K, KT.spLawT K (KT.TL K), fun p hp => ?_, fun p hp => ?_, fun p hp => ?_, hb, fun H a ns hl _ ht hS => ⟨a, ns, rfl, hS, hl, KT.tbT ht, fun _ _ => rfl⟩, hF⟩
    · obtain ⟨q, hq, rfl⟩ := List.mem_map.mp hp
      exact c.empty q hq
    · obtain ⟨q, hq, rfl⟩ := List.mem_map.mp hp
      exact c.out q hq
    · obtain ⟨q, hq, rfl⟩ := List.mem_map.mp hp
      exact codeHd_of_K KX (c.hd q hq)
