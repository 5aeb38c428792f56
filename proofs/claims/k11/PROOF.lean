import PyProof.Rows.All
import Wide.All
import OpenK.AllK
import Wide.FinOn
import HandS.Base
import HandS.Call
import HandS.List
import HandS.Comp
import HandS.Ends
import HandS.Dict
import HandS.Iter
import HandS.Text
import HandS.Words
import HandS.Conv
import HandS.Codes
import HandS.Defaults
import HandS.Walk
import HandS.WordsList
import HandS.IsInst
import HandS.Gcd
import HandS.Flow
import HandS.Style
import KE.KDictZip
import KE.KStateDown
import Lean
import HandS.More
import HandS.WordsExc
import HandS.Head0
import HandS.Head1
import HandS.Head2
import HandS.Head3
import HandS.Head4
import HandS.HeadEnd
import HandS.HeadHook1
import HandS.HeadHook2
import HandS.HeadHook3
import HandS.HeadHook4
import HandS.SetFor
import HandS.Deep
import HandS.Sort
import HandS.SortOrd
import HandS.SortRule
import HandS.Wide
import KE.KMathGC
import HandS.TryOnly
import PySem.Challenge.RW_keyedtime_k11_whole_fewest_pieces
set_option Elab.async false
set_option linter.all false
set_option maxRecDepth 100000
set_option maxHeartbeats 0
/-! Own words over the layer, for every law of Keyedtime. -/
namespace KT
open PySem PySem.Spec PyProof.Rows L2

/-! ### defs, classes, methods as callers know them -/
/-- the def x keeps sp -/
structure KDef (P : Program) (w : World) (K : PySem.W.Frag) (mg : Str → Option Value) (base : Heap) (C : CXT) (k : Nat) (x : Str) (ps : List Str) (sp : Sp) : Prop where
  ex : ∃ (f : Addr) (fd : FuncData), mg x = some (.ref f) ∧ PySem.W.keepIn K (.ref f) = true ∧ Binds K fd ps [] ∧ FnOk P w K mg base C k f fd ps sp
/-- making an instance of the class x, at C, keeps sp -/
structure KMake (P : Program) (w : World) (K : PySem.W.Frag) (mg : Str → Option Value) (base : Heap) (X : CXT) (C : Addr) (k : Nat) (x : Str) (ps : List Str) (sp : Sp) : Prop where
  ex : ∃ (f : Addr) (fd : FuncData), mg x = some (.ref C) ∧ Mk K C f ∧ Binds K fd ps [] ∧ FnOk P w K mg base X k f fd ps sp
/-- the method m of the class at C keeps sp -/
structure KMeth (P : Program) (w : World) (K : PySem.W.Frag) (mg : Str → Option Value) (base : Heap) (X : CXT) (C : Addr) (k : Nat) (m : Str) (ps : List Str) (sp : Sp) : Prop where
  cls : Cls K C
  ex : ∃ (f : Addr) (fd : FuncData), Meth K C m f ∧ Binds K fd ps [] ∧ FnOk P w K mg base X k f fd ps sp
section
variable {X : Cx} {k : Nat} {C : Addr} {x m : Str} {ps : List Str} {sp : Sp} {e o : Expr} {es : List Expr} {t : TA} {ta : TE} {p pos apos : Pos}
theorem pe_callD (D : KDef X.prog X.w X.K X.mg X.base CX0 k x ps sp) (hr : Room k X.A) (hg : Gl X x) (ha : PA X (e :: es) t) (hdb : (x == ("__debug__" : Str)) = false := by decide)
    (he : starEach (e :: es) X.env = (false, eval e X.env) :: starEach es X.env := by rfl) (hpl : (backTo pos (starEach es X.env)).any (·.1) = false := by rfl) :
    PE X (.Call (.Name x p) (e :: es) [] pos) (tCall sp [] E0 t) := by
  obtain ⟨f, fd, hm, hk, hb, F⟩ := D.ex
  exact pe_call F hr hg hm hk hb .nil pass0 ha hdb he hpl
theorem pe_makeD (D : KMake X.prog X.w X.K X.mg X.base CX0 C k x ps sp) (hr : Room (k + 1) X.A) (hg : Gl X x) (ha : PA X (e :: es) t) (hdb : (x == ("__debug__" : Str)) = false := by decide)
    (he : starEach (e :: es) X.env = (false, eval e X.env) :: starEach es X.env := by rfl) (hpl : (backTo pos (starEach es X.env)).any (·.1) = false := by rfl) :
    PE X (.Call (.Name x p) (e :: es) [] pos) (tMake C sp [] E0 t) := by
  obtain ⟨f, fd, hm, M, hb, F⟩ := D.ex
  exact pe_make M F hr hg hm hb .nil pass0 ha hdb he hpl
theorem pe_meth0D {pl : Sem Bool} (he : PE X o ta) (D : KMeth X.prog X.w X.K X.mg X.base CX0 C k m ps sp) (hr : Room k X.A)
    (ht : eval (.Call (.Attribute o m apos) [] [] pos) X.env = (do
      let ov ← eval o X.env
      standAt apos.atName
      let (f, first) ← holding [ov] (getMethod ov m pl)
      callWith pos f first (backTo pos (starEach [] X.env)) (backToKw pos (keywordEach [] X.env))) := by rfl) :
    PE X (.Call (.Attribute o m apos) [] [] pos) (tMeth C m sp [] E0 ta tNil) := by
  obtain ⟨f, fd, hm, hb, F⟩ := D.ex
  exact pe_meth0 he D.cls hm F hr hb .nil pass0 ht
end
/-- the def stands behind the top -/
structure Src (K : PySem.W.Frag) (mg : Str → Option Value) (x : Str) (st : Stmt) : Prop where
  ex : ∃ (f : Addr) (fd : FuncData), mg x = some (.ref f) ∧ FunD K x x (defArgs st) (defBody st) (defScope st) [] [] f fd
section
variable {P : Program} {w : World} {K : PySem.W.Frag} {mg : Str → Option Value} {base : Heap} {x : Str} {st : Stmt} {N ps : List Str} {k : Nat} {sp : Sp}
/-- a def that lets nothing out -/
theorem Src.ok (S : Src K mg x st) (sc : FnScope N ps (defScope st))
    (hb : ∀ (kV doc pm : Value) (an : Option Addr) (cdv ct : Value) (us : List Value), us.length = ps.length → bindArgs (PySem.W.fnOf x x (defArgs st) (defBody st) (defScope st) .none kV doc pm an cdv ct) ⟨us, []⟩ = pure (ps.zip us))
    (len : ∀ vs H Q E, sp vs H Q E → vs.length = ps.length)
    (hbody : ∀ (f : Addr) (cdv : Value) (A : Around) (outer : List Env) (s : Shared) (H : Hp) (vs : List V) (Q : VK) (E : XK), Room k (A.deeper (envOfC x (defScope st) s.heap.objs.size f cdv)) → sp vs H Q E →
      ∃ t, PSs (cxOf CX0 P w K mg base N x (defScope st) f cdv A outer s H E).nox (defBody st) t ∧ t { nx := fun _ H' => Q .non H', rt := Q } (start N vs) H) : KDef P w K mg base CX0 (k + 1) x ps sp := by
  obtain ⟨f, fd, hm, F⟩ := S.ex
  refine ⟨f, fd, hm, F.kp, F.bindsN hb, F.ok sc len fun cdv A outer s H vs Q E hr h => ?_⟩
  obtain ⟨t, ht, q⟩ := hbody f cdv A outer s H vs Q E hr h
  exact ⟨t, ht.nox, q⟩
end

/-! ### heaps -/
/-- what stood stands, but at d -/
def Kp (d : Addr) (H H' : Hp) : Prop := ∀ b o, b ≠ d → H b = some o → H' b = some o
theorem Kp.refl (d : Addr) (H : Hp) : Kp d H H := fun _ _ _ h => h
theorem Kp.of {d : Addr} {H H' : Hp} (s : Same H H') : Kp d H H' := fun b o _ h => s b o h
theorem Kp.trans {d : Addr} {H H1 H2 : Hp} (a : Kp d H H1) (b : Kp d H1 H2) : Kp d H H2 := fun c o n h => b c o n (a c o n h)
theorem Kp.then {d : Addr} {H H1 H2 : Hp} (a : Kp d H H1) (b : Same H1 H2) : Kp d H H2 := a.trans (.of b)
theorem Kp.at {d : Addr} {H H1 : Hp} {o : HO} : Kp d H (upd H d o) := fun b u n h => by rw [upd_ne n]; exact h
theorem Kp.free {d : Addr} {H H1 : Hp} {o : HO} (a : Kp d H H1) (hd : H d = some o) {p : Addr} (h : H1 p = none) (hd1 : H1 d ≠ none) : H p = none := by
  cases e : H p with
  | none => rfl
  | some u =>
    by_cases n : p = d
    · subst n
      exact absurd h hd1
    · rw [a p u n e] at h
      cases h
theorem Kp.seq {K : PySem.W.Frag} {d a : Addr} {H H' : Hp} {xs : List V} (e : Kp d H H') (n : a ≠ d) (h : SqL K H a xs) : SqL K H' a xs := by
  rcases h with (h | ⟨o, h⟩) | h
  · exact .inl (.inl (e _ _ n h))
  · exact .inl (.inr ⟨o, e _ _ n h⟩)
  · exact .inr h
theorem Kp.tup {K : PySem.W.Frag} {d a : Addr} {H H' : Hp} {xs : List V} (e : Kp d H H') (n : a ≠ d) (h : SqT K H a xs) : SqT K H' a xs := by
  rcases h with (h | ⟨o, h⟩) | h
  · exact .inl (.inl (e _ _ n h))
  · exact .inl (.inr ⟨o, e _ _ n h⟩)
  · exact .inr h
theorem sm {H : Hp} {p : Addr} {o : HO} (h : H p = none) : Same H (upd H p o) := fun b x e => by
  rw [upd_ne (ne_of_none e h)]
  exact e
theorem same_tup {K : PySem.W.Frag} {H H' : Hp} {a : Addr} {xs : List V} (e : Same H H') (h : SqT K H a xs) : SqT K H' a xs := by
  rcases h with (h | ⟨o, h⟩) | h
  · exact .inl (.inl (e _ _ h))
  · exact .inl (.inr ⟨o, e _ _ h⟩)
  · exact .inr h
/-- data stay as they are -/
theorem DpAll.mono {K : PySem.W.Frag} {H H' : Hp} (g : ∀ v d, Dp K H v d → Dp K H' v d) : ∀ {vs : List V} {ds : List PyData}, DpAll K H vs ds → DpAll K H' vs ds
  | _, _, .nil => .nil
  | _, _, .cons h t => .cons (g _ _ h) (DpAll.mono g t)
mutual
theorem Dp.same {K : PySem.W.Frag} {H H' : Hp} (s : Same H H') : ∀ (d : PyData) (v : V), Dp K H v d → Dp K H' v d
  | .none, _, h => by cases h; exact .non
  | .bool b, _, h => by cases h; exact .bl b
  | .int i, _, h => by cases h; exact .int i
  | .str x, _, h => by cases h; exact .str x
  | .list ds, _, h => by
    cases h with
    | lst hs ha => exact .lst (s.seq hs) (Dp.sameAll s ds _ ha)
  | .tuple ds, _, h => by
    cases h with
    | tup hs ha => exact .tup (same_tup s hs) (Dp.sameAll s ds _ ha)
  | .dict kvs, _, h => by cases h
theorem Dp.sameAll {K : PySem.W.Frag} {H H' : Hp} (s : Same H H') : ∀ (ds : List PyData) (vs : List V), DpAll K H vs ds → DpAll K H' vs ds
  | [], _, h => by cases h; exact .nil
  | d :: ds, _, h => by
    cases h with
    | cons h1 h2 => exact .cons (Dp.same s d _ h1) (Dp.sameAll s ds _ h2)
end

/-! ### readings by what stands -/
theorem ixn {n j : Nat} (hj : j < n) : ixN n (j : Int) = some j := by
  unfold ixN
  rw [if_pos (Int.natCast_nonneg j), if_pos (by omega), Int.toNat_natCast]
section
variable {K : PySem.W.Frag} {H : Hp} {a b : Addr} {xs ys : List V} {i : Int} {j : Nat} {v : V} {Q : VK}
theorem aI {α : Type} {xs : List α} {v : α} (h0 : 0 ≤ i) (e : xs[i.toNat]? = some v) : atI xs i = some v := by
  have e2 := atI_nat e
  rw [Int.toNat_of_nonneg h0] at e2
  exact e2
theorem sI {n : Nat} (h0 : 0 ≤ i) (hj : i < n) : ixN n i = some i.toNat := by
  unfold ixN
  rw [if_pos h0, if_pos hj]
theorem pI {n : Nat} (h0 : 0 ≤ i) (hj : i < n) : seqIndex? i n = some i.toNat := PySem.seqIndex_of h0 hj
theorem lz {n : Nat} (h : n ≤ 1000000) : n ≤ sizeLine := by
  rw [sizeLine_eq]
  omega
theorem lz' {n : Nat} (h : n ≤ 1000000) : n < sizeLine := by
  rw [sizeLine_eq]
  omega
theorem ty_list (h : H a = some (.lst xs)) : tyV K "list" (.ref a) H := .inl ⟨rfl, xs, SqL.of h⟩
end

/-! ### the layer's rules with the written part by name (within a comprehension's block it must be) -/
section
variable {X : Cx} {K : PySem.W.Frag}
theorem ix_listK (h : X.K = K) : IxR X (rIxL K) := by subst h; exact ix_list
theorem ix_tupK (h : X.K = K) : IxR X (rIxT K) := by subst h; exact ix_tup
theorem ix_seqK (h : X.K = K) : IxR X (rIx K) := by subst h; exact ix_seq
theorem sl_listK (h : X.K = K) : SlR X (rSlL K) := by subst h; exact sl_list
theorem op_in_seqK (h : X.K = K) : OpR X (compareOp .In) (rIn K false) := by subst h; exact op_in_seq
theorem op_notIn_seqK (h : X.K = K) : OpR X (compareOp .NotIn) (rIn K true) := by subst h; exact op_notIn_seq
theorem op_eqDK (hu : X.A.units + 64 < cLine) (h : X.K = K) : OpR X (compareOp .Eq) (rEqD K) := by subst h; exact op_eqD hu
theorem op_neDK (hu : X.A.units + 64 < cLine) (h : X.K = K) : OpR X (compareOp .NotEq) (rNeD K) := by subst h; exact op_neD hu
def rLenQ (K : PySem.W.Frag) : List V → Hp → VK → Prop := fun xs H Q => ∃ p ys, xs = [.ref p] ∧ (SqL K H p ys ∨ SqT K H p ys) ∧ Q (.int ys.length) H
theorem call_len_seqK (h : X.K = K) : CallR X (.builtin "len") (rLenQ K) := by subst h; exact call_len_seq
def rListQ (K : PySem.W.Frag) : List V → Hp → VK → Prop := fun xs H Q => ∃ p ys, xs = [.ref p] ∧ (SqL K H p ys ∨ SqT K H p ys) ∧ ∀ l, H l = none → Q (.ref l) (upd H l (.lst ys))
theorem call_list_ofK (h : X.K = K) : CallR X (.type "list") (rListQ K) := by subst h; exact call_list_of
theorem cr_sortedK (h : X.K = K) : CallR X (.builtin "sorted") (rSorted K) := by subst h; exact cr_sorted
theorem cr_allK (hc : X.calm = true) (h : X.K = K) : CallR X (.builtin "all") (rAll K) := by subst h; exact cr_all hc
theorem pe_fldK {e : Expr} {ta : TE} {f : Str} {pos : Pos} (h : X.K = K) (he : PE X e ta) (hb : attributeBase e f X.env (eval e X.env) = eval e X.env) : PE X (.Attribute e f pos) (tFld K ta f) := by subst h; exact pe_fld he hb
theorem ps_fldK {o value : Expr} {ta tv : TE} {f : Str} {pos pos' : Pos} (h : X.K = K) (ha : PE X o ta) (hv : PE X value tv) (hs : swapsWith value (some (.Attribute o f pos')) pos.line X.env = pure false) :
    PS X (.Assign [.Attribute o f pos'] value pos) (sFld K ta tv f) := by subst h; exact ps_fld ha hv hs
theorem pi_listK {tg l : Expr} {tl : TE} (h : X.K = K) (hl : PE X l tl) : PI X tg l (iList K tl) := by subst h; exact pi_list hl
theorem pi_tupK {tg l : Expr} {tl : TE} (h : X.K = K) (hl : PE X l tl) : PI X tg l (iTup K tl) := by subst h; exact pi_tup hl
theorem pi_enumK {e : Expr} {ta : TA} {p pos tpos : Pos} {elts : List Expr} {kk : Nat} (h : X.K = K) (hg : Gl X "enumerate") (hm : X.mg "enumerate" = none) (ha : PA X [e] ta) (hs : starEach [e] X.env = [(false, eval e X.env)] := by rfl) :
    PI X (.Tuple elts kk tpos) (.Call (.Name "enumerate" p) [e] [] pos) (iEnum K ta) := by subst h; exact pi_enum hg hm ha hs
end
theorem pe_gI {X : Cx} {x : Str} {i : Int} {pos : Pos} (hg : Gl X x) (h : ∃ t, X.mg x = some (.int i t)) (hd : (x == ("__debug__" : Str)) = false := by decide) : PE X (.Name x pos) (tC (.int i)) := by
  obtain ⟨t, e⟩ := h
  exact pe_glob (v := .int i) hg e ⟨t, rfl⟩ hd
theorem pe_gR {X : Cx} {x : Str} {a : Addr} {pos : Pos} (hg : Gl X x) (h : X.mg x = some (.ref a)) (hd : (x == ("__debug__" : Str)) = false := by decide) : PE X (.Name x pos) (tC (.ref a)) := pe_glob (v := .ref a) hg h rfl hd
/-! ### cuts: an expression, a test, with a word behind it -/
def tCutE (t : TE) : TE := fun σ H Q => ∃ Mid : V → Hp → Prop, t σ H Mid ∧ ∀ v H', Mid v H' → Q v H'
def tCutT (t : TT) : TT := fun σ H Q => ∃ Mid : Bool → Hp → Prop, t σ H Mid ∧ ∀ b H', Mid b H' → Q b H'
theorem pe_cut {X : Cx} {e : Expr} {t : TE} (h : PE X e t) : PE X e (tCutE t) :=
  ⟨fun pins s σ H Q I ⟨Mid, h1, h2⟩ => thn (h.run pins s σ H Mid I h1) fun _ _ ⟨v, H', I', r, q⟩ => ⟨v, H', I', r, h2 v H' q⟩⟩
theorem pt_cut {X : Cx} {e : Expr} {t : TT} (h : PT X e t) : PT X e (tCutT t) :=
  ⟨fun pins s σ H Q I ⟨Mid, h1, h2⟩ => thn (h.run pins s σ H Mid I h1) fun _ _ ⟨H', I', q⟩ => ⟨H', I', h2 _ H' q⟩⟩
end KT

/-! What each def promises; the mathematics. -/
namespace KT
open PySem PySem.Spec PyProof.Rows L2
/-! ### the dice -/
def Dice (H : Hp) (d : Addr) : Prop := ∃ (x y : Int) (zs : List Int), H d = some (.lst (V.int x :: V.int y :: zs.map V.int)) ∧ 0 ≤ x ∧ x < 2147483647 ∧ 0 ≤ y ∧ (∀ z ∈ zs, 0 ≤ z) ∧ zs.length ≤ 63
theorem Dice.some {H : Hp} {d : Addr} (h : Dice H d) : ∃ o, H d = Option.some o := by
  obtain ⟨x, y, zs, e, _⟩ := h
  exact ⟨_, e⟩
theorem Dice.ne {H : Hp} {d p : Addr} (h : Dice H d) (n : H p = none) : p ≠ d := by
  obtain ⟨o, e⟩ := h.some
  exact (ne_of_none e n).symm
theorem Dice.same {H H' : Hp} {d : Addr} (h : Dice H d) (s : Same H H') : Dice H' d := by
  obtain ⟨x, y, zs, e, r⟩ := h
  exact ⟨x, y, zs, s _ _ e, r⟩
/-- behind what kept all but the dice: what is free now was free -/
theorem Kp.new {d : Addr} {H H1 : Hp} (a : Kp d H H1) (hd : Dice H1 d) {p : Addr} (h : H1 p = none) : H p = none := by
  have n := hd.ne h
  cases e : H p with
  | none => rfl
  | some u =>
    rw [a p u n e] at h
    cases h
def spDice (K : PySem.W.Frag) : Sp := fun vs H Q _ => ∃ (a : Addr) (ns : List Int), vs = [.ref a, .int 0] ∧ SqL K H a (ns.map V.int) ∧ ns.length ≤ 63 ∧ ∀ (p : Addr) (H' : Hp), H p = none → Same H H' → Dice H' p → Q (.ref p) H'
def spOff : Sp := fun vs H Q _ => ∃ (d : Addr) (m : Int), vs = [.ref d, .int m] ∧ Dice H d ∧ 0 < m ∧ m < 1073741824 ∧ ∀ (r : Int) (H' : Hp), 0 ≤ r → r < m → Dice H' d → Kp d H H' → Q (.int r) H'
theorem int_of {ns : List Int} {i : Nat} {y : V} (h : (ns.map V.int)[i]? = some y) : ∃ z, y = V.int z := by
  rw [List.getElem?_map] at h
  cases e : ns[i]? with
  | none =>
    rw [e] at h
    cases h
  | some z =>
    rw [e] at h
    exact ⟨z, (Option.some.inj h).symm⟩
theorem int_at {ns : List Int} {i : Nat} {y : V} (h : (ns.map V.int)[i]? = some y) : ∃ z, y = V.int z ∧ ns[i]? = some z := by
  rw [List.getElem?_map] at h
  cases e : ns[i]? with
  | none =>
    rw [e] at h
    cases h
  | some z =>
    rw [e] at h
    exact ⟨z, (Option.some.inj h).symm, rfl⟩
theorem at_int {ns : List Int} {i : Nat} {z : Int} (h : ns[i]? = some z) : (ns.map V.int)[i]? = some (V.int z) := by
  rw [List.getElem?_map, h]
  rfl
/-! ### readings -/
theorem par (n : Int) : n % 2 = 0 ∨ n % 2 = 1 := by omega
def kinds (n : Int) : List Int := if n % 2 = 0 then [1, 3] else [1, 3, 7]
theorem kinds_even {n : Int} (h : n % 2 = 0) : kinds n = [1, 3] := if_pos h
theorem kinds_odd {n : Int} (h : n % 2 = 1) : kinds n = [1, 3, 7] := if_neg (by omega)
def spKinds : Sp := fun vs H Q _ => ∃ n : Int, vs = [.int n] ∧ ∀ (p : Addr) (H' : Hp), H p = none → Same H H' → H' p = some (.lst ((kinds n).map V.int)) → Q (.ref p) H'
/-! ### comprehensions without tests: what is kept, what each item is -/
theorem same_put {H H1 : Hp} {D : Addr} {o : HO} (s : Same H H1) (n : H D = none) : Same H (upd H1 D o) := fun b u e => by
  rw [upd_ne (ne_of_none e n)]
  exact s b u e
theorem Kp.put {d : Addr} {H H1 : Hp} {D : Addr} {o : HO} (s : Kp d H H1) (n : H D = none) : Kp d H (upd H1 D o) := fun b u nb e => by
  rw [upd_ne (ne_of_none e n)]
  exact s b u nb e
theorem Dice.put {H : Hp} {d D : Addr} {o : HO} (h : Dice H d) (n : D ≠ d) : Dice (upd H D o) d := by
  obtain ⟨x, y, zs, e, r⟩ := h
  exact ⟨x, y, zs, by rw [upd_ne n.symm]; exact e, r⟩
section
variable {J : It} {n : Nat} {G : Hp → Prop} {Y : Nat → Hp → V → Hp → Prop} {g : TG} {te : TE} {vs : List Nat} {σ : L2.St} {H1 : Hp} {D : Addr} {Qd : Hp → Prop}
/-- all kept -/
theorem lc_s (w : Walk J n G Y) (Pe : Nat → V → Prop) (nD : H1 D = none) (hn : n ≤ 1000000) (hG : ∀ H, Same H1 H → G H)
    (hs : ∀ i x H H' (acc : List V) (k : V → Hp → Prop), i < n → Same H1 H → H D = some (.lst acc) → acc.length = i → Y i H x H' → (∀ y H4, Same H1 H4 → H4 D = some (.lst acc) → Pe i y → k y H4) →
      g x (wipe σ vs) H' fun σ2 H2 => wipe σ2 vs = wipe σ vs ∧ te σ2 H2 k)
    (hd : ∀ H xs, Same H1 H → H D = some (.lst xs) → xs.length = n → (∀ i y, xs[i]? = some y → Pe i y) → Qd H) :
    ∃ W : Nat → Nat → Hp → Prop, (∃ m, W 0 m (upd H1 D (.lst []))) ∧ ∀ i m H, W i m H →
      (J.stop i H ∧ Qd H) ∨ (J.go i H ∧ ∃ Nx : Hp → Prop, (∀ H', Nx H' → ∃ m', m' < m ∧ W (i + 1) m' H') ∧ ∀ x H', J.yld i H x H' → g x (wipe σ vs) H' fun σ2 H2 => wipe σ2 vs = wipe σ vs ∧ tYes σ2 H2 fun b H3 =>
        if b = true then te σ2 H3 fun y H4 => ∃ acc, H4 D = some (.lst acc) ∧ acc.length < sizeLine ∧ Nx (upd H4 D (.lst (acc ++ [y]))) else Nx H3) := by
  refine lc_it w (tt := tYes) (fun i H => ∃ xs, Same H1 H ∧ H D = some (.lst xs) ∧ xs.length = i ∧ ∀ i y, xs[i]? = some y → Pe i y) ⟨[], sm nD, upd_same, rfl, fun i y h => by simp at h⟩ (fun i H _ ⟨_, s, _⟩ => hG H s) ?_ fun H ⟨xs, s, e, l, q⟩ => hd H xs s e l q
  rintro i x H H' hi ⟨xs, s, e, l, q⟩ y
  refine hs i x H H' xs _ hi s e l y fun z H4 s4 e4 p4 => ⟨xs, e4, lz' (by omega), xs ++ [z], same_put s4 nD, upd_same, by rw [List.length_append, l]; rfl, fun j u hu => ?_⟩
  by_cases hj : j < xs.length
  · rw [List.getElem?_append_left hj] at hu
    exact q j u hu
  · have e5 : j = i := by
      have := (List.getElem?_eq_some_iff.mp hu).1
      rw [List.length_append] at this
      simp at this
      omega
    subst e5
    rw [← l, List.getElem?_append_right (Nat.le_refl _), Nat.sub_self] at hu
    cases hu
    exact l ▸ p4
/-- all kept but the dice -/
theorem lc_d {d : Addr} (w : Walk J n G Y) (Pe : Nat → V → Prop) (hd1 : Dice H1 d) (nD : H1 D = none) (hn : n ≤ 1000000) (hG : ∀ H, Kp d H1 H → G H)
    (hs : ∀ i x H H' (acc : List V) (k : V → Hp → Prop), i < n → Kp d H1 H → Dice H d → H D = some (.lst acc) → acc.length = i → Y i H x H' → (∀ y H4, Kp d H1 H4 → Dice H4 d → H4 D = some (.lst acc) → Pe i y → k y H4) →
      g x (wipe σ vs) H' fun σ2 H2 => wipe σ2 vs = wipe σ vs ∧ te σ2 H2 k)
    (hd : ∀ H xs, Kp d H1 H → Dice H d → H D = some (.lst xs) → xs.length = n → (∀ i y, xs[i]? = some y → Pe i y) → Qd H) :
    ∃ W : Nat → Nat → Hp → Prop, (∃ m, W 0 m (upd H1 D (.lst []))) ∧ ∀ i m H, W i m H →
      (J.stop i H ∧ Qd H) ∨ (J.go i H ∧ ∃ Nx : Hp → Prop, (∀ H', Nx H' → ∃ m', m' < m ∧ W (i + 1) m' H') ∧ ∀ x H', J.yld i H x H' → g x (wipe σ vs) H' fun σ2 H2 => wipe σ2 vs = wipe σ vs ∧ tYes σ2 H2 fun b H3 =>
        if b = true then te σ2 H3 fun y H4 => ∃ acc, H4 D = some (.lst acc) ∧ acc.length < sizeLine ∧ Nx (upd H4 D (.lst (acc ++ [y]))) else Nx H3) := by
  have nDd : D ≠ d := hd1.ne nD
  refine lc_it w (tt := tYes) (fun i H => ∃ xs, Kp d H1 H ∧ Dice H d ∧ H D = some (.lst xs) ∧ xs.length = i ∧ ∀ i y, xs[i]? = some y → Pe i y) ⟨[], (Kp.refl d H1).put nD, hd1.put nDd, upd_same, rfl, fun i y h => by simp at h⟩ (fun i H _ ⟨_, s, _⟩ => hG H s) ?_
    fun H ⟨xs, s, dd, e, l, q⟩ => hd H xs s dd e l q
  rintro i x H H' hi ⟨xs, s, dd, e, l, q⟩ y
  refine hs i x H H' xs _ hi s dd e l y fun z H4 s4 d4 e4 p4 => ⟨xs, e4, lz' (by omega), xs ++ [z], s4.put nD, d4.put nDd, upd_same, by rw [List.length_append, l]; rfl, fun j u hu => ?_⟩
  by_cases hj : j < xs.length
  · rw [List.getElem?_append_left hj] at hu
    exact q j u hu
  · have e5 : j = i := by
      have := (List.getElem?_eq_some_iff.mp hu).1
      rw [List.length_append] at this
      simp at this
      omega
    subst e5
    rw [← l, List.getElem?_append_right (Nat.le_refl _), Nat.sub_self] at hu
    cases hu
    exact l ▸ p4
end
/-- a list of ints, item by item -/
theorem ints_of {xs : List V} {Pi : Nat → Int → Prop} (h : ∀ i y, xs[i]? = some y → ∃ z, y = V.int z ∧ Pi i z) : ∃ ns : List Int, xs = ns.map V.int ∧ ns.length = xs.length ∧ ∀ i z, ns[i]? = some z → Pi i z := by
  induction xs generalizing Pi with
  | nil => exact ⟨[], rfl, rfl, fun i z h => by simp at h⟩
  | cons x xs ih =>
    obtain ⟨z, e, pz⟩ := h 0 x rfl
    obtain ⟨ns, e2, l, q⟩ := ih (Pi := fun i => Pi (i + 1)) fun i y hy => h (i + 1) y hy
    refine ⟨z :: ns, by rw [e, e2]; rfl, by rw [List.length_cons, List.length_cons, l], fun i u hu => ?_⟩
    cases i with
    | zero =>
      cases hu
      exact pz
    | succ i => exact q i u hu
/-! ### readings and times -/
/-- a reading of times from a numbered one on -/
def Rdg (o : Int) (ks : List Int) : Prop := ∀ (i : Nat) (k : Int), ks[i]? = some k → k ∈ kinds (o + i)
theorem kinds_at {n r : Int} (h0 : 0 ≤ r) (h1 : r < 2 + n % 2) : ∃ k, ((kinds n).map V.int)[r.toNat]? = some (V.int k) ∧ k ∈ kinds n := by
  rcases par n with e | e
  · rw [kinds_even e]
    rcases (by omega : r = 0 ∨ r = 1) with rfl | rfl
    · exact ⟨1, rfl, by decide⟩
    · exact ⟨3, rfl, by decide⟩
  · rw [kinds_odd e]
    rcases (by omega : r = 0 ∨ r = 1 ∨ r = 2) with rfl | rfl | rfl
    · exact ⟨1, rfl, by decide⟩
    · exact ⟨3, rfl, by decide⟩
    · exact ⟨7, rfl, by decide⟩
theorem kinds_le {n k : Int} (h : k ∈ kinds n) : k = 1 ∨ k = 3 ∨ k = 7 := by
  rcases par n with e | e
  · rw [kinds_even e] at h
    simp at h
    omega
  · rw [kinds_odd e] at h
    simp at h
    omega
theorem kinds_one (n : Int) : (1 : Int) ∈ kinds n := by
  rcases par n with e | e
  · rw [kinds_even e]
    decide
  · rw [kinds_odd e]
    decide
theorem kinds_three (n : Int) : (3 : Int) ∈ kinds n := by
  rcases par n with e | e
  · rw [kinds_even e]
    decide
  · rw [kinds_odd e]
    decide
def spReading : Sp := fun vs H Q _ => ∃ (d : Addr) (n : Int), vs = [.ref d, .int n] ∧ Dice H d ∧ 0 ≤ n ∧ n ≤ 1000 ∧
  ∀ (ks : List Int) (p : Addr) (H' : Hp), (ks.length : Int) = n → Rdg 0 ks → H p = none → H' p = some (.lst (ks.map V.int)) → Dice H' d → Kp d H H' → Q (.ref p) H'
structure Tps (ts : List Int) : Prop where
  odd : ts.length % 2 = 1
  le : ts.length ≤ 25
  all : ∀ (i : Nat) (t : Int), ts[i]? = some t → 1 ≤ t ∧ t ≤ 9999
def spTimes : Sp := fun vs H Q _ => ∃ (d : Addr) (m : Int), vs = [.ref d, .int m] ∧ Dice H d ∧ 1 ≤ m ∧ m ≤ 25 ∧
  ∀ (ts : List Int) (p : Addr) (H' : Hp), Tps ts → (ts.length : Int) ≤ m → H p = none → H' p = some (.lst (ts.map V.int)) → Dice H' d → Kp d H H' → Q (.ref p) H'
theorem pick2 (b : Bool) (x y : V) : atI [x, y] (if b = true then 1 else 0) = some (if b = true then y else x) := by
  cases b with
  | false => exact aI (by decide) rfl
  | true => exact aI (by decide) rfl
end KT

/-! list(zip(xs, ys)) of two lists of one length. -/
namespace KT
open PySem PySem.Spec PyProof.Rows L2
/-- the zip at a turn: its own tuple free, or the first one that it gave still out -/
def ZipAt (h : Heap) (z TI TO : Addr) : Prop := (IsZip h z TI TO .none ∧ ∃ a b, IsPair h TO a b) ∨ ∃ T f oT, IsZipHeld h z TI TO T f ∧ h.get? T = some oT
/-- the list so far: new pairs -/
def PairsAt (h : Heap) (S : Addr) (xs ys acc : Array Value) (i : Nat) : Prop := acc.size = i ∧ ∀ (j : Nat) (u : Value), acc[j]? = some u → ∃ (T : Addr) (x y : Value), u = Value.ref T ∧ S < T ∧ xs[j]? = some x ∧ ys[j]? = some y ∧ IsPair h T x y
theorem PairsAt.keep {h h' : Heap} {S : Addr} {xs ys acc : Array Value} {i : Nat} (p : PairsAt h S xs ys acc i) (k : ∀ b o, S < b → h.get? b = some o → h'.get? b = some o) : PairsAt h' S xs ys acc i :=
  ⟨p.1, fun j u e => by
    obtain ⟨T, x, y, e1, hT, e2, e3, e4⟩ := p.2 j u e
    exact ⟨T, x, y, e1, hT, e2, e3, k _ _ hT e4⟩⟩
theorem PairsAt.push {h : Heap} {S T : Addr} {xs ys acc : Array Value} {i : Nat} {x y : Value} (p : PairsAt h S xs ys acc i) (hT : S < T) (hx : xs[i]? = some x) (hy : ys[i]? = some y) (e : IsPair h T x y) : PairsAt h S xs ys (acc.push (.ref T)) (i + 1) := by
  refine ⟨by rw [Array.size_push, p.1], fun j u hj => ?_⟩
  rw [Array.getElem?_push] at hj
  split at hj
  · rename_i e5
    rw [p.1] at e5
    cases hj
    subst e5
    exact ⟨T, x, y, rfl, hT, hx, hy, e⟩
  · exact p.2 j u hj
section
variable {prog : Program} {w : World} {A : Around} {R : Result → Shared → Prop} {z TI TO i1 i2 l1 l2 S : Addr} {xs ys : Array Value} {n : Nat}
/-- what is kept: all but the zip's own records and the list itself -/
def KeptBut (z TO i1 i2 S : Addr) (h h' : Heap) : Prop := ∀ b o, b ≠ z → b ≠ TO → b ≠ i1 → b ≠ i2 → b ≠ S → h.get? b = some o → h'.get? b = some o
theorem zip_loop (hh : A.handled = none) (D : ZipApart z TI TO i1 i2 l1 l2) (hS : z < S ∧ TI < S ∧ TO < S ∧ i1 < S ∧ i2 < S ∧ l1 < S ∧ l2 < S) (hx : xs.size = n) (hy : ys.size = n) (hn : n ≤ sizeLine) :
    ∀ (k i : Nat) (s : Shared) (acc : Array Value) (c : Nat), n - i = k → i ≤ n → ZipAt s.heap z TI TO → IsPair s.heap TI (.ref i1) (.ref i2) → s.heap.IsListIter i1 l1 i → s.heap.IsListIter i2 l2 i → s.heap.IsList l1 xs → s.heap.IsList l2 ys →
      s.heap.get? S = some { cls := .type "list", dict := none, data := .seq acc c, slots := #[] } → PairsAt s.heap S xs ys acc i →
      (∀ h' acc' c', KeptBut z TO i1 i2 S s.heap h' → h'.get? S = some { cls := .type "list", dict := none, data := .seq acc' c', slots := #[] } → PairsAt h' S xs ys acc' n → R (.ok (.ret .none)) { s with heap := h' }) →
      codeAny (model prog w) A (.builtin "list.extend.loop" ⟨[.ref S, .ref z, .none], []⟩) R s := by
  obtain ⟨z0, TI0, TO0, i10, i20, l10, l20⟩ := hS
  have a1 : z ≠ S := Nat.ne_of_lt z0
  have a2 : TI ≠ S := Nat.ne_of_lt TI0
  have a3 : TO ≠ S := Nat.ne_of_lt TO0
  have a4 : i1 ≠ S := Nat.ne_of_lt i10
  have a5 : i2 ≠ S := Nat.ne_of_lt i20
  have a6 : l1 ≠ S := Nat.ne_of_lt l10
  have a7 : l2 ≠ S := Nat.ne_of_lt l20
  intro k
  induction k with
  | zero =>
    intro i s acc c hk hi hz hTI h1 h2 hl1 hl2 hSo hacc hR
    have hin : i = n := by omega
    subst hin
    refine codeAny_builtin F.entry_extend_loop ?_
    rw [Around.under_plainId F.plain_extend_loop _]
    show wpAny _ A.in1 (pyNext (.ref z) >>= _) _ _ s
    have he : xs[i]? = none ∨ ys[i]? = none := .inl (Array.getElem?_eq_none (by omega))
    rcases hz with ⟨hz, a, b, hTO⟩ | ⟨T, f, oT, hz, hT⟩
    · refine wpAny_bind (wpAny_pyNext_zip_end hh D hz hTI hTO h1 h2 hl1 hl2 he fun h' hkp => ?_)
      exact wpAny_pure (hR h' acc c (fun b o b1 b2 b3 b4 b5 e => hkp b o b1 b2 b3 b4 e) (hkp S _ a1.symm a3.symm a4.symm a5.symm hSo) (hacc.keep fun b o hb e => hkp b o (Nat.ne_of_gt (Nat.lt_trans z0 hb)) (Nat.ne_of_gt (Nat.lt_trans TO0 hb)) (Nat.ne_of_gt (Nat.lt_trans i10 hb)) (Nat.ne_of_gt (Nat.lt_trans i20 hb)) e))
    · refine wpAny_bind (wpAny_pyNext_zip_end_held hh D hz hT hTI h1 h2 hl1 hl2 he fun h' hkp => ?_)
      exact wpAny_pure (hR h' acc c (fun b o b1 b2 b3 b4 b5 e => hkp b o b1 b3 b4 e) (hkp S _ a1.symm a4.symm a5.symm hSo) (hacc.keep fun b o hb e => hkp b o (Nat.ne_of_gt (Nat.lt_trans z0 hb)) (Nat.ne_of_gt (Nat.lt_trans i10 hb)) (Nat.ne_of_gt (Nat.lt_trans i20 hb)) e))
  | succ k ih =>
    intro i s acc c hk hi hz hTI h1 h2 hl1 hl2 hSo hacc hR
    have hlt : i < n := by omega
    have hix : xs[i]? = some xs[i] := Array.getElem?_eq_getElem (by omega)
    have hiy : ys[i]? = some ys[i] := Array.getElem?_eq_getElem (by omega)
    refine codeAny_builtin F.entry_extend_loop ?_
    rw [Around.under_plainId F.plain_extend_loop _]
    show wpAny _ A.in1 (pyNext (.ref z) >>= _) _ _ s
    have sT : S < s.heap.objs.size := Heap.lt_size hSo
    -- behind the draw
    have go : ∀ h', ZipAt h' z TI TO → IsPair h' TI (.ref i1) (.ref i2) → h'.IsListIter i1 l1 (i + 1) → h'.IsListIter i2 l2 (i + 1) → IsPair h' s.heap.objs.size xs[i] ys[i] → h'.objs.size = s.heap.objs.size + 1 →
        (∀ b o, b ≠ z → b ≠ TO → b ≠ i1 → b ≠ i2 → s.heap.get? b = some o → h'.get? b = some o) →
        wpAny (model prog w) A.in1 (updateSeq S (·.push (.ref s.heap.objs.size)) >>= fun _ => again (.builtin "list.extend.loop" ⟨[.ref S, .ref z, .none], []⟩)) (fun fin s' => match fin with | .done f => R (.ok f) s' | .again c' => c'.quiet = true ∧ codeAny (model prog w) A c' R s') (fun e s' => R (.error e) s') { s with heap := h' } := by
      intro h' hz' hTI' h1' h2' hT' hsz hkp
      have hS' := hkp S _ a1.symm a3.symm a4.symm a5.symm hSo
      refine wpAny_bind ?_
      refine wpAny_updateSeq (s := { s with heap := h' }) hS' rfl (wpAny_pure ⟨plainId_quiet F.plain_extend_loop _, ?_⟩) (by rw [hacc.1]; omega) (by show (acc.push _).size ≤ sizeLine + 1; rw [Array.size_push, hacc.1]; omega)
      have oth : ∀ b o, b ≠ S → h'.get? b = some o → (h'.update S (Obj.mapSeq (·.push (.ref s.heap.objs.size)))).get? b = some o := fun b o hb e => (Heap.get?_update_other _ _ (Ne.symm hb)).trans e
      have nS : s.heap.objs.size ≠ S := Nat.ne_of_gt sT
      refine ih (i + 1) _ (acc.push (.ref s.heap.objs.size)) _ (by omega) hlt ?_ (oth _ _ a2 hTI') (h1'.at fun o e => oth _ o a4 e) (h2'.at fun o e => oth _ o a5 e) ?_ ?_ (Heap.get?_update_self _ hS' rfl) ?_ ?_
      · rcases hz' with ⟨e1, a, b, e2⟩ | ⟨T, f, oT, e1, e2⟩
        · exact .inl ⟨oth _ _ a1 e1, a, b, oth _ _ a3 e2⟩
        · by_cases hTS : T = S
          · exact .inr ⟨T, f, _, oth _ _ a1 e1, by rw [hTS]; exact Heap.get?_update_self _ hS' rfl⟩
          · exact .inr ⟨T, f, oT, oth _ _ a1 e1, oth _ _ hTS e2⟩
      · exact (hl1.at fun o e => hkp _ o D.l1z D.l1TO D.l1i1 D.l1i2 e).at fun o e => oth _ o a6 e
      · exact (hl2.at fun o e => hkp _ o D.l2z D.l2TO D.l2i1 D.l2i2 e).at fun o e => oth _ o a7 e
      · refine (PairsAt.push ?_ sT hix hiy hT').keep fun b o hb e => oth b o (Nat.ne_of_gt hb) e
        exact hacc.keep fun b o hb e => hkp b o (Nat.ne_of_gt (Nat.lt_trans z0 hb)) (Nat.ne_of_gt (Nat.lt_trans TO0 hb)) (Nat.ne_of_gt (Nat.lt_trans i10 hb)) (Nat.ne_of_gt (Nat.lt_trans i20 hb)) e
      · exact fun h'' acc' c' kp e pa => hR h'' acc' c' (fun b o b1 b2 b3 b4 b5 e => kp b o b1 b2 b3 b4 b5 (oth b o b5 (hkp b o b1 b2 b3 b4 e))) e pa
    rcases hz with ⟨hz, a, b, hTO⟩ | ⟨T, f, oT, hz, hT⟩
    · refine wpAny_bind (wpAny_pyNext_zip_item D hz hTI hTO h1 h2 hl1 hl2 hix hiy fun h' b1 b2 b3 b4 b5 b6 b7 => ?_)
      exact go h' (.inr ⟨_, false, _, b1, b5⟩) (b7 _ _ D.TIz D.TITO D.TIi1 D.TIi2 hTI) b3 b4 b5 b6 fun b o c1 c2 c3 c4 e => b7 b o c1 c2 c3 c4 e
    · refine wpAny_bind (wpAny_pyNext_zip_item_held D hz hT hTI h1 h2 hl1 hl2 hix hiy fun h' b1 b3 b4 b5 b6 b7 => ?_)
      refine go h' (.inr ⟨T, true, ?_⟩) (b7 _ _ D.TIz D.TIi1 D.TIi2 hTI) b3 b4 b5 b6 fun b o c1 c2 c3 c4 e => b7 b o c1 c3 c4 e
      by_cases t1 : T = z
      · exact ⟨_, b1, by rw [t1]; exact b1⟩
      · by_cases t2 : T = i1
        · obtain ⟨o, e, _⟩ := b3
          exact ⟨o, b1, by rw [t2]; exact e⟩
        · by_cases t3 : T = i2
          · obtain ⟨o, e, _⟩ := b4
            exact ⟨o, b1, by rw [t3]; exact e⟩
          · exact ⟨oT, b1, b7 _ _ t1 t2 t3 hT⟩
end
section
variable {prog : Program} {w : World} {A : Around} {E : Value → Shared → Prop} {s : Shared} {z TI TO i1 i2 l1 l2 : Addr} {xs ys : Array Value} {n : Nat}
theorem zip_no_len : typeLookup (.type "zip") "__len__" = pure none := by rw [typeLookup_type, builtinLookup_eq_fast]; kernel_rfl
theorem zip_no_hint : typeLookup (.type "zip") "__length_hint__" = pure none := by rw [typeLookup_type, builtinLookup_eq_fast]; kernel_rfl
/-- list.__init__ of a zip -/
theorem zip_init {R : Result → Shared → Prop} {S : Addr} (hh : A.handled = none) (D : ZipApart z TI TO i1 i2 l1 l2) (hS : z < S ∧ TI < S ∧ TO < S ∧ i1 < S ∧ i2 < S ∧ l1 < S ∧ l2 < S) (hx : xs.size = n) (hy : ys.size = n) (hn : n ≤ sizeLine)
    (hz : IsZip s.heap z TI TO .none) (hTI : IsPair s.heap TI (.ref i1) (.ref i2)) (hTO : IsPair s.heap TO .none .none) (h1 : s.heap.IsListIter i1 l1 0) (h2 : s.heap.IsListIter i2 l2 0) (hl1 : s.heap.IsList l1 xs) (hl2 : s.heap.IsList l2 ys)
    (hS0 : s.heap.get? S = some { cls := .type "list", data := .seq #[] })
    (hR : ∀ h' acc' c', KeptBut z TO i1 i2 S s.heap h' → h'.get? S = some { cls := .type "list", dict := none, data := .seq acc' c', slots := #[] } → PairsAt h' S xs ys acc' n → R (.ok (.ret .none)) { s with heap := h' }) :
    wpAny (model prog w) A.in1 (Builtin.«list.__init__» ⟨[.ref S, .ref z], []⟩)
      (fun fin s' => match fin with | .done f => R (.ok f) s' | .again c' => c'.quiet = true ∧ codeAny (model prog w) A c' R s') (fun e s' => R (.error e) s') s := by
  obtain ⟨z0, TI0, TO0, i10, i20, l10, l20⟩ := id hS
  show wpAny _ _ (do let old ← Builtin.List.listItems (.ref S); Builtin.List.listUpdate (.ref S) (fun _ => #[]); letGo old.toList.reverse; Builtin.List.listExtendWith (.ref S) (.ref z) .none) _ _ s
  refine wpAny_bind ?_
  unfold Builtin.List.listItems
  refine wpAny_bind (wpAny_seqItems hS0 rfl (wpAny_pure ?_))
  show wpAny _ _ (updateSeq S (fun _ => #[]) >>= fun _ => letGo (#[] : Array Value).toList.reverse >>= fun _ => Builtin.List.listExtendWith (.ref S) (.ref z) .none) _ _ s
  refine wpAny_bind (wpAny_updateSeq hS0 rfl ?_)
  have hS1 := Heap.get?_update_self (Obj.mapSeq (fun _ => (#[] : Array Value))) hS0 rfl
  generalize hh1 : s.heap.update S (Obj.mapSeq (fun _ => (#[] : Array Value))) = g1 at hS1 ⊢
  have o1 : ∀ b o, b ≠ S → s.heap.get? b = some o → g1.get? b = some o := fun b o hb e => by
    rw [← hh1]
    exact (Heap.get?_update_other _ _ (Ne.symm hb)).trans e
  refine wpAny_bind (wpAny_letGo ?_)
  have ne : ∀ {b : Addr}, b < S → b ≠ S := fun e => Nat.ne_of_lt e
  have hz1 := o1 _ _ (ne z0) hz
  have hT : ({ s with heap := g1 } : Shared).TypeIs (.ref z) "zip" := ⟨_, hz1, rfl⟩
  unfold Builtin.List.listExtendWith
  refine wpAny_bind (wpAny_typeOf hT ?_)
  have f1 : Builtin.List.listSameRef (.ref S) (.ref z) = false := by simp [Builtin.List.listSameRef, (ne z0).symm]
  have f2 : (Value.type "zip" == Value.type "list") = false := by decide
  have f3 : (Value.type "zip" == Value.type "tuple") = false := by decide
  simp only [f1, f2, f3, Bool.or_false, Bool.false_eq_true, if_false]
  refine wpAny_bind (wpAny_pyIter_zip hz1 ?_)
  refine wpAny_bind (wpAny_holding ?_)
  unfold Builtin.List.listLengthHint
  refine wpAny_bind (wpAny_specialOf hT zip_no_len ?_)
  show wpAny _ A.in1 (specialOf (Value.ref z) (Str.ofString "__length_hint__") >>= _) _ _ _
  refine wpAny_bind (wpAny_specialOf hT zip_no_hint ?_)
  refine wpAny_pure ?_
  show wpAny _ A.in1 (rule "list.extend.makes-room" >>= fun _ => Builtin.List.listTouch (.ref S) >>= fun _ => again (.builtin "list.extend.loop" ⟨[.ref S, .ref z, .none], []⟩)) _ _ _
  refine wpAny_bind (wpAny_rule (wpAny_bind ?_))
  show wpAny _ A.in1 (updateSeq S (·.push .none) >>= fun _ => updateSeq S (·.pop)) _ _ _
  refine wpAny_bind (wpAny_updateSeq hS1 rfl ?_)
  have hS2 := Heap.get?_update_self (Obj.mapSeq (·.push Value.none)) hS1 rfl
  generalize hh2 : g1.update S (Obj.mapSeq (·.push Value.none)) = g2 at hS2 ⊢
  refine wpAny_updateSeq hS2 rfl ?_
  have hS3 := Heap.get?_update_self (Obj.mapSeq (·.pop)) hS2 rfl
  generalize hh3 : g2.update S (Obj.mapSeq (·.pop)) = g3 at hS3 ⊢
  have o3 : ∀ b o, b ≠ S → s.heap.get? b = some o → g3.get? b = some o := fun b o hb e => by
    rw [← hh3]
    refine (Heap.get?_update_other _ _ (Ne.symm hb)).trans ?_
    rw [← hh2]
    exact (Heap.get?_update_other _ _ (Ne.symm hb)).trans (o1 b o hb e)
  refine wpAny_pure ⟨plainId_quiet F.plain_extend_loop _, zip_loop hh D hS hx hy hn n 0 _ _ _ rfl (Nat.zero_le _) (.inl ⟨o3 _ _ (ne z0) hz, _, _, o3 _ _ (ne TO0) hTO⟩) (o3 _ _ (ne TI0) hTI)
    (h1.at fun o e => o3 _ o (ne i10) e) (h2.at fun o e => o3 _ o (ne i20) e) (hl1.at fun o e => o3 _ o (ne l10) e) (hl2.at fun o e => o3 _ o (ne l20) e) hS3 ⟨rfl, fun j u e => by simp at e⟩ fun h' acc' c' kp e pa => ?_⟩
  exact hR h' acc' c' (fun b o b1 b2 b3 b4 b5 e => kp b o b1 b2 b3 b4 b5 (o3 b o b5 e)) e pa
theorem call_list_zip {Q : Value → Shared → Prop} (hh : A.handled = none) (D : ZipApart z TI TO i1 i2 l1 l2) (hx : xs.size = n) (hy : ys.size = n) (hn : n ≤ sizeLine)
    (hz : IsZip s.heap z TI TO .none) (hTI : IsPair s.heap TI (.ref i1) (.ref i2)) (hTO : IsPair s.heap TO .none .none) (h1 : s.heap.IsListIter i1 l1 0) (h2 : s.heap.IsListIter i2 l2 0) (hl1 : s.heap.IsList l1 xs) (hl2 : s.heap.IsList l2 ys)
    (hQ : ∀ h' acc' c', (∀ b o, b ≠ z → b ≠ TO → b ≠ i1 → b ≠ i2 → s.heap.get? b = some o → h'.get? b = some o) → h'.get? s.heap.objs.size = some { cls := .type "list", dict := none, data := .seq acc' c', slots := #[] } →
      PairsAt h' s.heap.objs.size xs ys acc' n → Q (.ref s.heap.objs.size) { s with heap := h' }) : wpAny (model prog w) A (call (.type "list") [.ref z]) Q E s := by
  have lt : ∀ {b : Addr} {o : Obj}, s.heap.get? b = some o → b < s.heap.objs.size := fun e => Heap.lt_size e
  have hS : z < s.heap.objs.size ∧ TI < s.heap.objs.size ∧ TO < s.heap.objs.size ∧ i1 < s.heap.objs.size ∧ i2 < s.heap.objs.size ∧ l1 < s.heap.objs.size ∧ l2 < s.heap.objs.size := by
    obtain ⟨o1, e1, _⟩ := id h1
    obtain ⟨o2, e2, _⟩ := id h2
    obtain ⟨o3, e3, _⟩ := id hl1
    obtain ⟨o4, e4, _⟩ := id hl2
    exact ⟨lt hz, lt hTI, lt hTO, lt e1, lt e2, lt e3, lt e4⟩
  refine callType_codes (Q₁ := fun obj s₁ => obj = .ref s.heap.objs.size ∧ s₁ = { s with heap := s.heap.push { cls := .type "list", data := .seq #[] } }) F.called_list (F.typeCall_list_1 _) F.entry_list_init
    (code_list_new _ ⟨rfl, rfl⟩) fun obj s₁ h₁ => ?_
  obtain ⟨rfl, rfl⟩ := h₁
  have up : ∀ {b : Addr} {o : Obj}, s.heap.get? b = some o → (s.heap.push { cls := .type "list", data := .seq #[] }).get? b = some o := fun e => Heap.get?_push_of_some _ e
  have hS0 : (s.heap.push { cls := .type "list", data := .seq #[] }).get? s.heap.objs.size = some { cls := .type "list", data := .seq #[] } := Heap.get?_push_size _ rfl
  refine ⟨⟨_, hS0, rfl⟩, F.args_list_init_2 _ _, zip_init hh D hS hx hy hn (up hz) (up hTI) (up hTO) (h1.at fun o e => up e) (h2.at fun o e => up e) (hl1.at fun o e => up e) (hl2.at fun o e => up e) hS0 fun h' acc' c' kp e pa => ?_⟩
  exact ⟨rfl, hQ h' acc' c' (fun b o b1 b2 b3 b4 e => kp b o b1 b2 b3 b4 (Nat.ne_of_lt (lt e)) (up e)) e pa⟩
end

/-! ### over the layer -/
section
variable {X : Cx} {pins : List (Addr × Obj)} {σ : L2.St} {H : Hp} {s : Shared} {h' : Heap}
/-- new objects laid and tracked, many at once -/
def plus (H N : Hp) : Hp := fun b => match H b with
  | some o => some o
  | none => N b
theorem plus_old {H N : Hp} {b : Addr} {o : HO} (e : H b = some o) : plus H N b = some o := by
  unfold plus
  rw [e]
theorem plus_new {H N : Hp} {b : Addr} (e : H b = none) : plus H N b = N b := by
  unfold plus
  rw [e]
theorem inv_news {t' : Nat} (I : Inv X pins σ H s) (k : ∀ b u, s.heap.get? b = some u → h'.get? b = some u) (N : Hp) (hN : ∀ b o, N b = some o → s.heap.objs.size ≤ b ∧ ObjOk X.prog X.w (plus H N) h' b o) :
    Inv X pins σ (plus H N) { s with heap := h', toks := t' } := by
  have old : ∀ {b : Addr} {o : Obj}, s.heap.get? b = some o → N b = none := fun {b o} e => by
    cases q : N b with
    | none => rfl
    | some u => exact absurd (Nat.lt_of_lt_of_le (Heap.lt_size e) (hN b u q).1) (Nat.lt_irrefl _)
  refine I.un (t' := t') ⟨fun b u q _ _ _ => k b u q, fun b u q _ _ _ => ⟨u.slots, k b u q⟩, fun b u q n _ => ?_, fun b u q _ => ⟨u, k b u q⟩, fun b xs q => plus_old q, fun b u xs q => plus_old q, fun b ps q => ⟨#[], by rw [plus_old q]; simp⟩⟩ fun b o e => ?_
  · rw [plus_new n]
    exact old q
  · cases hb : H b with
    | some u =>
      rw [plus_old hb] at e
      cases e
      exact (I.hok b o hb).stay (fun c v _ q => k c v q) (fun c q => plus_old q) fun c xs q => plus_old q
    | none =>
      rw [plus_new hb] at e
      exact (hN b o e).2
theorem relV_one {v v' : V} {u : Value} (h : L2.RelV v u) (h' : L2.RelV v' u) : v = v' := by
  cases v <;> cases v' <;> simp_all [L2.RelV] <;> (obtain ⟨t, h⟩ := h; simp_all)
def refOf : Value → Addr
  | .ref a => a
  | _ => 0
def tListZip (K : PySem.W.Frag) (t : TA) : TE := fun σ H Q => t σ H fun vs H1 => ∃ (a b : Addr) (xs ys : List V), vs = [.ref a, .ref b] ∧ SqL K H1 a xs ∧ SqL K H1 b ys ∧ xs.length = ys.length ∧
  ∀ (p : Addr) (Ts : List Addr) (H' : Hp), H1 p = none → Same H1 H' → H' p = some (.lst (Ts.map V.ref)) → Ts.length = xs.length →
    (∀ (j : Nat) (T : Addr), Ts[j]? = some T → ∃ x y, xs[j]? = some x ∧ ys[j]? = some y ∧ H' T = some (.tup [x, y])) → Q (.ref p) H'
theorem pe_listZip {K : PySem.W.Frag} {a b : Expr} {t : TA} {p p2 pos pos2 : Pos} (hK : X.K = K) (hc : X.calm = true) (hg : Gl X "list") (hm : X.mg "list" = none) (hg2 : Gl X "zip") (hm2 : X.mg "zip" = none) (ha : PA X [a, b] t)
    (na : starEach [Expr.Call (.Name "zip" p2) [a, b] [] pos2] X.env = (false, eval (.Call (.Name "zip" p2) [a, b] [] pos2) X.env) :: starEach [] X.env := by rfl)
    (hs : starEach [a, b] X.env = (false, eval a X.env) :: starEach [b] X.env := by rfl) (hpl : (backTo pos2 (starEach [b] X.env)).any (·.1) = false := by rfl) :
    PE X (.Call (.Name "list" p) [.Call (.Name "zip" p2) [a, b] [] pos2] [] pos) (tListZip K t) := by
  subst hK
  refine ⟨fun pins s σ H Q I h => ?_⟩
  refine Call_ (ld_blt I hg hm boot_list (PyProof.Rows.callWith_type1 (args_cons ?_ na) na))
  refine Call_ (ld_blt I hg2 hm2 PyProof.Rows.boot_zip (PyProof.Rows.callWith_type1 (thn (ha.run pos2 pins s σ H _ I h) fun us s1 ⟨vs, H1, I1, r1, q1⟩ => ?_) hs hpl))
  obtain ⟨a1, b1, xs, ys, rfl, hqx, hqy, hlen, q⟩ := q1
  cases r1 with
  | cons r rr =>
    cases rr with
    | cons r' rr =>
      cases rr
      cases r
      cases r'
      obtain ⟨its, rv, p1, hz1⟩ := I1.list hqx
      obtain ⟨its2, rv2, p22, _⟩ := I1.list hqy
      have la : a1 < s1.heap.objs.size := p1.lt
      have lb : b1 < s1.heap.objs.size := p22.lt
      refine call_zip_2 p1.isList p22.isList fun h1 hz hTI hTO hi1 hi2 hsz hk => args_nil ?_
      have e1 := rv.length
      have e2 := rv2.length
      refine call_list_zip (n := xs.length) (I1.ok.hd hc) (PySem.W.ktu_apart s1.heap.objs.size a1 b1 la lb) (by rw [List.size_toArray]; exact e1.symm) (by rw [List.size_toArray]; omega) hz1 hz hTI hTO hi1 hi2 (p1.isList.at fun o e => hk _ o e) (p22.isList.at fun o e => hk _ o e) fun h2 acc c kp eS pa => ?_
      have kept : ∀ b o, s1.heap.get? b = some o → h2.get? b = some o := fun b o e => by
        have lt := Heap.lt_size e
        exact kp b o (Nat.ne_of_lt (Nat.lt_of_lt_of_le lt (Nat.le_add_right _ _))) (Nat.ne_of_lt (Nat.lt_of_lt_of_le lt (Nat.le_add_right _ _))) (Nat.ne_of_lt lt) (Nat.ne_of_lt (Nat.lt_of_lt_of_le lt (Nat.le_add_right _ _))) (hk b o e)
      have hS : s1.heap.objs.size ≤ h1.objs.size := by omega
      obtain ⟨pl, pi⟩ := pa
      generalize hT : acc.toList.map refOf = Ts
      have tl : Ts.length = xs.length := by
        rw [← hT, List.length_map, Array.length_toList]
        exact pl
      have tat : ∀ (j : Nat) (T : Addr), Ts[j]? = some T → ∃ (x y : Value), acc.toList[j]? = some (.ref T) ∧ h1.objs.size < T ∧ its[j]? = some x ∧ its2[j]? = some y ∧ IsPair h2 T x y := fun j T e => by
        rw [← hT, List.getElem?_map] at e
        cases e3 : acc.toList[j]? with
        | none =>
          rw [e3] at e
          cases e
        | some u =>
          rw [e3] at e
          obtain ⟨T', x, y, rfl, g1, g2, g3, g4⟩ := pi j u (by rw [← Array.getElem?_toList]; exact e3)
          cases e
          exact ⟨x, y, rfl, g1, by simpa using g2, by simpa using g3, g4⟩
      have vr : Vals (Ts.map V.ref) acc.toList := by
        rw [← hT]
        have : ∀ l : List Value, (∀ u ∈ l, ∃ T : Addr, u = Value.ref T) → Vals ((l.map refOf).map V.ref) l := by
          intro l
          induction l with
          | nil => exact fun _ => .nil
          | cons u l ih =>
            intro hu
            obtain ⟨T, rfl⟩ := hu u List.mem_cons_self
            exact .cons rfl (ih fun v hv => hu v (List.mem_cons_of_mem _ hv))
        refine this _ fun u hu => ?_
        obtain ⟨j, hj, rfl⟩ := List.mem_iff_getElem.mp hu
        obtain ⟨T, _, _, e, _⟩ := pi j acc.toList[j] (by rw [← Array.getElem?_toList]; exact List.getElem?_eq_getElem hj)
        exact ⟨T, e⟩
      -- what is new
      generalize hN : (fun b => if b = h1.objs.size then some (HO.lst (Ts.map V.ref)) else if b ∈ Ts then some (HO.tup [xs.getD (Ts.idxOf b) .non, ys.getD (Ts.idxOf b) .non]) else none : Hp) = N
      have nS : N h1.objs.size = some (.lst (Ts.map V.ref)) := by
        rw [← hN]
        exact if_pos rfl
      have item : ∀ (j : Nat) (T : Addr), Ts[j]? = some T → ∃ x y, xs[j]? = some x ∧ ys[j]? = some y ∧ N T = some (.tup [x, y]) ∧ s1.heap.objs.size ≤ T ∧ ∃ its3 : List Value, Vals [x, y] its3 ∧ IsTup h2 T its3.toArray := fun j T e => by
        obtain ⟨x, y, _, g1, g2, g3, g4⟩ := tat j T e
        have jl : j < xs.length := by
          have := (List.getElem?_eq_some_iff.mp e).1
          omega
        have gx : xs[j]? = some xs[j] := List.getElem?_eq_getElem jl
        have gy : ys[j]? = some (ys[j]'(by omega)) := List.getElem?_eq_getElem (by omega)
        obtain ⟨x', ex', rx⟩ := rv.get gx
        obtain ⟨y', ey', ry⟩ := rv2.get gy
        rw [g2] at ex'
        rw [g3] at ey'
        cases ex'
        cases ey'
        refine ⟨_, _, gx, gy, ?_, Nat.le_of_lt (Nat.lt_of_le_of_lt hS g1), [x, y], .cons rx (.cons ry .nil), ⟨_, g4, rfl, _, rfl⟩⟩
        have hmem : T ∈ Ts := List.mem_of_getElem? e
        rw [← hN]
        show (if T = h1.objs.size then _ else if T ∈ Ts then _ else _) = _
        rw [if_neg (Nat.ne_of_gt g1), if_pos hmem]
        -- the first place of T bears the same pair
        have il : Ts.idxOf T < Ts.length := List.idxOf_lt_length_iff.mpr hmem
        have ie : Ts[Ts.idxOf T]? = some T := by
          rw [List.getElem?_eq_getElem il, List.getElem_idxOf il]
        obtain ⟨x2, y2, _, _, k2, k3, k4⟩ := tat _ T ie
        have e4 : (#[x, y] : Array Value) = #[x2, y2] := by
          have z : some ({ cls := .type "tuple", data := .seq #[x, y] } : Obj) = some { cls := .type "tuple", data := .seq #[x2, y2] } := g4.symm.trans k4
          injection z with z
          injection z with _ _ z
          injection z
        have gx2 : xs[Ts.idxOf T]? = some (xs[Ts.idxOf T]'(by omega)) := List.getElem?_eq_getElem (by omega)
        have gy2 : ys[Ts.idxOf T]? = some (ys[Ts.idxOf T]'(by omega)) := List.getElem?_eq_getElem (by omega)
        obtain ⟨u, eu, ru⟩ := rv.get gx2
        obtain ⟨v, ev, rw2⟩ := rv2.get gy2
        rw [k2] at eu
        rw [k3] at ev
        cases eu
        cases ev
        injection e4 with e4
        injection e4 with h5 h6
        injection h6 with h6 _
        subst h5 h6
        have q1 := relV_one ru rx
        have q2 := relV_one rw2 ry
        rw [List.getD_eq_getElem?_getD, List.getD_eq_getElem?_getD, gx2, gy2, ← q1, ← q2]
        rfl
      have inN : ∀ b o, N b = some o → b = h1.objs.size ∨ b ∈ Ts := fun b o e => by
        rw [← hN] at e
        by_cases hb : b = h1.objs.size
        · exact .inl hb
        · by_cases hm : b ∈ Ts
          · exact .inr hm
          · have e' : (if b = h1.objs.size then some (HO.lst (Ts.map V.ref)) else if b ∈ Ts then some (HO.tup [xs.getD (Ts.idxOf b) .non, ys.getD (Ts.idxOf b) .non]) else none) = some o := e
            rw [if_neg hb, if_neg hm] at e'
            cases e'
      have J : Inv X pins σ (plus H1 N) { s1 with heap := h2 } := inv_news (t' := s1.toks) I1 kept N fun b o e => by
        rcases inN b o e with rfl | hm
        · rw [nS] at e
          cases e
          exact ⟨hS, by rw [List.length_map, tl]; exact hz1, acc.toList, c, vr, by rw [Array.toArray_toList]; exact eS⟩
        · obtain ⟨j, hj, rfl⟩ := List.mem_iff_getElem.mp hm
          obtain ⟨x, y, _, _, e5, le, its3, v3, t3⟩ := item j _ (List.getElem?_eq_getElem hj)
          rw [e5] at e
          cases e
          exact ⟨le, by show 2 ≤ sizeLine; rw [sizeLine_eq]; decide, its3, v3, t3⟩
      refine ⟨.ref h1.objs.size, plus H1 N, J, rfl, q h1.objs.size Ts _ (I1.hok.fresh hS) (fun b o e => plus_old e) ?_ tl fun j T e => ?_⟩
      · rw [plus_new (I1.hok.fresh hS)]
        exact nS
      · obtain ⟨x, y, g1, g2, g3, le, _⟩ := item j T e
        exact ⟨x, y, g1, g2, by rw [plus_new (I1.hok.fresh le)]; exact g3⟩
end
end KT

/-! Fractions, what two times ask, the least width. -/
namespace KT
open PySem PySem.Spec PyProof.Rows L2
/-! ### lowest terms -/
abbrev Fr := Int × Int
def gI (t b : Int) : Int := (Int.gcd t b : Int)
def lowF (t b : Int) : Fr := (t / gI t b, b / gI t b)
theorem gI_pos {t b : Int} (hb : 0 < b) : 0 < gI t b := by
  have : 0 < Int.gcd t b := Int.gcd_pos_of_ne_zero_right t (by omega)
  unfold gI
  omega
theorem gI_le {t b : Int} (hb : 0 < b) : gI t b ≤ b := Int.le_of_dvd hb (Int.gcd_dvd_right ..)
theorem low_top (t b : Int) : gI t b * (lowF t b).1 = t := Int.mul_ediv_cancel' (Int.gcd_dvd_left ..)
theorem low_bot (t b : Int) : gI t b * (lowF t b).2 = b := Int.mul_ediv_cancel' (Int.gcd_dvd_right ..)
theorem low_pos {t b : Int} (hb : 0 < b) : 0 < (lowF t b).2 := by
  have h := low_bot t b
  have g := gI_pos (t := t) hb
  have p : 0 < gI t b * (lowF t b).2 := by rw [h]; exact hb
  exact Int.pos_of_mul_pos_right p g
theorem low_top_abs (t b : Int) (hb : 0 < b) : (lowF t b).1.natAbs ≤ t.natAbs := by
  have h := congrArg Int.natAbs (low_top t b)
  rw [Int.natAbs_mul] at h
  have g := gI_pos (t := t) hb
  have g1 : 1 ≤ (gI t b).natAbs := by omega
  rw [← h]
  exact Nat.le_mul_of_pos_left _ g1
theorem low_bot_le {t b : Int} (hb : 0 < b) : (lowF t b).2 ≤ b := Int.ediv_le_self _ (Int.le_of_lt hb)
/-- comparing by cross products does not see a common factor -/
theorem low_lt {t b t' b' : Int} (hb : 0 < b) (hb' : 0 < b') : (lowF t b).1 * (lowF t' b').2 < (lowF t' b').1 * (lowF t b).2 ↔ t * b' < t' * b := by
  have g := gI_pos (t := t) hb
  have g' := gI_pos (t := t') hb'
  have e1 : t * b' = (gI t b * gI t' b') * ((lowF t b).1 * (lowF t' b').2) := by
    conv => lhs; rw [← low_top t b, ← low_bot t' b']
    simp only [Int.mul_assoc, Int.mul_left_comm, Int.mul_comm]
  have e2 : t' * b = (gI t b * gI t' b') * ((lowF t' b').1 * (lowF t b).2) := by
    conv => lhs; rw [← low_top t' b', ← low_bot t b]
    simp only [Int.mul_assoc, Int.mul_left_comm, Int.mul_comm]
  rw [e1, e2]
  exact (Int.mul_lt_mul_left (Int.mul_pos g g')).symm
theorem low_zero : lowF 0 1 = (0, 1) := by decide
theorem low_low {t b : Int} (hb : 0 < b) : lowF (lowF t b).1 (lowF t b).2 = lowF t b := by
  have g := gI_pos (t := t) hb
  have h : gI (lowF t b).1 (lowF t b).2 = 1 := by
    unfold gI lowF gI
    have := Int.gcd_ediv_gcd_ediv_gcd (i := t) (j := b) (by
      have : 0 < Int.gcd t b := Int.gcd_pos_of_ne_zero_right t (by omega)
      exact this)
    rw [this]
    rfl
  unfold lowF at h ⊢
  simp only at h ⊢
  rw [h]
  simp
/-! ### what two times ask -/
def at_ (l : List Int) (i : Nat) : Int := l.getD i 0
theorem at_get {l : List Int} {i : Nat} {z : Int} (h : l[i]? = some z) : at_ l i = z := by
  unfold at_
  rw [List.getD_eq_getElem?_getD, h]
  rfl
theorem get_at {l : List Int} {i : Nat} (h : i < l.length) : l[i]? = some (at_ l i) := by
  rw [List.getElem?_eq_getElem h, at_get (List.getElem?_eq_getElem h)]
def askT (ts ks : List Int) (i j : Nat) : Int := at_ ts i * at_ ks j - at_ ts j * at_ ks i
def askB (ts : List Int) (i j : Nat) : Int := at_ ts i + at_ ts j
/-- all pairs of numbers, in order -/
def pairs (n : Nat) : List (Nat × Nat) := (List.range n).flatMap fun i => (List.range n).map fun j => (i, j)
/-- the greatest so far, with the pair that asks it first -/
abbrev Best := (Int × Int) × (Nat × Nat)
def stepB (ts ks : List Int) (s : Best) (p : Nat × Nat) : Best :=
  if s.1.1 * askB ts p.1 p.2 < askT ts ks p.1 p.2 * s.1.2 then ((askT ts ks p.1 p.2, askB ts p.1 p.2), p) else s
def bestOf (ts ks : List Int) : Best := (pairs ts.length).foldl (stepB ts ks) ((0, 1), (0, 0))
/-- the least width, in lowest terms, and its pair -/
def widthOf (ts ks : List Int) : Fr × (Nat × Nat) := (lowF (bestOf ts ks).1.1 (bestOf ts ks).1.2, (bestOf ts ks).2)
/-- times and a reading of them -/
structure TR (ts ks : List Int) : Prop where
  t : ∀ (i : Nat) (z : Int), ts[i]? = some z → 1 ≤ z ∧ z ≤ 9999
  k : ∀ (i : Nat) (z : Int), ks[i]? = some z → z = 1 ∨ z = 3 ∨ z = 7
  len : ks.length = ts.length
  le : ts.length ≤ 25
section
variable {ts ks : List Int} {i j : Nat}
theorem TR.ti (h : TR ts ks) (hi : i < ts.length) : 1 ≤ at_ ts i ∧ at_ ts i ≤ 9999 := h.t i _ (get_at hi)
theorem TR.ki (h : TR ts ks) (hi : i < ts.length) : at_ ks i = 1 ∨ at_ ks i = 3 ∨ at_ ks i = 7 := h.k i _ (get_at (by rw [h.len]; exact hi))
theorem TR.bot (h : TR ts ks) (hi : i < ts.length) (hj : j < ts.length) : 0 < askB ts i j ∧ askB ts i j ≤ 19998 := by
  have a := h.ti hi
  have b := h.ti hj
  unfold askB
  omega
theorem TR.top (h : TR ts ks) (hi : i < ts.length) (hj : j < ts.length) : -100000 ≤ askT ts ks i j ∧ askT ts ks i j ≤ 100000 := by
  have a := h.ti hi
  have b := h.ti hj
  unfold askT
  rcases h.ki hi with e | e | e <;> rcases h.ki hj with f | f | f <;> rw [e, f] <;> omega
/-- what the best so far is -/
structure BestOk (ts ks : List Int) (s : Best) : Prop where
  pos : 0 < s.1.2
  b : s.1.2 ≤ 19998
  t0 : 0 ≤ s.1.1
  t1 : s.1.1 ≤ 100000
  p1 : s.2.1 < ts.length
  p2 : s.2.2 < ts.length
theorem BestOk.start (hn : 0 < ts.length) : BestOk ts ks ((0, 1), (0, 0)) := ⟨by decide, by decide, by decide, by decide, hn, hn⟩
theorem BestOk.step (h : TR ts ks) {s : Best} (o : BestOk ts ks s) {p : Nat × Nat} (h1 : p.1 < ts.length) (h2 : p.2 < ts.length) : BestOk ts ks (stepB ts ks s p) := by
  unfold stepB
  by_cases c : s.1.1 * askB ts p.1 p.2 < askT ts ks p.1 p.2 * s.1.2
  · rw [if_pos c]
    have b := h.bot h1 h2
    have t := h.top h1 h2
    refine ⟨b.1, b.2, ?_, t.2, h1, h2⟩
    have z : 0 ≤ s.1.1 * askB ts p.1 p.2 := Int.mul_nonneg o.t0 (by omega)
    have z2 : 0 < askT ts ks p.1 p.2 * s.1.2 := by omega
    have := Int.pos_of_mul_pos_left z2 o.pos
    exact Int.le_of_lt this
  · rw [if_neg c]
    exact o
theorem mem_pairs {n : Nat} {p : Nat × Nat} : p ∈ pairs n ↔ p.1 < n ∧ p.2 < n := by
  unfold pairs
  rw [List.mem_flatMap]
  constructor
  · rintro ⟨i, hi, hp⟩
    rw [List.mem_map] at hp
    obtain ⟨j, hj, rfl⟩ := hp
    exact ⟨List.mem_range.mp hi, List.mem_range.mp hj⟩
  · intro ⟨h1, h2⟩
    exact ⟨p.1, List.mem_range.mpr h1, List.mem_map.mpr ⟨p.2, List.mem_range.mpr h2, rfl⟩⟩
theorem BestOk.fold (h : TR ts ks) : ∀ (l : List (Nat × Nat)) (s : Best), (∀ p ∈ l, p.1 < ts.length ∧ p.2 < ts.length) → BestOk ts ks s → BestOk ts ks (l.foldl (stepB ts ks) s)
  | [], _, _, o => o
  | p :: l, s, hl, o => BestOk.fold h l _ (fun q hq => hl q (List.mem_cons_of_mem _ hq)) (o.step h (hl p List.mem_cons_self).1 (hl p List.mem_cons_self).2)
theorem best_ok (h : TR ts ks) (hn : 0 < ts.length) : BestOk ts ks (bestOf ts ks) := BestOk.fold h _ _ (fun p hp => mem_pairs.mp hp) (BestOk.start hn)
end
/-! ### the pairs ahead of one -/
def pre (n i j : Nat) : List (Nat × Nat) := ((List.range i).flatMap fun a => (List.range n).map fun b => (a, b)) ++ (List.range j).map fun b => (i, b)
theorem pre_zero (n : Nat) : pre n 0 0 = [] := rfl
theorem pre_succ (n i j : Nat) : pre n i (j + 1) = pre n i j ++ [(i, j)] := by
  unfold pre
  rw [List.range_succ, List.map_append, List.append_assoc]
  rfl
theorem pre_row (n i : Nat) : pre n (i + 1) 0 = pre n i n := by
  unfold pre
  rw [List.range_succ, List.flatMap_append]
  simp
theorem pre_all (n : Nat) : pre n n 0 = pairs n := by
  unfold pre pairs
  simp
theorem mem_pre {n i j : Nat} {p : Nat × Nat} (hi : i ≤ n) (hj : j ≤ n) (hij : i < n ∨ j = 0) (h : p ∈ pre n i j) : p.1 < n ∧ p.2 < n := by
  unfold pre at h
  rcases List.mem_append.mp h with h | h
  · rw [List.mem_flatMap] at h
    obtain ⟨a, ha, hp⟩ := h
    rw [List.mem_map] at hp
    obtain ⟨b, hb, rfl⟩ := hp
    have := List.mem_range.mp ha
    exact ⟨by show a < n; omega, List.mem_range.mp hb⟩
  · rw [List.mem_map] at h
    obtain ⟨b, hb, rfl⟩ := h
    have := List.mem_range.mp hb
    exact ⟨by show i < n; omega, by show b < n; omega⟩
def bestTo (ts ks : List Int) (i j : Nat) : Best := (pre ts.length i j).foldl (stepB ts ks) ((0, 1), (0, 0))
theorem bestTo_zero (ts ks : List Int) : bestTo ts ks 0 0 = ((0, 1), (0, 0)) := rfl
theorem bestTo_succ (ts ks : List Int) (i j : Nat) : bestTo ts ks i (j + 1) = stepB ts ks (bestTo ts ks i j) (i, j) := by
  unfold bestTo
  rw [pre_succ, List.foldl_append]
  rfl
theorem bestTo_row (ts ks : List Int) (i : Nat) : bestTo ts ks (i + 1) 0 = bestTo ts ks i ts.length := by
  unfold bestTo
  rw [pre_row]
theorem bestTo_all (ts ks : List Int) : bestTo ts ks ts.length 0 = bestOf ts ks := by
  unfold bestTo bestOf
  rw [pre_all]
theorem bestTo_ok {ts ks : List Int} (h : TR ts ks) (hn : 0 < ts.length) {i j : Nat} (hi : i ≤ ts.length) (hj : j ≤ ts.length) (hij : i < ts.length ∨ j = 0) : BestOk ts ks (bestTo ts ks i j) :=
  BestOk.fold h _ _ (fun _ hp => mem_pre hi hj hij hp) (BestOk.start hn)
/-! ### promises -/
def frV (f : Fr) : List V := [.int f.1, .int f.2]
def prV (p : Nat × Nat) : List V := [.int (p.1 : Int), .int (p.2 : Int)]
def Sml (z : Int) : Prop := -18446744073709551616 < z ∧ z < 18446744073709551616
def spLow : Sp := fun vs H Q _ => ∃ t b : Int, vs = [.int t, .int b] ∧ 0 < b ∧ b < 1073741824 ∧ ∀ (p : Addr) (H' : Hp), H p = none → Same H H' → H' p = some (.tup (frV (lowF t b))) → Q (.ref p) H'
def spLess (K : PySem.W.Frag) : Sp := fun vs H Q _ => ∃ (p q : Addr) (f g : Fr), vs = [.ref p, .ref q] ∧ SqT K H p (frV f) ∧ SqT K H q (frV g) ∧ Sml f.1 ∧ Sml g.1 ∧ Q (.bl (decide (f.1 * g.2 < g.1 * f.2))) H
/-- times and a reading stand -/
structure TRAt (K : PySem.W.Frag) (H : Hp) (a b : Addr) (ts ks : List Int) : Prop where
  t : SqL K H a (ts.map V.int)
  k : SqL K H b (ks.map V.int)
  ok : TR ts ks
theorem TRAt.same {K : PySem.W.Frag} {H H' : Hp} {a b : Addr} {ts ks : List Int} (h : TRAt K H a b ts ks) (s : Same H H') : TRAt K H' a b ts ks := ⟨s.seq h.t, s.seq h.k, h.ok⟩
def spAsks (K : PySem.W.Frag) : Sp := fun vs H Q _ => ∃ (a b : Addr) (ts ks : List Int) (i j : Nat), vs = [.ref a, .ref b, .int (i : Int), .int (j : Int)] ∧ TRAt K H a b ts ks ∧ i < ts.length ∧ j < ts.length ∧
  ∀ (p : Addr) (H' : Hp), H p = none → Same H H' → H' p = some (.tup (frV (lowF (askT ts ks i j) (askB ts i j)))) → Q (.ref p) H'
/-- a width with its pair at p -/
structure WAt (H : Hp) (p : Addr) (w : Fr × (Nat × Nat)) : Prop where
  ex : ∃ q r : Addr, H p = some (.tup [.ref q, .ref r]) ∧ H q = some (.tup (frV w.1)) ∧ H r = some (.tup (prV w.2))
theorem WAt.same {H H' : Hp} {p : Addr} {w : Fr × (Nat × Nat)} (h : WAt H p w) (s : Same H H') : WAt H' p w := by
  obtain ⟨q, r, a, b, c⟩ := h.ex
  exact ⟨q, r, s _ _ a, s _ _ b, s _ _ c⟩
def spWidthL (K : PySem.W.Frag) : Sp := fun vs H Q _ => ∃ (a b : Addr) (ts ks : List Int), vs = [.ref a, .ref b] ∧ TRAt K H a b ts ks ∧ 0 < ts.length ∧ ∀ (p : Addr) (H' : Hp), Same H H' → WAt H' p (widthOf ts ks) → Q (.ref p) H'
end KT

/-! What the program's defs promise where nothing is refused. -/
namespace KT
open PySem PySem.Spec PyProof.Rows L2
/-- an inner loop of a comprehension -/
theorem lc_in {J : It} {n : Nat} {G : Hp → Prop} {Y : Nat → Hp → V → Hp → Prop} (w : Walk J n G Y) {g : TG} {tt : TT} {te : TE} {vs : List Nat} {σ : L2.St} {H1 : Hp} {D : Addr} {Nx : Hp → Prop} (Pv : Nat → Hp → Prop) (h0 : Pv 0 H1) (hG : ∀ i H, i ≤ n → Pv i H → G H)
    (hs : ∀ i x H H', i < n → Pv i H → Y i H x H' → g x (wipe σ vs) H' fun σ2 H2 => wipe σ2 vs = wipe σ vs ∧ tt σ2 H2 fun b H3 =>
      if b = true then te σ2 H3 fun y H4 => ∃ acc, H4 D = some (.lst acc) ∧ acc.length < sizeLine ∧ Pv (i + 1) (upd H4 D (.lst (acc ++ [y]))) else Pv (i + 1) H3) (hd : ∀ H, Pv n H → Nx H) :
    ∃ W : Nat → Nat → Hp → Prop, (∃ m, W 0 m H1) ∧ ∀ i m H, W i m H →
      (J.stop i H ∧ Nx H) ∨ (J.go i H ∧ ∃ N1 : Hp → Prop, (∀ H', N1 H' → ∃ m', m' < m ∧ W (i + 1) m' H') ∧ ∀ x H', J.yld i H x H' → g x (wipe σ vs) H' fun σ2 H2 => wipe σ2 vs = wipe σ vs ∧ tt σ2 H2 fun b H3 =>
        if b = true then te σ2 H3 fun y H4 => ∃ acc, H4 D = some (.lst acc) ∧ acc.length < sizeLine ∧ N1 (upd H4 D (.lst (acc ++ [y]))) else N1 H3) := by
  refine ⟨fun i m H => m = n - i ∧ i ≤ n ∧ Pv i H, ⟨n, by simp, Nat.zero_le _, h0⟩, ?_⟩
  rintro i m H ⟨rfl, hi, p⟩
  have q := hG i H hi p
  by_cases hlt : i < n
  · exact .inr ⟨w.goes i H hlt q, Pv (i + 1), fun H' p' => ⟨n - (i + 1), by omega, rfl, hlt, p'⟩, fun x H' y => hs i x H H' hlt p (w.yields i H x H' hlt q y)⟩
  · have e : i = n := by omega
    subst e
    exact .inl ⟨w.stops H q, hd H p⟩
/-- an outer loop of a comprehension -/
theorem lc_out {J : It} {n : Nat} {G : Hp → Prop} {Y : Nat → Hp → V → Hp → Prop} (w : Walk J n G Y) {g : TG} {tt : TT} {B : (Hp → Prop) → L2.St → Hp → Prop} {vs : List Nat} {σ : L2.St} {H1 : Hp} {Qd : Hp → Prop} (Pv : Nat → Hp → Prop) (h0 : Pv 0 H1) (hG : ∀ i H, i ≤ n → Pv i H → G H)
    (hs : ∀ i x H H', i < n → Pv i H → Y i H x H' → g x (wipe σ vs) H' fun σ2 H2 => wipe σ2 vs = wipe σ vs ∧ tt σ2 H2 fun b H3 => if b = true then B (Pv (i + 1)) σ2 H3 else Pv (i + 1) H3) (hd : ∀ H, Pv n H → Qd H) :
    ∃ W : Nat → Nat → Hp → Prop, (∃ m, W 0 m H1) ∧ ∀ i m H, W i m H →
      (J.stop i H ∧ Qd H) ∨ (J.go i H ∧ ∃ N1 : Hp → Prop, (∀ H', N1 H' → ∃ m', m' < m ∧ W (i + 1) m' H') ∧ ∀ x H', J.yld i H x H' → g x (wipe σ vs) H' fun σ2 H2 => wipe σ2 vs = wipe σ vs ∧ tt σ2 H2 fun b H3 =>
        if b = true then B N1 σ2 H3 else N1 H3) := by
  refine ⟨fun i m H => m = n - i ∧ i ≤ n ∧ Pv i H, ⟨n, by simp, Nat.zero_le _, h0⟩, ?_⟩
  rintro i m H ⟨rfl, hi, p⟩
  have q := hG i H hi p
  by_cases hlt : i < n
  · exact .inr ⟨w.goes i H hlt q, Pv (i + 1), fun H' p' => ⟨n - (i + 1), by omega, rfl, hlt, p'⟩, fun x H' y => hs i x H H' hlt p (w.yields i H x H' hlt q y)⟩
  · have e : i = n := by omega
    subst e
    exact .inl ⟨w.stops H q, hd H p⟩
/-- an inner loop of a comprehension without a test -/
theorem lc_inY {J : It} {n : Nat} {G : Hp → Prop} {Y : Nat → Hp → V → Hp → Prop} (w : Walk J n G Y) {g : TG} {te : TE} {vs : List Nat} {σ : L2.St} {H1 : Hp} {D : Addr} {Nx : Hp → Prop} (Pv : Nat → Hp → Prop) (h0 : Pv 0 H1) (hG : ∀ i H, i ≤ n → Pv i H → G H)
    (hs : ∀ i x H H', i < n → Pv i H → Y i H x H' → g x (wipe σ vs) H' fun σ2 H2 => wipe σ2 vs = wipe σ vs ∧ te σ2 H2 fun y H4 => ∃ acc, H4 D = some (.lst acc) ∧ acc.length < sizeLine ∧ Pv (i + 1) (upd H4 D (.lst (acc ++ [y])))) (hd : ∀ H, Pv n H → Nx H) :
    ∃ W : Nat → Nat → Hp → Prop, (∃ m, W 0 m H1) ∧ ∀ i m H, W i m H →
      (J.stop i H ∧ Nx H) ∨ (J.go i H ∧ ∃ N1 : Hp → Prop, (∀ H', N1 H' → ∃ m', m' < m ∧ W (i + 1) m' H') ∧ ∀ x H', J.yld i H x H' → g x (wipe σ vs) H' fun σ2 H2 => wipe σ2 vs = wipe σ vs ∧ tYes σ2 H2 fun b H3 =>
        if b = true then te σ2 H3 fun y H4 => ∃ acc, H4 D = some (.lst acc) ∧ acc.length < sizeLine ∧ N1 (upd H4 D (.lst (acc ++ [y]))) else N1 H3) := lc_in (tt := tYes) w Pv h0 hG hs hd
/-- an outer loop of a comprehension without a test -/
theorem lc_outY {J : It} {n : Nat} {G : Hp → Prop} {Y : Nat → Hp → V → Hp → Prop} (w : Walk J n G Y) {g : TG} {B : (Hp → Prop) → L2.St → Hp → Prop} {vs : List Nat} {σ : L2.St} {H1 : Hp} {Qd : Hp → Prop} (Pv : Nat → Hp → Prop) (h0 : Pv 0 H1) (hG : ∀ i H, i ≤ n → Pv i H → G H)
    (hs : ∀ i x H H', i < n → Pv i H → Y i H x H' → g x (wipe σ vs) H' fun σ2 H2 => wipe σ2 vs = wipe σ vs ∧ B (Pv (i + 1)) σ2 H2) (hd : ∀ H, Pv n H → Qd H) :
    ∃ W : Nat → Nat → Hp → Prop, (∃ m, W 0 m H1) ∧ ∀ i m H, W i m H →
      (J.stop i H ∧ Qd H) ∨ (J.go i H ∧ ∃ N1 : Hp → Prop, (∀ H', N1 H' → ∃ m', m' < m ∧ W (i + 1) m' H') ∧ ∀ x H', J.yld i H x H' → g x (wipe σ vs) H' fun σ2 H2 => wipe σ2 vs = wipe σ vs ∧ tYes σ2 H2 fun b H3 =>
        if b = true then B N1 σ2 H3 else N1 H3) := lc_out (tt := tYes) w Pv h0 hG hs hd
theorem stepB_pos {ts ks : List Int} {s : Best} {p : Nat × Nat} (c : s.1.1 * askB ts p.1 p.2 < askT ts ks p.1 p.2 * s.1.2) : stepB ts ks s p = ((askT ts ks p.1 p.2, askB ts p.1 p.2), p) := if_pos c
theorem stepB_neg {ts ks : List Int} {s : Best} {p : Nat × Nat} (c : ¬ s.1.1 * askB ts p.1 p.2 < askT ts ks p.1 p.2 * s.1.2) : stepB ts ks s p = s := if_neg c
theorem Tps.tr {ts ks : List Int} (h : Tps ts) (r : Rdg 0 ks) (l : ks.length = ts.length) : TR ts ks := ⟨h.all, fun i z e => kinds_le (r i z e), l, h.le⟩
theorem Tps.pos {ts : List Int} (h : Tps ts) : 0 < ts.length := by
  have := h.odd
  omega
/-! ### taps -/
def spCheckT (K : PySem.W.Frag) : Sp := fun vs H Q _ => ∃ (a : Addr) (ts : List Int), vs = [.ref a] ∧ SqL K H a (ts.map V.int) ∧ Tps ts ∧ ∀ H', Same H H' → Q .non H'
def tapsF (l : Addr) : List (Str × V) := putF "_times" (.ref l) []
structure TapsAt (C : Addr) (H : Hp) (x l : Addr) (ts : List Int) : Prop where
  ob : ∃ dx, H x = some (.ins C dx (tapsF l))
  ls : H l = some (.lst (ts.map V.int))
theorem TapsAt.same {C : Addr} {H H' : Hp} {x l : Addr} {ts : List Int} (h : TapsAt C H x l ts) (s : Same H H') : TapsAt C H' x l ts := by
  obtain ⟨⟨dx, e⟩, e2⟩ := h
  exact ⟨⟨dx, s _ _ e⟩, s _ _ e2⟩
def spTapsInit (K : PySem.W.Frag) (C : Addr) : Sp := fun vs H Q _ => ∃ (x a dx : Addr) (ts : List Int), vs = [.ref x, .ref a] ∧ H x = some (.ins C dx []) ∧ SqL K H a (ts.map V.int) ∧ Tps ts ∧
  ∀ (l : Addr) (H' : Hp), H l = none → (∀ b o, b ≠ x → H b = some o → H' b = some o) → TapsAt C H' x l ts → Q .non H'
def spTapsTimes (C : Addr) : Sp := fun vs H Q _ => ∃ (x l : Addr) (ts : List Int), vs = [.ref x] ∧ TapsAt C H x l ts ∧ ts.length ≤ 1000 ∧ ∀ (p : Addr) (H' : Hp), H p = none → Same H H' → H' p = some (.lst (ts.map V.int)) → Q (.ref p) H'
/-! ### readings -/
def spCheckR (K : PySem.W.Frag) : Sp := fun vs H Q _ => ∃ (a b : Addr) (ts ks : List Int), vs = [.ref a, .ref b] ∧ SqL K H a (ts.map V.int) ∧ SqL K H b (ks.map V.int) ∧ Rdg 0 ks ∧ ks.length = ts.length ∧ ks.length ≤ 1000 ∧ ∀ H', Same H H' → Q .non H'
/-! ### ratios -/
def spLowest (K : PySem.W.Frag) : Sp := fun vs H Q _ => ∃ (p : Addr) (f : Fr), vs = [.ref p] ∧ SqT K H p (frV f) ∧ 0 < f.2 ∧ f.2 < 1073741824 ∧ ∀ (q : Addr) (H' : Hp), H q = none → Same H H' → H' q = some (.tup (frV (lowF f.1 f.2))) → Q (.ref q) H'
def spAbove (K : PySem.W.Frag) : Sp := fun vs H Q _ => ∃ (p q : Addr) (f g : Fr), vs = [.ref p, .ref q] ∧ SqT K H p (frV f) ∧ SqT K H q (frV g) ∧ Sml f.1 ∧ Sml g.1 ∧ Q (.bl (decide (g.1 * f.2 < f.1 * g.2))) H
/-! ### widths -/
def spAsked (K : PySem.W.Frag) : Sp := fun vs H Q _ => ∃ (p q : Addr) (t k t' k' : Int), vs = [.ref p, .ref q] ∧ SqT K H p [.int t, .int k] ∧ SqT K H q [.int t', .int k'] ∧ Sml t ∧ Sml t' ∧
  ∀ (r : Addr) (H' : Hp), H r = none → Same H H' → H' r = some (.tup (frV (t * k' - t' * k, t + t'))) → Q (.ref r) H'
/-- a list of (pair, ratio) -/
def PAt (ts ks : List Int) (H : Hp) (vs : List V) (l : List (Nat × Nat)) : Prop := vs.length = l.length ∧ ∀ (i : Nat) (p : Nat × Nat), l[i]? = some p → ∃ T q r : Addr, vs[i]? = some (.ref T) ∧ H T = some (.tup [.ref q, .ref r]) ∧ H q = some (.tup (prV p)) ∧ H r = some (.tup (frV (askT ts ks p.1 p.2, askB ts p.1 p.2)))
theorem PAt.same {ts ks : List Int} {H H' : Hp} {vs : List V} {l : List (Nat × Nat)} (h : PAt ts ks H vs l) (s : ∀ b xs, H b = some (.tup xs) → H' b = some (.tup xs)) : PAt ts ks H' vs l := by
  refine ⟨h.1, fun i p e => ?_⟩
  obtain ⟨T, q, r, e1, e2, e3, e4⟩ := h.2 i p e
  exact ⟨T, q, r, e1, s _ _ e2, s _ _ e3, s _ _ e4⟩
theorem PAt.snoc {ts ks : List Int} {H : Hp} {vs : List V} {l : List (Nat × Nat)} {p : Nat × Nat} {T q r : Addr} (h : PAt ts ks H vs l) (e2 : H T = some (.tup [.ref q, .ref r])) (e3 : H q = some (.tup (prV p))) (e4 : H r = some (.tup (frV (askT ts ks p.1 p.2, askB ts p.1 p.2)))) :
    PAt ts ks H (vs ++ [.ref T]) (l ++ [p]) := by
  refine ⟨by rw [List.length_append, List.length_append, h.1]; rfl, fun i u e => ?_⟩
  by_cases hi : i < l.length
  · rw [List.getElem?_append_left hi] at e
    obtain ⟨T', q', r', g1, g2, g3, g4⟩ := h.2 i u e
    exact ⟨T', q', r', by rw [List.getElem?_append_left (by rw [h.1]; exact hi)]; exact g1, g2, g3, g4⟩
  · have e5 : i = l.length := by
      have := (List.getElem?_eq_some_iff.mp e).1
      rw [List.length_append] at this
      simp at this
      omega
    subst e5
    rw [List.getElem?_append_right (Nat.le_refl _), Nat.sub_self] at e
    cases e
    exact ⟨T, q, r, by rw [← h.1, List.getElem?_append_right (Nat.le_refl _), Nat.sub_self]; rfl, e2, e3, e4⟩
theorem pairs_length (n : Nat) : (pairs n).length = n * n := by
  unfold pairs
  rw [List.length_flatMap]
  have : ((List.range n).map fun a => ((List.range n).map fun b => (a, b)).length) = List.replicate n n := by
    apply List.ext_getElem?
    intro i
    rw [List.getElem?_map, List.getElem?_replicate]
    by_cases h : i < n
    · rw [List.getElem?_range h, if_pos h]
      simp
    · rw [if_neg h, List.getElem?_eq_none (by rw [List.length_range]; omega)]
      rfl
  rw [this, List.sum_replicate_nat]
theorem pre_length_le {n i j : Nat} (hi : i ≤ n) (hj : j ≤ n) (hn : n ≤ 25) : (pre n i j).length ≤ 1000 := by
  unfold pre
  rw [List.length_append, List.length_map, List.length_range, List.length_flatMap]
  have : ((List.range i).map fun a => ((List.range n).map fun b => (a, b)).length) = List.replicate i n := by
    apply List.ext_getElem?
    intro x
    rw [List.getElem?_map, List.getElem?_replicate]
    by_cases h : x < i
    · rw [List.getElem?_range h, if_pos h]
      simp
    · rw [if_neg h, List.getElem?_eq_none (by rw [List.length_range]; omega)]
      rfl
  rw [this, List.sum_replicate_nat]
  have h1 : i * n ≤ 25 * 25 := Nat.mul_le_mul (by omega) hn
  omega
def spPairs (K : PySem.W.Frag) : Sp := fun vs H Q _ => ∃ (a b : Addr) (ts ks : List Int), vs = [.ref a, .ref b] ∧ TRAt K H a b ts ks ∧ ∀ (p : Addr) (xs : List V) (H' : Hp), H p = none → Same H H' → H' p = some (.lst xs) → PAt ts ks H' xs (pairs ts.length) → Q (.ref p) H'
def spLeast (K : PySem.W.Frag) (C : Addr) : Sp := fun vs H Q _ => ∃ (x l b : Addr) (ts ks : List Int), vs = [.ref x, .ref b] ∧ TapsAt C H x l ts ∧ SqL K H b (ks.map V.int) ∧ Tps ts ∧ Rdg 0 ks ∧ ks.length = ts.length ∧
  ∀ (p : Addr) (H' : Hp), Same H H' → WAt H' p (widthOf ts ks) → Q (.ref p) H'
/-! ### data -/
def dOk : Nat → PyData → Prop
  | 0, _ => False
  | _ + 1, .none => True
  | _ + 1, .bool _ => True
  | _ + 1, .int _ => True
  | _ + 1, .str _ => True
  | n + 1, .list ds => ds.length ≤ 1000000 ∧ ∀ d ∈ ds, dOk n d
  | n + 1, .tuple ds => ds.length ≤ 1000000 ∧ ∀ d ∈ ds, dOk n d
  | _ + 1, .dict _ => False
def spAlike (K : PySem.W.Frag) (n : Nat) : Sp := fun vs H Q _ => ∃ (u v : V) (d : PyData), vs = [u, v] ∧ Dp K H u d ∧ Dp K H v d ∧ dOk n d ∧ ∀ H', Same H H' → Q (.bl true) H'
theorem KDef.none {P : Program} {w : World} {K : PySem.W.Frag} {mg : Str → Option Value} {base : Heap} {x : Str} {st : Stmt} {ps : List Str} {sp : Sp} {CX : CXT} (S : Src K mg x st)
    (hb : ∀ (kV doc pm : Value) (an : Option Addr) (cdv ct : Value) (us : List Value), us.length = ps.length → bindArgs (PySem.W.fnOf x x (defArgs st) (defBody st) (defScope st) .none kV doc pm an cdv ct) ⟨us, []⟩ = pure (ps.zip us))
    (no : ∀ vs H Q E, ¬ sp vs H Q E) : KDef P w K mg base CX 0 x ps sp := by
  obtain ⟨f, fd, hm, F⟩ := S.ex
  exact ⟨f, fd, hm, F.kp, F.bindsN hb, fun vs H Q E h => absurd h (no vs H Q E), fun A outer s H args us vs Q E _ _ _ _ h => absurd h (no vs H Q E)⟩
theorem KDef.mono {P : Program} {w : World} {K : PySem.W.Frag} {mg : Str → Option Value} {base : Heap} {x : Str} {ps : List Str} {sp : Sp} {CX : CXT} {j k : Nat} (D : KDef P w K mg base CX j x ps sp) (h : j ≤ k) : KDef P w K mg base CX k x ps sp := by
  obtain ⟨f, fd, a, b, c, F⟩ := D.ex
  exact ⟨f, fd, a, b, c, F.mono h⟩
theorem call_isiK {X : Cx} {K : PySem.W.Frag} (h : X.K = K) : CallR X (.builtin "isinstance") (rIsi K) := by subst h; exact call_isi
theorem tyx_list {K : PySem.W.Frag} {H : Hp} {a : Addr} {xs : List V} (h : SqL K H a xs) : TyX K H (.ref a) (.type "list") := by
  rcases h with (h | ⟨o, h⟩) | ⟨o, its, n, h1, h2, _⟩
  · exact .base (.lst h)
  · exact .base (.frz h)
  · exact .kList h1 h2
theorem tyx_tup {K : PySem.W.Frag} {H : Hp} {a : Addr} {xs : List V} (h : SqT K H a xs) : TyX K H (.ref a) (.type "tuple") := by
  rcases h with (h | ⟨o, h⟩) | ⟨o, its, n, h1, h2, _⟩
  · exact .base (.tup h)
  · exact .fTuple h
  · exact .kTuple h1 h2
/-- a value's type -/
theorem tyx_int {K : PySem.W.Frag} {H : Hp} (i : Int) : TyX K H (.int i) (.type "int") := .base (.int i)
theorem tyx_str {K : PySem.W.Frag} {H : Hp} (x : Str) : TyX K H (.str x) (.type "str") := .base (.str x)
theorem tyx_bl {K : PySem.W.Frag} {H : Hp} (b : Bool) : TyX K H (.bl b) (.type "bool") := .base (.bl b)
theorem DpAll.len {K : PySem.W.Frag} {H : Hp} : ∀ {vs : List V} {ds : List PyData}, DpAll K H vs ds → vs.length = ds.length
  | _, _, .nil => rfl
  | _, _, .cons _ t => congrArg Nat.succ (DpAll.len t)
theorem DpAll.get {K : PySem.W.Frag} {H : Hp} : ∀ {vs : List V} {ds : List PyData} {i : Nat}, DpAll K H vs ds → i < vs.length → ∃ v d, vs[i]? = some v ∧ ds[i]? = some d ∧ Dp K H v d ∧ d ∈ ds
  | _, _, _, .nil, h => by simp at h
  | _, _, 0, .cons h t, _ => ⟨_, _, rfl, rfl, h, List.mem_cons_self⟩
  | _, _, i + 1, .cons _ t, hi => by
    obtain ⟨v, d, e1, e2, e3, e4⟩ := DpAll.get (i := i) t (Nat.lt_of_succ_lt_succ hi)
    exact ⟨v, d, e1, e2, e3, List.mem_cons_of_mem _ e4⟩
theorem DpAll.ints {K : PySem.W.Frag} {H : Hp} : ∀ ns : List Int, DpAll K H (ns.map V.int) (ns.map PyData.int)
  | [] => .nil
  | n :: ns => .cons (.int n) (DpAll.ints ns)
theorem dp_ints {K : PySem.W.Frag} {H : Hp} {a : Addr} {ns : List Int} (h : SqL K H a (ns.map V.int)) : Dp K H (.ref a) (.list (ns.map PyData.int)) := .lst h (DpAll.ints ns)
def widthD (w : Fr × (Nat × Nat)) : PyData := .tuple [.tuple [.int w.1.1, .int w.1.2], .tuple [.int (w.2.1 : Int), .int (w.2.2 : Int)]]
theorem WAt.dp {K : PySem.W.Frag} {H : Hp} {p : Addr} {w : Fr × (Nat × Nat)} (h : WAt H p w) : Dp K H (.ref p) (widthD w) := by
  obtain ⟨q, r, e1, e2, e3⟩ := h.ex
  exact .tup (SqT.of e1) (.cons (.tup (SqT.of e2) (.cons (.int _) (.cons (.int _) .nil))) (.cons (.tup (SqT.of e3) (.cons (.int _) (.cons (.int _) .nil))) .nil))
theorem widthD_ok (w : Fr × (Nat × Nat)) : dOk 3 (widthD w) := by
  unfold widthD
  refine ⟨by show 2 ≤ 1000000; decide, fun d hd => ?_⟩
  simp only [List.mem_cons, List.not_mem_nil, or_false] at hd
  rcases hd with rfl | rfl
  · refine ⟨by show 2 ≤ 1000000; decide, fun e he => ?_⟩
    simp only [List.mem_cons, List.not_mem_nil, or_false] at he
    rcases he with rfl | rfl <;> trivial
  · refine ⟨by show 2 ≤ 1000000; decide, fun e he => ?_⟩
    simp only [List.mem_cons, List.not_mem_nil, or_false] at he
    rcases he with rfl | rfl <;> trivial
end KT

/-! The head: facts by names. -/
namespace KT
open PySem PySem.Spec PyProof.Rows L2
/-- a def of the top -/
def dfn (x : Str) (st : Stmt) : He.DefD := ⟨(x, none), x, x, defArgs st, defBody st, defScope st, [], []⟩
/-- a method -/
def dfm (C m q : Str) (st : Stmt) : He.DefD := ⟨(C, some m), m, q, defArgs st, defBody st, defScope st, [], []⟩
/-- a tuple of the top's data, by its place -/
def tupAt (K : PySem.W.Frag) (a : Addr) (vs : List V) : Bool :=
  match K.lookup a with
  | some ⟨.type c, _, .seq its _, _⟩ => decide (c = "tuple") && (decide (its.size ≤ sizeLine) && He.relAll vs its.toList)
  | _ => false
theorem tupAt_ok {K : PySem.W.Frag} {a : Addr} {vs : List V} (h : tupAt K a vs = true) (H : Hp) : SqT K H a vs := by
  unfold tupAt at h
  split at h
  · next c d its n sl e =>
    simp only [Bool.and_eq_true, decide_eq_true_eq] at h
    obtain ⟨h1, h2, h3⟩ := h
    subst h1
    exact .inr ⟨_, its, n, e, rfl, rfl, h2, He.relAll_ok h3⟩
  · cases h
def itemAt (K : PySem.W.Frag) (a : Addr) (i : Nat) : Addr :=
  match K.lookup a with
  | some ⟨_, _, .seq its _, _⟩ => match its.toList[i]? with
    | some (.ref b) => b
    | _ => 0
  | _ => 0
section
variable {fa : List He.Fa} {fn : List He.DefD} {K : PySem.W.Frag} {h : Heap} {mg : Str → Option Value}
theorem src_of (X : K.In h) (G : h.Ns mainGlobals mg) (c : He.SaysD fa fn K) (i j : Nat) {x : Str} {st : Stmt} (hf : fa[i]? = some (.glo x)) (hd : fn[j]? = some (dfn x st)) : Src K mg x st := by
  obtain ⟨fd, F⟩ := c.def_ j hd
  exact ⟨_, fd, He.glo_ok X G (c.fact i hf), F⟩
theorem bi_of (X : K.In h) (G : h.Ns mainGlobals mg) {x : Str} {id : String} (e : He.eqO (PySem.W.nsIn K mainGlobals x) (some (some (.builtin id))) = true) : mg x = some (.builtin id) := PySem.W.mg_of X G (He.eqO_ok e)
end
end KT

/-! Widths, units, bars: the mathematics and the promises. -/
namespace KT
open PySem PySem.Spec PyProof.Rows L2
/-! ### fractions by cross products -/
def leF (f g : Fr) : Prop := f.1 * g.2 ≤ g.1 * f.2
def ltF (f g : Fr) : Prop := f.1 * g.2 < g.1 * f.2
theorem ltF.not {f g : Fr} (h : ¬ ltF f g) : leF g f := Int.not_lt.mp h
theorem ltF.le {f g : Fr} (h : ltF f g) : leF f g := Int.le_of_lt h
theorem leF.refl (f : Fr) : leF f f := Int.le_refl _
theorem leF.trans {f g h : Fr} (hf : 0 < f.2) (hg : 0 < g.2) (hh : 0 < h.2) (a : leF f g) (b : leF g h) : leF f h := by
  have h1 : f.1 * g.2 * h.2 ≤ g.1 * f.2 * h.2 := Int.mul_le_mul_of_nonneg_right a (Int.le_of_lt hh)
  have h2 : g.1 * h.2 * f.2 ≤ h.1 * g.2 * f.2 := Int.mul_le_mul_of_nonneg_right b (Int.le_of_lt hf)
  have e1 : f.1 * h.2 * g.2 = f.1 * g.2 * h.2 := Int.mul_right_comm ..
  have e2 : g.1 * f.2 * h.2 = g.1 * h.2 * f.2 := Int.mul_right_comm ..
  have e3 : h.1 * g.2 * f.2 = h.1 * f.2 * g.2 := Int.mul_right_comm ..
  have h3 : f.1 * h.2 * g.2 ≤ h.1 * f.2 * g.2 := by rw [e1, ← e3]; exact Int.le_trans h1 (by rw [e2]; exact h2)
  exact Int.le_of_mul_le_mul_right h3 hg
theorem low_le {f g : Fr} (hf : 0 < f.2) (hg : 0 < g.2) : leF (lowF f.1 f.2) (lowF g.1 g.2) ↔ leF f g := by
  have := low_lt (t := g.1) (b := g.2) (t' := f.1) (b' := f.2) hg hf
  unfold leF
  constructor
  · intro h
    exact Int.not_lt.mp fun z => Int.not_lt.mpr h (this.mpr z)
  · intro h
    exact Int.not_lt.mp fun z => Int.not_lt.mpr h (this.mp z)
theorem low_self_le {f : Fr} (hf : 0 < f.2) : leF (lowF f.1 f.2) f ∧ leF f (lowF f.1 f.2) := by
  have e1 := low_top f.1 f.2
  have e2 := low_bot f.1 f.2
  have e : (lowF f.1 f.2).1 * f.2 = f.1 * (lowF f.1 f.2).2 := by
    have a1 : (lowF f.1 f.2).1 * f.2 = (lowF f.1 f.2).1 * (gI f.1 f.2 * (lowF f.1 f.2).2) := congrArg ((lowF f.1 f.2).1 * ·) e2.symm
    have a2 : f.1 * (lowF f.1 f.2).2 = gI f.1 f.2 * (lowF f.1 f.2).1 * (lowF f.1 f.2).2 := congrArg (· * (lowF f.1 f.2).2) e1.symm
    rw [a1, a2, Int.mul_left_comm, Int.mul_assoc]
  exact ⟨Int.le_of_eq e, Int.le_of_eq e.symm⟩
theorem low_scale {c t b : Int} (hc : 0 < c) : lowF (c * t) (c * b) = lowF t b := by
  have g : gI (c * t) (c * b) = c * gI t b := by
    unfold gI
    rw [Int.gcd_mul_left]
    have : (c.natAbs : Int) = c := by omega
    rw [Int.natCast_mul, this]
  unfold lowF
  rw [g, Int.mul_ediv_mul_of_pos _ _ hc, Int.mul_ediv_mul_of_pos _ _ hc]
theorem low_eq {f g : Fr} (hf : 0 < f.2) (hg : 0 < g.2) (a : leF f g) (b : leF g f) : lowF f.1 f.2 = lowF g.1 g.2 := by
  have e : f.1 * g.2 = g.1 * f.2 := Int.le_antisymm a b
  rw [← low_scale (c := g.2) hg, ← low_scale (t := g.1) (c := f.2) hf]
  rw [Int.mul_comm g.2 f.1, e, Int.mul_comm g.2 f.2, Int.mul_comm f.2 g.1]
theorem gcd_low {t b : Int} (hb : 0 < b) : Int.gcd (lowF t b).1 (lowF t b).2 = 1 := by
  have := Int.gcd_ediv_gcd_ediv_gcd (i := t) (j := b) (by
    have : 0 < Int.gcd t b := Int.gcd_pos_of_ne_zero_right t (by omega)
    exact this)
  exact this
/-! ### widths -/
structure Wid (f : Fr) : Prop where
  lo : 0 ≤ f.1
  lt : f.1 < f.2
  le : f.2 ≤ 20000000
  low : Int.gcd f.1 f.2 = 1
def lowU (ts ks : List Int) (f : Fr) (i : Nat) : Fr := (at_ ts i * f.2, at_ ks i * f.2 + f.1)
def highU (ts ks : List Int) (f : Fr) (i : Nat) : Fr := (at_ ts i * f.2, at_ ks i * f.2 - f.1)
def askF (ts ks : List Int) (i j : Nat) : Fr := (askT ts ks i j, askB ts i j)
section
variable {ts ks : List Int} {f : Fr} {i j : Nat}
theorem Wid.pos (h : Wid f) : 0 < f.2 := by
  have := h.lo
  have := h.lt
  omega
theorem TR.lowB (h : TR ts ks) (w : Wid f) (hi : i < ts.length) : 0 < (lowU ts ks f i).2 ∧ (lowU ts ks f i).2 ≤ 160000000 := by
  have a := w.lo
  have b := w.lt
  have c := w.le
  unfold lowU
  rcases h.ki hi with e | e | e <;> rw [e] <;> simp only <;> omega
theorem TR.highB (h : TR ts ks) (w : Wid f) (hi : i < ts.length) : 0 < (highU ts ks f i).2 ∧ (highU ts ks f i).2 ≤ 140000000 := by
  have a := w.lo
  have b := w.lt
  have c := w.le
  unfold highU
  rcases h.ki hi with e | e | e <;> rw [e] <;> simp only <;> omega
theorem TR.topB (h : TR ts ks) (w : Wid f) (hi : i < ts.length) : 0 < at_ ts i * f.2 ∧ at_ ts i * f.2 ≤ 199980000000 := by
  have a := h.ti hi
  have p := w.pos
  have c := w.le
  have h1 : at_ ts i * f.2 ≤ 9999 * f.2 := Int.mul_le_mul_of_nonneg_right a.2 (by omega)
  exact ⟨Int.mul_pos (by omega) p, by omega⟩
/-- a least unit is no greater than a greatest one if and only if the pair asks no more -/
theorem unit_ask (w : Wid f) : leF (lowU ts ks f i) (highU ts ks f j) ↔ leF (askF ts ks i j) f := by
  have p := w.pos
  unfold leF lowU highU askF askT askB
  simp only
  generalize at_ ts i = s
  generalize at_ ts j = t
  generalize at_ ks i = k
  generalize at_ ks j = l
  have e1 : s * f.2 * (l * f.2 - f.1) = (s * (l * f.2) - s * f.1) * f.2 := by
    rw [Int.mul_right_comm, Int.mul_sub]
  have e2 : t * f.2 * (k * f.2 + f.1) = (t * (k * f.2) + t * f.1) * f.2 := by
    rw [Int.mul_right_comm, Int.mul_add]
  have e3 : (s * l - t * k) * f.2 = s * (l * f.2) - t * (k * f.2) := by
    rw [Int.sub_mul, Int.mul_assoc, Int.mul_assoc]
  have e4 : f.1 * (s + t) = s * f.1 + t * f.1 := by
    rw [Int.mul_add, Int.mul_comm f.1 s, Int.mul_comm f.1 t]
  rw [e1, e2, e3, e4]
  constructor
  · intro h
    have := Int.le_of_mul_le_mul_right h p
    omega
  · intro h
    exact Int.mul_le_mul_of_nonneg_right (by omega) (Int.le_of_lt p)
/-- .. and they are alike if the pair asks just that -/
theorem unit_ask_eq (w : Wid f) : leF (highU ts ks f j) (lowU ts ks f i) ↔ leF f (askF ts ks i j) := by
  have p := w.pos
  unfold leF lowU highU askF askT askB
  simp only
  generalize at_ ts i = s
  generalize at_ ts j = t
  generalize at_ ks i = k
  generalize at_ ks j = l
  have e1 : s * f.2 * (l * f.2 - f.1) = (s * (l * f.2) - s * f.1) * f.2 := by
    rw [Int.mul_right_comm, Int.mul_sub]
  have e2 : t * f.2 * (k * f.2 + f.1) = (t * (k * f.2) + t * f.1) * f.2 := by
    rw [Int.mul_right_comm, Int.mul_add]
  have e3 : (s * l - t * k) * f.2 = s * (l * f.2) - t * (k * f.2) := by
    rw [Int.sub_mul, Int.mul_assoc, Int.mul_assoc]
  have e4 : f.1 * (s + t) = s * f.1 + t * f.1 := by
    rw [Int.mul_add, Int.mul_comm f.1 s, Int.mul_comm f.1 t]
  rw [e1, e2, e3, e4]
  constructor
  · intro h
    have := Int.le_of_mul_le_mul_right h p
    omega
  · intro h
    exact Int.mul_le_mul_of_nonneg_right (by omega) (Int.le_of_lt p)
end
/-! ### the best is the greatest -/
theorem fold_ge {ts ks : List Int} (h : TR ts ks) : ∀ (l : List (Nat × Nat)) (s : Best), (∀ p ∈ l, p.1 < ts.length ∧ p.2 < ts.length) → BestOk ts ks s →
    leF s.1 (l.foldl (stepB ts ks) s).1 ∧ ∀ p ∈ l, leF (askF ts ks p.1 p.2) (l.foldl (stepB ts ks) s).1
  | [], s, _, o => ⟨leF.refl _, fun p hp => absurd hp List.not_mem_nil⟩
  | p :: l, s, hl, o => by
    have m := hl p List.mem_cons_self
    have o2 := o.step h m.1 m.2
    have oz := BestOk.fold h l _ (fun q hq => hl q (List.mem_cons_of_mem _ hq)) o2
    obtain ⟨a, b⟩ := fold_ge h l (stepB ts ks s p) (fun q hq => hl q (List.mem_cons_of_mem _ hq)) o2
    have bb := h.bot m.1 m.2
    have c : leF s.1 (stepB ts ks s p).1 ∧ leF (askF ts ks p.1 p.2) (stepB ts ks s p).1 := by
      by_cases c : s.1.1 * askB ts p.1 p.2 < askT ts ks p.1 p.2 * s.1.2
      · rw [stepB_pos c]
        exact ⟨Int.le_of_lt c, Int.le_refl _⟩
      · rw [stepB_neg c]
        exact ⟨Int.le_refl _, Int.not_lt.mp c⟩
    refine ⟨leF.trans o.pos o2.pos oz.pos c.1 a, fun q hq => ?_⟩
    rcases List.mem_cons.mp hq with rfl | hq
    · exact leF.trans bb.1 o2.pos oz.pos c.2 a
    · exact b q hq
theorem fold_in {ts ks : List Int} : ∀ (l : List (Nat × Nat)) (s : Best), (l.foldl (stepB ts ks) s) = s ∨ ∃ p ∈ l, (l.foldl (stepB ts ks) s).1 = askF ts ks p.1 p.2
  | [], s => .inl rfl
  | p :: l, s => by
    rcases fold_in l (stepB ts ks s p) with e | ⟨q, hq, e⟩
    · by_cases c : s.1.1 * askB ts p.1 p.2 < askT ts ks p.1 p.2 * s.1.2
      · refine .inr ⟨p, List.mem_cons_self, ?_⟩
        show (l.foldl (stepB ts ks) (stepB ts ks s p)).1 = _
        rw [e, stepB_pos c]
        rfl
      · refine .inl ?_
        show l.foldl (stepB ts ks) (stepB ts ks s p) = s
        rw [e, stepB_neg c]
    · exact .inr ⟨q, List.mem_cons_of_mem _ hq, e⟩
theorem best_ge {ts ks : List Int} (h : TR ts ks) (hn : 0 < ts.length) {i j : Nat} (hi : i < ts.length) (hj : j < ts.length) : leF (askF ts ks i j) (bestOf ts ks).1 :=
  (fold_ge h _ _ (fun p hp => mem_pairs.mp hp) (BestOk.start hn)).2 (i, j) (mem_pairs.mpr ⟨hi, hj⟩)
theorem best_in {ts ks : List Int} : (bestOf ts ks) = ((0, 1), (0, 0)) ∨ ∃ i j, i < ts.length ∧ j < ts.length ∧ (bestOf ts ks).1 = askF ts ks i j := by
  rcases fold_in (ts := ts) (ks := ks) (pairs ts.length) ((0, 1), (0, 0)) with e | ⟨p, hp, e⟩
  · exact .inl e
  · exact .inr ⟨p.1, p.2, (mem_pairs.mp hp).1, (mem_pairs.mp hp).2, e⟩
/-! ### promises -/
def spCheckW (K : PySem.W.Frag) : Sp := fun vs H Q _ => ∃ (p : Addr) (f : Fr), vs = [.ref p] ∧ SqT K H p (frV f) ∧ Wid f ∧ ∀ H', Same H H' → Q .non H'
/-- a list of fractions -/
def FrAt (H : Hp) (vs : List V) (l : List Fr) : Prop := vs.length = l.length ∧ ∀ (i : Nat) (f : Fr), l[i]? = some f → ∃ r : Addr, vs[i]? = some (.ref r) ∧ H r = some (.tup (frV f))
theorem FrAt.same {H H' : Hp} {vs : List V} {l : List Fr} (h : FrAt H vs l) (s : Same H H') : FrAt H' vs l := ⟨h.1, fun i f e => by
  obtain ⟨r, e1, e2⟩ := h.2 i f e
  exact ⟨r, e1, s _ _ e2⟩⟩
theorem FrAt.snoc {H H' : Hp} {vs : List V} {l : List Fr} {f : Fr} {r : Addr} (h : FrAt H vs l) (s : ∀ (b : Addr) (xs : List V), H b = some (.tup xs) → H' b = some (.tup xs)) (e2 : H' r = some (.tup (frV f))) : FrAt H' (vs ++ [.ref r]) (l ++ [f]) := by
  refine ⟨by rw [List.length_append, List.length_append, h.1]; rfl, fun i u e => ?_⟩
  by_cases hi : i < l.length
  · rw [List.getElem?_append_left hi] at e
    obtain ⟨r', g1, g2⟩ := h.2 i u e
    exact ⟨r', by rw [List.getElem?_append_left (by rw [h.1]; exact hi)]; exact g1, s _ _ g2⟩
  · have e5 : i = l.length := by
      have := (List.getElem?_eq_some_iff.mp e).1
      rw [List.length_append] at this
      simp at this
      omega
    subst e5
    rw [List.getElem?_append_right (Nat.le_refl _), Nat.sub_self] at e
    cases e
    exact ⟨r, by rw [← h.1, List.getElem?_append_right (Nat.le_refl _), Nat.sub_self]; rfl, e2⟩
def spGreat : Sp := fun vs H Q _ => ∃ (a : Addr) (xs : List V) (l : List Fr), vs = [.ref a] ∧ H a = some (.lst xs) ∧ FrAt H xs l ∧ l ≠ [] ∧ (∀ f ∈ l, 0 < f.2 ∧ Sml f.1) ∧ ∀ (r : Addr) (m : Fr), H r = some (.tup (frV m)) → m ∈ l → (∀ f ∈ l, leF f m) → Q (.ref r) H
def spLeastOf : Sp := fun vs H Q _ => ∃ (a : Addr) (xs : List V) (l : List Fr), vs = [.ref a] ∧ H a = some (.lst xs) ∧ FrAt H xs l ∧ l ≠ [] ∧ (∀ f ∈ l, 0 < f.2 ∧ Sml f.1) ∧ ∀ (r : Addr) (m : Fr), H r = some (.tup (frV m)) → m ∈ l → (∀ f ∈ l, leF m f) → Q (.ref r) H
/-- the least unit, the greatest -/
structure LoB (ts ks : List Int) (f m : Fr) : Prop where
  ex : ∃ i, i < ts.length ∧ m = lowU ts ks f i
  ge : ∀ i, i < ts.length → leF (lowU ts ks f i) m
structure HiB (ts ks : List Int) (f m : Fr) : Prop where
  ex : ∃ i, i < ts.length ∧ m = highU ts ks f i
  ge : ∀ i, i < ts.length → leF m (highU ts ks f i)
/-- taps, a reading, a width -/
structure TKW (K : PySem.W.Frag) (C : Addr) (H : Hp) (x b p : Addr) (ts ks : List Int) (f : Fr) : Prop where
  t : ∃ l, TapsAt C H x l ts
  k : SqL K H b (ks.map V.int)
  w : SqT K H p (frV f)
  tp : Tps ts
  rd : Rdg 0 ks
  len : ks.length = ts.length
  wid : Wid f
theorem TKW.same {K : PySem.W.Frag} {C : Addr} {H H' : Hp} {x b p : Addr} {ts ks : List Int} {f : Fr} (h : TKW K C H x b p ts ks f) (s : Same H H') : TKW K C H' x b p ts ks f := by
  obtain ⟨⟨l, a⟩, b, c, d, e, g, i⟩ := h
  exact ⟨⟨l, a.same s⟩, s.seq b, same_tup s c, d, e, g, i⟩
theorem TKW.tr {K : PySem.W.Frag} {C : Addr} {H : Hp} {x b p : Addr} {ts ks : List Int} {f : Fr} (h : TKW K C H x b p ts ks f) : TR ts ks := h.tp.tr h.rd h.len
/-- two fractions in lowest terms -/
structure UAt (H : Hp) (p : Addr) (m M : Fr) : Prop where
  ex : ∃ q r : Addr, H p = some (.tup [.ref q, .ref r]) ∧ H q = some (.tup (frV (lowF m.1 m.2))) ∧ H r = some (.tup (frV (lowF M.1 M.2)))
theorem UAt.same {H H' : Hp} {p : Addr} {m M : Fr} (h : UAt H p m M) (s : Same H H') : UAt H' p m M := by
  obtain ⟨q, r, a, b, c⟩ := h.ex
  exact ⟨q, r, s _ _ a, s _ _ b, s _ _ c⟩
def spUnits (K : PySem.W.Frag) (C : Addr) : Sp := fun vs H Q _ => ∃ (x b p : Addr) (ts ks : List Int) (f : Fr), vs = [.ref x, .ref b, .ref p] ∧ TKW K C H x b p ts ks f ∧
  ∀ m M, LoB ts ks f m → HiB ts ks f M → (ltF M m → ∀ H', Same H H' → Q .non H') ∧ (leF m M → ∀ (q : Addr) (H' : Hp), Same H H' → UAt H' q m M → Q (.ref q) H')
/-- all pairs ask no more -/
def NoBar (ts ks : List Int) (f : Fr) : Prop := ∀ i j, i < ts.length → j < ts.length → leF (askF ts ks i j) f
/-- the pair at n is the first that asks more -/
structure FirstBar (ts ks : List Int) (f : Fr) (n : Nat) (p : Nat × Nat) : Prop where
  at_ : (pairs ts.length)[n]? = some p
  more : ltF f (askF ts ks p.1 p.2)
  no : ∀ (k : Nat) (q : Nat × Nat), k < n → (pairs ts.length)[k]? = some q → leF (askF ts ks q.1 q.2) f
theorem FirstBar.mem {ts ks : List Int} {f : Fr} {n : Nat} {p : Nat × Nat} (h : FirstBar ts ks f n p) : p.1 < ts.length ∧ p.2 < ts.length := mem_pairs.mp (List.mem_of_getElem? h.at_)
def spBar (K : PySem.W.Frag) (C : Addr) : Sp := fun vs H Q _ => ∃ (x b p : Addr) (ts ks : List Int) (f : Fr), vs = [.ref x, .ref b, .ref p] ∧ TKW K C H x b p ts ks f ∧
  (NoBar ts ks f → ∀ H', Same H H' → Q .non H') ∧ ∀ n u, FirstBar ts ks f n u → ∀ (q : Addr) (H' : Hp), Same H H' → H' q = some (.tup (prV u)) → Q (.ref q) H'
def spAllowed (K : PySem.W.Frag) (C : Addr) : Sp := fun vs H Q _ => ∃ (x b p : Addr) (ts ks : List Int) (f : Fr), vs = [.ref x, .ref b, .ref p] ∧ TKW K C H x b p ts ks f ∧
  (NoBar ts ks f → ∀ H', Same H H' → Q (.bl true) H') ∧ ((∃ i j, i < ts.length ∧ j < ts.length ∧ ltF f (askF ts ks i j)) → ∀ H', Same H H' → Q (.bl false) H')
theorem wid_low {t b : Int} (h0 : 0 ≤ t) (h1 : t < b) (h2 : b ≤ 20000000) : Wid (lowF t b) := by
  have hb : 0 < b := by omega
  have g := gI_pos (t := t) hb
  have p := low_pos (t := t) hb
  have le := low_bot_le (t := t) hb
  refine ⟨Int.ediv_nonneg h0 (Int.le_of_lt g), ?_, by omega, gcd_low hb⟩
  have a := low_top t b
  have c := low_bot t b
  have z : gI t b * (lowF t b).1 < gI t b * (lowF t b).2 := by rw [a, c]; exact h1
  exact (Int.mul_lt_mul_left g).mp z
theorem atX {ts : List Int} {i : Nat} (h : i < ts.length) : atI (ts.map V.int) (0 + (i : Int)) = some (V.int (at_ ts i)) := aI (by omega) (by rw [Int.zero_add, Int.toNat_natCast]; exact at_int (get_at h))
/-! ### the law's own -/
def spSomeW : Sp := fun vs H Q _ => ∃ d : Addr, vs = [.ref d] ∧ Dice H d ∧ ∀ (f : Fr) (p : Addr) (H' : Hp), Wid f → f.2 ≤ 10001 → H p = none → H' p = some (.tup (frV f)) → Dice H' d → Kp d H H' → Q (.ref p) H'
def spFits (K : PySem.W.Frag) : Sp := fun vs H Q _ => ∃ (a b p u : Addr) (ts ks : List Int) (f g : Fr), vs = [.ref a, .ref b, .ref p, .ref u] ∧ TRAt K H a b ts ks ∧ SqT K H p (frV f) ∧ SqT K H u (frV g) ∧ Wid f ∧
  (∀ i, i < ts.length → leF (lowU ts ks f i) g ∧ leF g (highU ts ks f i)) ∧ ∀ H', Same H H' → Q (.bl true) H'
end KT

/-! Own rules: list.remove of nested data; lists of whole numbers in order. -/
namespace KT
open PySem PySem.Spec PyProof.Rows L2
theorem remLoop (l : Addr) (items : Array Value) (n : Nat) (x : Value) (e : Value → Bool) (j : Nat) (hj : j < items.size) (hit : e items[j] = true) (hs : items.size ≤ sizeLine) :
    ∀ (k i : Nat), j - i = k → i ≤ j → (∀ (m : Nat) (hm : m < items.size), i ≤ m → m < j → e items[m] = false) →
      Meets (Builtin.«list.remove.loop» { pos := [Value.ref l, x, rawInt (i : Int)] }) fun A R s =>
        s.heap.get? l = some { cls := Value.type "list", data := Data.seq items n } ∧ (∀ y : Value, y ∈ items → SeqAt.EqAt (Around.in1 A) s y x (e y)) ∧
          R (Except.ok (Flow.ret Value.none)) { heap := Heap.update s.heap l (Obj.mapSeq fun xs => xs.eraseIdxIfInBounds j), gens := s.gens, drawn := s.drawn, toks := s.toks, os := s.os } := by
  intro k
  induction k with
  | zero =>
    intro i hk hij hno prog w A R s h
    cases s
    obtain ⟨hl, he, h⟩ := h
    have e1 : i = j := by omega
    subst e1
    refine wpAny_bind (wpAny_bind (wpAny_bind (wpAny_load' hl (wpAny_pure (wpAny_pure ?_)))))
    have hi : items[Int.toNat (i : Int)]? = some items[i] := by
      rw [Int.toNat_natCast]
      exact Array.getElem?_eq_getElem hj
    show wpAny _ _ (match items[Int.toNat (i : Int)]? with | none => _ | some y => _) _ _ _
    rw [hi]
    refine wpAny_bind (he items[i] (Array.getElem_mem hj) prog w _ _ ?_)
    rw [hit]
    refine wpAny_ite_true rfl (wpAny_bind (wpAny_updateSeq hl rfl ?_ hs (Nat.le_trans (MeetsSeq.size_erased items _) (Nat.le_succ_of_le hs))))
    exact wpAny_pure h
  | succ k ih =>
    intro i hk hij hno prog w A R s h
    have hlt : i < items.size := by omega
    cases s
    obtain ⟨hl, he, h⟩ := h
    refine wpAny_bind (wpAny_bind (wpAny_bind (wpAny_load' hl (wpAny_pure (wpAny_pure ?_)))))
    have hi : items[Int.toNat (i : Int)]? = some items[i] := by
      rw [Int.toNat_natCast]
      exact Array.getElem?_eq_getElem hlt
    show wpAny _ _ (match items[Int.toNat (i : Int)]? with | none => _ | some y => _) _ _ _
    rw [hi]
    refine wpAny_bind (he items[i] (Array.getElem_mem hlt) prog w _ _ ?_)
    rw [hno i hlt (Nat.le_refl i) (by omega)]
    refine wpAny_ite_false rfl (wpAny_pure ?_)
    refine ⟨plainId_quiet MeetsSeq.plain_remove_loop _, codeAny_builtin MeetsSeq.entry_remove_loop ?_⟩
    rw [Around.under_plainId MeetsSeq.plain_remove_loop]
    exact ih (i + 1) (by omega) (by omega) (fun m hm h1 h2 => hno m hm (by omega) h2) prog w A R _ ⟨hl, he, h⟩
theorem remAt (l : Addr) (items : Array Value) (n : Nat) (x : Value) (e : Value → Bool) (j : Nat) (hj : j < items.size) (hit : e items[j] = true) (hs : items.size ≤ sizeLine) (hno : ∀ (m : Nat) (hm : m < items.size), m < j → e items[m] = false) :
    Meets (Builtin.«list.remove» { pos := [Value.ref l, x] }) fun A R s =>
      s.heap.get? l = some { cls := Value.type "list", data := Data.seq items n } ∧ (∀ y : Value, y ∈ items → SeqAt.EqAt (Around.in1 A) s y x (e y)) ∧
        R (Except.ok (Flow.ret Value.none)) { heap := Heap.update s.heap l (Obj.mapSeq fun xs => xs.eraseIdxIfInBounds j), gens := s.gens, drawn := s.drawn, toks := s.toks, os := s.os } := by
  intro prog w A R s h
  refine wpAny_bind (wpAny_bind (wpAny_ite_true rfl (wpAny_pure (wpAny_pure (wpAny_pure ?_)))))
  refine ⟨plainId_quiet MeetsSeq.plain_remove_loop _, codeAny_builtin MeetsSeq.entry_remove_loop ?_⟩
  rw [Around.under_plainId MeetsSeq.plain_remove_loop]
  exact remLoop l items n x e j hj hit hs (j - 0) 0 rfl (Nat.zero_le j) (fun m hm _ h2 => hno m hm h2) prog w A R s h
/-- xs.remove(y), nested data: the first that is alike goes -/
def rRemD (K : PySem.W.Frag) : V → List V → Hp → VK → Prop := fun x xs H Q => ∃ (l : Addr) (vs : List V) (y : V) (d : PyData) (ds : List PyData) (j : Nat) (z : PyData), x = .ref l ∧ xs = [y] ∧ H l = some (.lst vs) ∧ DpAll K H vs ds ∧ Dp K H y d ∧
  SeqAt.shaped (.list ds) = true ∧ SeqAt.shaped d = true ∧ ds[j]? = some z ∧ PyData.eqv z d = true ∧ (∀ (m : Nat) (z' : PyData), m < j → ds[m]? = some z' → PyData.eqv z' d = false) ∧ Q .non (upd H l (.lst (vs.eraseIdx j)))
theorem canAll_of {ds : List PyData} (h : SeqAt.shaped (.list ds) = true) : PyData.canLayAll0 ds = true := by
  have := SeqAt.canLay_of_shaped h
  simpa [PyData.canLay0] using this
theorem mt_removeD {X : Cx} {K : PySem.W.Frag} (hu : X.A.units + 65 < cLine) (hK : X.K = K) : MtM X "list.remove" (rRemD K) := by
  subst hK
  intro pins s σ H x xs v us Q I rx rxs h
  obtain ⟨l, vs, y, d, ds, j, z, rfl, rfl, hl, hd, hy, sl, sd, hz, hzj, hno, q⟩ := h
  cases rx
  obtain ⟨b, rfl, ry⟩ := Vals.one rxs
  obtain ⟨z1, its, n, rv, hlen, ho⟩ := I.lstM hl
  obtain ⟨bs, r1⟩ := Dp.reads I d y b hy ry
  obtain ⟨as, h4⟩ := Dp.readsAll I ds vs its hd rv
  have hxs := canAll_of sl
  have hn := SeqAt.ReadsAll.length ds its as h4
  have hmap := SeqAt.readsAll_map ds its as hxs h4
  have hjd := (List.getElem?_eq_some_iff.mp hz).1
  have hjl : j < its.toArray.size := by
    rw [List.size_toArray]
    omega
  have at_ : ∀ (m : Nat) (hm : m < its.toArray.size) (z' : PyData), ds[m]? = some z' → SeqAt.readOf s.heap its.toArray[m] = z' := fun m hm z' hz' => by
    rw [← hmap, List.getElem?_map] at hz'
    have hml : m < its.length := by
      rw [List.size_toArray] at hm
      exact hm
    rw [List.getElem?_eq_getElem hml] at hz'
    exact Option.some.inj hz'
  have hs : its.toArray.size ≤ sizeLine := by
    rw [List.size_toArray]
    omega
  refine call_meets F.slot_list_remove ⟨_, ho, rfl⟩ F.entry_list_remove (F.args_list_remove_2 _ _)
    (remAt l its.toArray n b (fun u => PyData.eqv (SeqAt.readOf s.heap u) d) j hjl (by rw [at_ j hjl z hz]; exact hzj) hs (fun m hm hmj => ?_)) ⟨ho, SeqAt.items_eqAt h4 r1 hxs (SeqAt.canLay_of_shaped sd) (room_in_shaped sd hu), ?_⟩
  · have hmd : m < ds.length := by omega
    have hz' := List.getElem?_eq_getElem hmd
    show PyData.eqv (SeqAt.readOf s.heap its.toArray[m]) d = false
    rw [at_ m hm _ hz']
    exact hno m _ hmj hz'
  · refine ⟨V.non, upd H l (.lst (vs.eraseIdx j)), I.lset hl ho (List.eraseIdxIfInBounds_toArray its j) (Vals.eraseIdx j rv) ?_, rfl, q⟩
    have := List.length_eraseIdx_le vs j
    omega
theorem rcInt {prog : Program} {w : World} {A : Around} {E : Value → Shared → Prop} {s : Shared} {a b : Int} {t u : Tok} {Q : Value → Shared → Prop} (h : Q (Value.bool (decide (a < b))) s) : wpAny (model prog w) A (richCompare CmpOp.Lt (Value.int a t) (Value.int b u)) Q E s :=
  richCompare_gives (typeIs_int s a t) (typeIs_int s b u) F.slot_int_lt F.entry_int_lt (F.args_int_lt_2 _ _) (gives_int_lt a b t u) (fun x => nomatch x) h rfl
theorem at_ints {items : Array Value} {ns : List Int} (hi : IntsAre items.toList ns) {i : Nat} (h : i < ns.length) : ∃ t, items[i]? = some (Value.int ns[i] t) := by
  obtain ⟨t, e⟩ := IntsAre.get hi i ns[i] (List.getElem?_eq_getElem h)
  exact ⟨t, by rw [← Array.getElem?_toList]; exact e⟩
theorem at_none {items : Array Value} {ns : List Int} (hi : IntsAre items.toList ns) {i : Nat} (h : ¬ i < ns.length) : items[i]? = none := by
  have := IntsAre.length hi
  rw [Array.getElem?_eq_none]
  rw [Array.length_toList] at this
  omega
theorem ltLoop (l b : Addr) (items items2 : Array Value) (n n2 : Nat) (dd dd2 : Option Addr) (sl sl2 : Array (Option Value)) (ns ms : List Int) (hi : IntsAre items.toList ns) (hj : IntsAre items2.toList ms) :
    ∀ (k i : Nat), ns.length - i = k → i ≤ ns.length → i ≤ ms.length →
      Meets (Builtin.«list.__eq__.loop» { pos := [Value.ref l, Value.ref b, rawInt (i : Int), rawInt 0] }) fun A R s =>
        s.heap.get? l = some { cls := Value.type "list", dict := dd, data := Data.seq items n, slots := sl } ∧ s.heap.get? b = some { cls := Value.type "list", dict := dd2, data := Data.seq items2 n2, slots := sl2 } ∧
          R (Except.ok (Flow.ret (Value.bool (HT.lexLt (ns.drop i) (ms.drop i))))) s := by
  intro k
  induction k with
  | zero =>
    intro i hk hn hm prog w A R s h
    cases s
    obtain ⟨hl, hb, h⟩ := h
    refine wpAny_bind (wpAny_bind (wpAny_bind (wpAny_load' hl (wpAny_pure (wpAny_pure (wpAny_bind (wpAny_bind (wpAny_bind (wpAny_load' hb (wpAny_pure (wpAny_pure ?_)))))))))))
    have e1 : items[Int.toNat (i : Int)]? = none := by
      rw [Int.toNat_natCast]
      exact at_none hi (by omega)

    rw [e1]
    refine wpAny_bind (wpAny_bind (wpAny_bind (wpAny_load' hl (wpAny_pure (wpAny_pure (wpAny_bind (wpAny_bind (wpAny_bind (wpAny_load' hb (wpAny_pure (wpAny_pure (wpAny_pure ?_))))))))))))
    refine Eq.mp (congrArg (fun v => R (Except.ok (Flow.ret v)) _) ?_) h
    have z1 := IntsAre.length hi
    have z2 := IntsAre.length hj
    rw [Array.length_toList] at z1 z2
    show Value.bool _ = Value.bool (decide (items.size < items2.size))
    rw [List.drop_eq_nil_of_le (by omega : ns.length ≤ i)]
    by_cases c : i < ms.length
    · rw [List.drop_eq_getElem_cons c, HT.lexLt_nil_cons, decide_eq_true (by omega)]
    · rw [List.drop_eq_nil_of_le (by omega : ms.length ≤ i), HT.lexLt_nil_nil, decide_eq_false (by omega)]
  | succ k ih =>
    intro i hk hn hm prog w A R s h
    have hin : i < ns.length := by omega
    cases s
    obtain ⟨hl, hb, h⟩ := h
    refine wpAny_bind (wpAny_bind (wpAny_bind (wpAny_load' hl (wpAny_pure (wpAny_pure (wpAny_bind (wpAny_bind (wpAny_bind (wpAny_load' hb (wpAny_pure (wpAny_pure ?_)))))))))))
    obtain ⟨t, e1⟩ := at_ints hi hin
    have e1' : items[Int.toNat (i : Int)]? = some (Value.int ns[i] t) := by
      rw [Int.toNat_natCast]
      exact e1
    rw [e1']
    by_cases c : i < ms.length
    · obtain ⟨t2, e2⟩ := at_ints hj c
      have e2' : items2[Int.toNat (i : Int)]? = some (Value.int ms[i] t2) := by
        rw [Int.toNat_natCast]
        exact e2
      rw [e2']
      refine wpAny_bind (wpAny_eqBool_int ?_)
      rw [List.drop_eq_getElem_cons hin, List.drop_eq_getElem_cons c, HT.lexLt_cons] at h
      by_cases q : ns[i] = ms[i]
      · rw [if_pos q] at h
        refine wpAny_ite_true (by rw [q]; exact decide_eq_true (beq_self_eq_true _)) (wpAny_pure ?_)
        refine ⟨plainId_quiet MeetsSeq3.plain_eq_loop _, codeAny_builtin MeetsSeq3.entry_eq_loop ?_⟩
        rw [Around.under_plainId MeetsSeq3.plain_eq_loop]
        exact ih (i + 1) (by omega) (by omega) (by omega) prog w A R _ ⟨hl, hb, h⟩
      · rw [if_neg q] at h
        refine wpAny_ite_false (by rw [beq_eq_false_iff_ne.mpr q]; rfl) ?_
        refine wpAny_bind (wpAny_bind (wpAny_bind (wpAny_load' hl (wpAny_pure (wpAny_pure (wpAny_bind (wpAny_bind (wpAny_bind (wpAny_load' hb (wpAny_pure (wpAny_pure ?_)))))))))))
        rw [e1', e2']
        refine wpAny_bind (rcInt (wpAny_pure ?_))
        exact h
    · have e2' : items2[Int.toNat (i : Int)]? = none := by
        rw [Int.toNat_natCast]
        exact at_none hj c
      rw [e2']
      refine wpAny_bind (wpAny_bind (wpAny_bind (wpAny_load' hl (wpAny_pure (wpAny_pure (wpAny_bind (wpAny_bind (wpAny_bind (wpAny_load' hb (wpAny_pure (wpAny_pure (wpAny_pure ?_))))))))))))
      refine Eq.mp (congrArg (fun v => R (Except.ok (Flow.ret v)) _) ?_) h
      have z1 := IntsAre.length hi
      have z2 := IntsAre.length hj
      rw [Array.length_toList] at z1 z2
      show Value.bool _ = Value.bool (decide (items.size < items2.size))
      rw [List.drop_eq_getElem_cons hin, List.drop_eq_nil_of_le (by omega : ms.length ≤ i), HT.lexLt_cons_nil, decide_eq_false (by omega)]
theorem ltMeets (l b : Addr) (items items2 : Array Value) (n n2 : Nat) (dd dd2 : Option Addr) (sl sl2 : Array (Option Value)) (ns ms : List Int) (hi : IntsAre items.toList ns) (hj : IntsAre items2.toList ms) :
    Meets (Builtin.«list.__lt__» { pos := [Value.ref l, Value.ref b] }) fun A R s =>
      s.heap.get? l = some { cls := Value.type "list", dict := dd, data := Data.seq items n, slots := sl } ∧ s.heap.get? b = some { cls := Value.type "list", dict := dd2, data := Data.seq items2 n2, slots := sl2 } ∧
        R (Except.ok (Flow.ret (Value.bool (HT.lexLt ns ms)))) s := by
  intro prog w A R s h
  cases s
  obtain ⟨hl, hb, h⟩ := h
  have f2 := AutoSeq1.sub_list_list
  refine wpAny_bind ?_
  unfold slotArgs
  refine wpAny_ite_false rfl (wpAny_ite_false rfl (wpAny_pure ?_))
  refine wpAny_bind ?_
  unfold isInstance
  refine wpAny_bind ?_
  unfold PySem.typeOf
  refine wpAny_bind (wpAny_loadPart' hb (wpAny_pure (wpAny_of_eq f2 (wpAny_ite_false rfl ?_))))
  refine wpAny_pure ⟨plainId_quiet MeetsSeq3.plain_eq_loop _, codeAny_builtin MeetsSeq3.entry_eq_loop ?_⟩
  rw [Around.under_plainId MeetsSeq3.plain_eq_loop]
  exact ltLoop l b items items2 n n2 dd dd2 sl sl2 ns ms hi hj (ns.length - 0) 0 rfl (Nat.zero_le _) (Nat.zero_le _) prog w A R _ ⟨hl, hb, h⟩
theorem ltLst {prog : Program} {w : World} {A : Around} {E : Value → Shared → Prop} {s : Shared} {a b : Addr} {its its2 : Array Value} {ns ms : List Int} {Q : Value → Shared → Prop} (p1 : PlainL s.heap a its) (p2 : PlainL s.heap b its2)
    (i1 : IntsAre its.toList ns) (i2 : IntsAre its2.toList ms) (hu : A.units < cLine) (h : Q (Value.bool (HT.lexLt ns ms)) s) : wpAny (model prog w) A (compareOp CmpOp.Lt (Value.ref a) (Value.ref b)) Q E s := by
  obtain ⟨⟨c1, dd, data, sl⟩, n, ho, hc, hdn, hd⟩ := p1
  obtain ⟨⟨c2, dd2, data2, sl2⟩, n2, ho2, hc2, hdn2, hd2⟩ := p2
  simp only at hc hd hc2 hd2
  subst hc hd hc2 hd2
  have this : (Value.bool (HT.lexLt ns ms) ≠ Value.notImplemented ∧ Q (Value.bool (HT.lexLt ns ms)) s) := by
    refine ⟨?_, h⟩
    intro z
    cases z
  have t1 : s.TypeIs (Value.ref a) "list" := ⟨_, ho, rfl⟩
  have t2 : s.TypeIs (Value.ref b) "list" := ⟨_, ho2, rfl⟩
  have m := ltMeets a b its its2 n n2 dd dd2 sl sl2 ns ms i1 i2
  show wpAny (model prog w) A (richCompare CmpOp.Lt (Value.ref a) (Value.ref b)) Q E s
  refine richCompare_meets_room (op := CmpOp.Lt) t1 t2 F.slot_list_lt F.entry_list_lt (F.args_list_lt_2 (Value.ref a) (Value.ref b)) m ?_ hu
  refine ⟨ho, ho2, ?_⟩
  exact this
/-- a < b, lists of whole numbers -/
def rLtL (K : PySem.W.Frag) : R2 := fun x y H Q => ∃ (a b : Addr) (ns ms : List Int), x = .ref a ∧ y = .ref b ∧ SqL K H a (ns.map V.int) ∧ SqL K H b (ms.map V.int) ∧ Q (.bl (HT.lexLt ns ms)) H
theorem op_ltL {X : Cx} {K : PySem.W.Frag} (hu : X.A.units < cLine) (hK : X.K = K) : OpR X (compareOp CmpOp.Lt) (rLtL K) := by
  subst hK
  intro pins s σ H x y v u Q I rx ry h
  obtain ⟨a, b, ns, ms, rfl, rfl, ha, hb, q⟩ := h
  cases rx
  cases ry
  obtain ⟨its, r1, p1, _⟩ := I.list ha
  obtain ⟨its2, r2, p2, _⟩ := I.list hb
  exact ltLst p1 p2 (L2.intsAre_of r1) (L2.intsAre_of r2) hu ⟨V.bl (HT.lexLt ns ms), H, I, rfl, q⟩
theorem room65 {k : Nat} {A : Around} (h : Room k A) : A.units + 65 < cLine := by
  have := h.un
  omega
theorem eqv_pair (f : Fr) : PyData.eqv (.tuple [.int f.1, .int f.2]) (.tuple [.int f.1, .int f.2]) = true := by simp [PyData.eqv, PyData.eqvAll]
theorem shaped_pair (f : Fr) : SeqAt.shaped (.tuple [.int f.1, .int f.2]) = true := by simp [SeqAt.shaped, PyData.canLay0, PyData.canLayAll0, PyData.depth, PyData.depthAll]
theorem dp_pair {K : PySem.W.Frag} {H : Hp} {p : Addr} {f : Fr} (h : SqT K H p (frV f)) : Dp K H (.ref p) (.tuple [.int f.1, .int f.2]) := .tup h (.cons (.int _) (.cons (.int _) .nil))
end KT

/-! All rows, in order: the mathematics of `_law_every` (k06, k10). -/
namespace KT
open PySem PySem.Spec PyProof.Rows L2
/-- all readings of n times from a numbered one on -/
def rowsOf (first : Int) : Nat → List (List Int)
  | 0 => [[]]
  | n + 1 => (rowsOf first n).flatMap fun row => (kinds (first + (n : Int))).map fun k => row ++ [k]
theorem Rdg.init {o : Int} {ks : List Int} {k : Int} (h : Rdg o (ks ++ [k])) : Rdg o ks ∧ k ∈ kinds (o + (ks.length : Int)) := by
  refine ⟨fun i z e => h i z ?_, h ks.length k ?_⟩
  · have c := (List.getElem?_eq_some_iff.mp e).1
    rw [List.getElem?_append_left c]
    exact e
  · rw [List.getElem?_append_right (Nat.le_refl _), Nat.sub_self]
    rfl
theorem Rdg.add {o : Int} {ks : List Int} {k : Int} (h : Rdg o ks) (hk : k ∈ kinds (o + (ks.length : Int))) : Rdg o (ks ++ [k]) := fun i z e => by
  by_cases c : i < ks.length
  · rw [List.getElem?_append_left c] at e
    exact h i z e
  · have e5 : i = ks.length := by
      have := (List.getElem?_eq_some_iff.mp e).1
      rw [List.length_append] at this
      simp at this
      omega
    subst e5
    rw [List.getElem?_append_right (Nat.le_refl _), Nat.sub_self] at e
    cases e
    exact hk
theorem mem_rowsOf {first : Int} : ∀ {n : Nat} {ks : List Int}, ks ∈ rowsOf first n ↔ ks.length = n ∧ Rdg first ks
  | 0, ks => by
    constructor
    · intro h
      rw [List.mem_singleton.mp h]
      exact ⟨rfl, fun i z e => by simp at e⟩
    · rintro ⟨h, _⟩
      rw [List.length_eq_zero_iff.mp h]
      exact List.mem_singleton.mpr rfl
  | n + 1, ks => by
    unfold rowsOf
    rw [List.mem_flatMap]
    constructor
    · rintro ⟨row, hr, hk⟩
      rw [List.mem_map] at hk
      obtain ⟨k, hk, rfl⟩ := hk
      obtain ⟨h1, h2⟩ := mem_rowsOf.mp hr
      exact ⟨by rw [List.length_append, h1]; rfl, h2.add (by rw [h1]; exact hk)⟩
    · rintro ⟨h1, h2⟩
      have ne : ks ≠ [] := fun z => by
        rw [z] at h1
        cases h1
      have e := List.dropLast_concat_getLast ne
      rw [← e] at h1 h2
      rw [List.length_append] at h1
      have l1 : ks.dropLast.length = n := by
        simp at h1
        rw [List.length_dropLast]
        omega
      obtain ⟨r1, r2⟩ := h2.init
      rw [l1] at r2
      exact ⟨ks.dropLast, mem_rowsOf.mpr ⟨l1, r1⟩, List.mem_map.mpr ⟨_, r2, e⟩⟩
theorem kinds_nodup (n : Int) : (kinds n).Nodup := by
  rcases par n with e | e
  · rw [kinds_even e]
    decide
  · rw [kinds_odd e]
    decide
theorem rowsOf_nodup (first : Int) : ∀ n, (rowsOf first n).Nodup
  | 0 => by simp [rowsOf]
  | n + 1 => by
    unfold rowsOf
    rw [List.Nodup, List.pairwise_flatMap]
    refine ⟨fun row _ => ?_, ?_⟩
    · rw [List.pairwise_map]
      exact (kinds_nodup _).imp fun h z => h (by simpa using z)
    · refine (rowsOf_nodup first n).imp fun h x hx y hy => ?_
      rw [List.mem_map] at hx hy
      obtain ⟨a, _, rfl⟩ := hx
      obtain ⟨b, _, rfl⟩ := hy
      exact fun z => h (List.append_inj_left' z rfl)
theorem rowsOf_len (first : Int) : ∀ n, (rowsOf first n).length ≤ 3 ^ n
  | 0 => Nat.le_refl _
  | n + 1 => by
    unfold rowsOf
    rw [List.length_flatMap]
    have : ∀ l : List (List Int), (l.map fun row => ((kinds (first + (n : Int))).map fun k => row ++ [k]).length).sum ≤ 3 * l.length := fun l => by
      induction l with
      | nil => simp
      | cons a l ih =>
        rw [List.map_cons, List.sum_cons, List.length_map, List.length_cons]
        have k3 : (kinds (first + (n : Int))).length ≤ 3 := by
          rcases par (first + (n : Int)) with e | e
          · rw [kinds_even e]; decide
          · rw [kinds_odd e]; decide
        omega
    have h := this (rowsOf first n)
    have h2 := rowsOf_len first n
    rw [Nat.pow_succ]
    omega
/-! ### the order -/
abbrev El := Fr × List Int
def ltE (a b : El) : Prop := ltF a.1 b.1 ∨ (a.1 = b.1 ∧ HT.lexLt a.2 b.2 = true)
/-- a width as the fractions here are: bottom above 0, lowest terms -/
structure LowE (a : El) : Prop where
  pos : 0 < a.1.2
  low : lowF a.1.1 a.1.2 = a.1
theorem lex_irr : ∀ ns : List Int, HT.lexLt ns ns = false
  | [] => HT.lexLt_nil_nil
  | n :: ns => by rw [HT.lexLt_cons, if_pos rfl, lex_irr ns]
theorem lex_trans : ∀ {a b c : List Int}, HT.lexLt a b = true → HT.lexLt b c = true → HT.lexLt a c = true
  | [], [], c, h, _ => by rw [HT.lexLt_nil_nil] at h; cases h
  | [], _ :: _, [], _, h => by rw [HT.lexLt_cons_nil] at h; cases h
  | [], _ :: _, _ :: _, _, _ => HT.lexLt_nil_cons ..
  | _ :: _, [], _, h, _ => by rw [HT.lexLt_cons_nil] at h; cases h
  | _ :: _, _ :: _, [], _, h => by rw [HT.lexLt_cons_nil] at h; cases h
  | x :: a, y :: b, z :: c, h1, h2 => by
    rw [HT.lexLt_cons] at h1 h2 ⊢
    by_cases e1 : x = y
    · rw [if_pos e1] at h1
      by_cases e2 : y = z
      · rw [if_pos e2] at h2
        rw [if_pos (e1.trans e2)]
        exact lex_trans h1 h2
      · rw [if_neg e2] at h2
        rw [if_neg (by rw [e1]; exact e2), e1]
        exact h2
    · rw [if_neg e1] at h1
      by_cases e2 : y = z
      · rw [if_neg (by rw [← e2]; exact e1), ← e2]
        exact h1
      · rw [if_neg e2] at h2
        have a1 := of_decide_eq_true h1
        have a2 := of_decide_eq_true h2
        rw [if_neg (by omega)]
        exact decide_eq_true (by omega)
theorem lex_tri : ∀ {a b : List Int}, a.length = b.length → HT.lexLt a b = false → HT.lexLt b a = false → a = b
  | [], [], _, _, _ => rfl
  | [], _ :: _, h, _, _ => by cases h
  | _ :: _, [], h, _, _ => by cases h
  | x :: a, y :: b, h, h1, h2 => by
    rw [HT.lexLt_cons] at h1 h2
    by_cases e : x = y
    · rw [if_pos e] at h1
      rw [if_pos e.symm] at h2
      rw [e, lex_tri (Nat.succ.inj h) h1 h2]
    · rw [if_neg e] at h1
      rw [if_neg (fun z => e z.symm)] at h2
      have a1 := of_decide_eq_false h1
      have a2 := of_decide_eq_false h2
      omega
theorem ltF.trans {f g h : Fr} (hf : 0 < f.2) (hg : 0 < g.2) (hh : 0 < h.2) (a : ltF f g) (b : leF g h) : ltF f h :=
  Int.not_le.mp fun z => Int.not_lt.mpr (leF.trans hg hh hf b z) a
theorem ltF.trans' {f g h : Fr} (hf : 0 < f.2) (hg : 0 < g.2) (hh : 0 < h.2) (a : leF f g) (b : ltF g h) : ltF f h :=
  Int.not_le.mp fun z => Int.not_lt.mpr (leF.trans hh hf hg z a) b
theorem ltE_irr (a : El) : ¬ ltE a a := by
  rintro (h | ⟨_, h⟩)
  · exact Int.lt_irrefl _ h
  · rw [lex_irr] at h
    cases h
theorem ltE_trans {a b c : El} (ha : LowE a) (hb : LowE b) (hc : LowE c) (h1 : ltE a b) (h2 : ltE b c) : ltE a c := by
  rcases h1 with h1 | ⟨e1, h1⟩
  · rcases h2 with h2 | ⟨e2, h2⟩
    · exact .inl (ltF.trans ha.pos hb.pos hc.pos h1 h2.le)
    · exact .inl (e2 ▸ h1)
  · rcases h2 with h2 | ⟨e2, h2⟩
    · exact .inl (e1 ▸ h2)
    · exact .inr ⟨e1.trans e2, lex_trans h1 h2⟩
theorem ltE_tri {a b : El} (ha : LowE a) (hb : LowE b) (l : a.2.length = b.2.length) (h1 : ¬ ltE a b) (h2 : ¬ ltE b a) : a = b := by
  have e : a.1 = b.1 := by
    rw [← ha.low, ← hb.low]
    exact low_eq ha.pos hb.pos (ltF.not fun z => h2 (.inl z)) (ltF.not fun z => h1 (.inl z))
  refine Prod.ext e (lex_tri l ?_ ?_)
  · cases h : HT.lexLt a.2 b.2 with
    | false => rfl
    | true => exact absurd (.inr ⟨e, h⟩) h1
  · cases h : HT.lexLt b.2 a.2 with
    | false => rfl
    | true => exact absurd (.inr ⟨e.symm, h⟩) h2
end KT

/-! Own rules: math.lcm; sorted of tuples (whole number, list of whole numbers, ..); in, of lists. -/
namespace KT
open PySem PySem.Spec PyProof.Rows L2
/-! ### lcm -/
def rLcm : List V → Hp → VK → Prop := fun vs H Q => ∃ a b : Int, vs = [.int a, .int b] ∧ a.natAbs < 2 ^ 2000 ∧ b.natAbs < 2 ^ 64 ∧ Q (.int ((Nat.lcm a.natAbs b.natAbs : Nat) : Int)) H
theorem cr_lcm {X : Cx} : CallR X (.builtin "math.lcm") rLcm := by
  intro pins s σ H vs us Q I r h
  obtain ⟨a, b, rfl, ha, hb, q⟩ := h
  obtain ⟨t, u, rfl⟩ := Vals.int2 r
  have g1 : (1 : Nat) < 2 ^ 2000 := Nat.one_lt_two_pow (by decide)
  have g2 : (2 : Nat) ^ 64 ≤ 2 ^ 2000 := Nat.pow_le_pow_right (by decide) (by decide)
  have h1 : (max 1 a.natAbs).log2 ≤ 1999 := PySem.W.mg_log (Nat.max_lt.mpr ⟨g1, ha⟩)
  have h2 : (max a.natAbs b.natAbs).log2 ≤ 1999 := PySem.W.mg_log (Nat.max_lt.mpr ⟨ha, Nat.lt_of_lt_of_le hb g2⟩)
  have e1 : Nat.lcm 1 a.natAbs = a.natAbs := PySem.W.mc_lcm_one _
  have hsz : ((((Nat.lcm 1 a.natAbs).lcm b.natAbs : Nat) : Int)).natAbs.log2 < bitsLine := by
    rw [e1]
    refine PySem.W.mc_size (k := 34) ?_ (by decide)
    refine Nat.le_trans (PySem.W.mc_lcm_le _ _) (Nat.le_trans (Nat.mul_le_mul (Nat.le_of_lt ha) (Nat.le_of_lt hb)) ?_)
    rw [← Nat.pow_add]
    exact Nat.pow_le_pow_right (by decide) (by decide)
  refine PySem.call_function_meets PySem.W.MGF.kind_lcm PySem.W.MGF.plain_lcm PySem.W.MGF.entry_lcm (PySem.W.MGF.args_lcm _ _) (PySem.W.mg_run_lcm a t b u (by omega) (by omega) hsz).meets ?_
  rw [e1]
  exact ⟨.int _, H, I.tok _, ⟨_, rfl⟩, q⟩
/-! ### in, of nested data -/
theorem op_inDK {X : Cx} {K : PySem.W.Frag} (hu : X.A.units + 65 < cLine) (h : X.K = K) : OpR X (compareOp .In) (rInD K) := by subst h; exact op_inD hu
theorem op_notInDK {X : Cx} {K : PySem.W.Frag} (hu : X.A.units + 65 < cLine) (h : X.K = K) : OpR X (compareOp .NotIn) (rNotInD K) := by subst h; exact op_notInD hu
/-! ### sorted of entries -/
theorem lex_asym : ∀ {a b : List Int}, HT.lexLt a b = true → HT.lexLt b a = false
  | [], [], h => by rw [HT.lexLt_nil_nil] at h; cases h
  | [], _ :: _, _ => HT.lexLt_cons_nil ..
  | _ :: _, [], h => by rw [HT.lexLt_cons_nil] at h; cases h
  | x :: a, y :: b, h => by
    rw [HT.lexLt_cons] at h ⊢
    by_cases e : x = y
    · rw [if_pos e] at h
      rw [if_pos e.symm]
      exact lex_asym h
    · rw [if_neg e] at h
      rw [if_neg (fun z => e z.symm)]
      have := of_decide_eq_true h
      exact decide_eq_false (by omega)
theorem lex_ntr : ∀ {a b c : List Int}, HT.lexLt b a = false → HT.lexLt c b = false → HT.lexLt c a = false
  | [], _, [], _, _ => HT.lexLt_nil_nil
  | [], _, _ :: _, _, _ => HT.lexLt_cons_nil ..
  | _ :: _, [], _, h, _ => by rw [HT.lexLt_nil_cons] at h; cases h
  | _ :: _, _ :: _, [], _, h => by rw [HT.lexLt_nil_cons] at h; cases h
  | x :: a, y :: b, z :: c, h1, h2 => by
    rw [HT.lexLt_cons] at h1 h2 ⊢
    by_cases e1 : y = x
    · rw [if_pos e1] at h1
      by_cases e2 : z = y
      · rw [if_pos e2] at h2
        rw [if_pos (e2.trans e1)]
        exact lex_ntr h1 h2
      · rw [if_neg e2] at h2
        have := of_decide_eq_false h2
        rw [if_neg (by omega)]
        exact decide_eq_false (by omega)
    · rw [if_neg e1] at h1
      have a1 := of_decide_eq_false h1
      by_cases e2 : z = y
      · rw [if_neg (by omega)]
        exact decide_eq_false (by omega)
      · rw [if_neg e2] at h2
        have a2 := of_decide_eq_false h2
        rw [if_neg (by omega)]
        exact decide_eq_false (by omega)
def lexE (p q : Int × List Int) : Bool := if p.1 = q.1 then HT.lexLt p.2 q.2 else decide (p.1 < q.1)
theorem swo_lexE {α : Type} (k : α → Int × List Int) : SrtO.Swo fun v u => lexE (k v) (k u) := by
  refine ⟨fun x y h => ?_, fun x y z h1 h2 => ?_⟩
  · unfold lexE at h ⊢
    by_cases e : (k x).1 = (k y).1
    · rw [if_pos e] at h
      rw [if_pos e.symm]
      exact lex_asym h
    · rw [if_neg e] at h
      rw [if_neg (fun z => e z.symm)]
      have := of_decide_eq_true h
      exact decide_eq_false (by omega)
  · unfold lexE at h1 h2 ⊢
    by_cases e1 : (k y).1 = (k x).1
    · rw [if_pos e1] at h1
      by_cases e2 : (k z).1 = (k y).1
      · rw [if_pos e2] at h2
        rw [if_pos (e2.trans e1)]
        exact lex_ntr h1 h2
      · rw [if_neg e2] at h2
        have := of_decide_eq_false h2
        rw [if_neg (by omega)]
        exact decide_eq_false (by omega)
    · rw [if_neg e1] at h1
      have a1 := of_decide_eq_false h1
      by_cases e2 : (k z).1 = (k y).1
      · rw [if_neg (by omega)]
        exact decide_eq_false (by omega)
      · rw [if_neg e2] at h2
        have a2 := of_decide_eq_false h2
        rw [if_neg (by omega)]
        exact decide_eq_false (by omega)
/-- a tuple (whole number, list of whole numbers, something) -/
structure EntAt (h : Heap) (v : Value) (p : Int × List Int) : Prop where
  ex : ∃ (T r q : Addr) (t : Tok) (its : Array Value) (as : List Addr), v = .ref T ∧ (∃ o n, h.get? T = some o ∧ o.cls = .type "tuple" ∧ o.data = .seq #[.int p.1 t, .ref r, .ref q] n) ∧ PlainL h r its ∧ IntsAre its.toList p.2 ∧ Reads h (.ref r) (.list (p.2.map PyData.int)) as
theorem EntAt.keeps {h h' : Heap} {v : Value} {p : Int × List Int} (e : EntAt h v p) (k : ∀ b o, h.get? b = some o → h'.get? b = some o) : EntAt h' v p := by
  obtain ⟨T, r, q, t, its, as, e1, ⟨o, n, e2, e3, e4⟩, e5, e6, e7⟩ := e.ex
  exact ⟨T, r, q, t, its, as, e1, ⟨o, n, k _ _ e2, e3, e4⟩, e5.keeps k, e6, Reads.keeps k e7⟩
theorem canLay_intsL (ns : List Int) : (PyData.list (ns.map PyData.int)).canLay0 = true := by
  simp only [PyData.canLay0]
  induction ns with
  | nil => simp [PyData.canLayAll0]
  | cons n ns ih => simp [PyData.canLayAll0, PyData.canLay0, ih]
theorem depth_intsL (ns : List Int) : (PyData.list (ns.map PyData.int)).depth ≤ 3 := by
  have : PyData.depthAll (ns.map PyData.int) ≤ 1 := by
    induction ns with
    | nil => simp [PyData.depthAll]
    | cons n ns ih =>
      simp [PyData.depthAll, PyData.depth]
      omega
  simp only [PyData.depth]
  omega
theorem eqvAll_intsL : ∀ a b : List Int, PyData.eqvAll (a.map PyData.int) (b.map PyData.int) = decide (a = b)
  | [], [] => by simp [PyData.eqvAll]
  | [], _ :: _ => by simp [PyData.eqvAll]
  | _ :: _, [] => by simp [PyData.eqvAll]
  | x :: a, y :: b => by
    have ih := eqvAll_intsL a b
    simp only [List.map_cons, PyData.eqvAll, PyData.eqv, ih]
    by_cases e : x = y
    · subst e
      simp
    · have : (x == y) = false := by simpa using e
      rw [this, Bool.false_and]
      exact (decide_eq_false (fun z => e (List.cons.inj z).1)).symm
theorem eqv_intsL (a b : List Int) : PyData.eqv (.list (a.map PyData.int)) (.list (b.map PyData.int)) = decide (a = b) := by
  simp only [PyData.eqv]
  exact eqvAll_intsL a b
theorem ent_cmp {prog : Program} {w : World} {A : Around} {s : Shared} {vs : List Value} {k : Value → Int × List Int} (hp : ∀ v ∈ vs, EntAt s.heap v (k v)) (inj : ∀ v ∈ vs, ∀ u ∈ vs, k v = k u → v = u) (hu : A.units + 10 < cLine) :
    SrtO.Cmp prog w A s (tuples' true) (fun p => p.1 ∈ vs) (SrtO.lt2 fun v u => lexE (k v) (k u)) := by
  rintro ⟨p, p2⟩ ⟨q, q2⟩ hm hm'
  obtain ⟨T, r, z, t, its, as, e1, ⟨o, n, e2, e3, e4⟩, e5, e6, e7⟩ := (hp _ hm).ex
  obtain ⟨T', r', z', t', its', as', e1', ⟨o', n', e2', e3', e4'⟩, e5', e6', e7'⟩ := (hp _ hm').ex
  have inj' : k p = k q → p = q := inj _ hm _ hm'
  simp only at e1 e1' e4 e4' e6 e6' e7 e7'
  subst e1
  subst e1'
  show wpAny (model prog w) A (keyLt' (tuples' true) (.ref T) (.ref T')) (fun r s' => s' = s ∧ r = lexE (k (.ref T)) (k (.ref T'))) (fun _ _ => False) s
  refine PySem.W.kat_lt e2 e4 e2' e4' ?_
  show PySem.W.KatLex prog w A true (decide (3 < 3)) _ [(.int (k (.ref T)).1 t, .int (k (.ref T')).1 t'), (.ref r, .ref r'), (.ref z, .ref z')] 0 s
  generalize hkx : k (.ref T) = x at *
  generalize hky : k (.ref T') = y at *
  refine PySem.W.kat_cons (SeqAt.EqAt.int_int x.1 t y.1 t' prog w _ _ ?_)
  refine PySem.W.kat_go (fun f1 => ?_) (fun f1 => ?_)
  · have ex : x.1 = y.1 := by simpa using f1
    have le : lexE x y = HT.lexLt x.2 y.2 := if_pos ex
    refine PySem.W.kat_yes (PySem.W.kat_cons (SeqAt.eqAt_reads _ _ A s _ _ _ _ e7 e7' (canLay_intsL _) (canLay_intsL _) (by have := depth_intsL x.2; omega) prog w _ _ ?_))
    rw [eqv_intsL]
    refine PySem.W.kat_go (fun f2 => ?_) (fun f2 => ?_)
    · have ey : x.2 = y.2 := of_decide_eq_true f2
      have tt : T = T' := by
        have := inj' (Prod.ext ex ey)
        injection this
      subst tt
      have eo : o = o' := Option.some.inj (e2.symm.trans e2')
      subst eo
      have ez : z = z' := by
        have := e4.symm.trans e4'
        injection this with h1 h2
        have h3 := congrArg (fun a : Array Value => a.toList) h1
        injection h3 with _ h4
        injection h4 with _ h5
        injection h5 with h6 _
        injection h6
      subst ez
      refine PySem.W.kat_yes (PySem.W.kat_cons (SeqAt.EqAt.same _ prog w _ _ (PySem.W.kat_yes (PySem.W.kat_nil ⟨rfl, ?_⟩))))
      rw [le, ey, lex_irr]
      rfl
    · refine PySem.W.kat_no (PySem.W.kat_one _ _ (ltLst e5 e5' e6 e6' (by omega) ?_))
      exact (show s = s ∧ HT.lexLt x.2 y.2 = lexE x y from ⟨rfl, le.symm⟩)
  · have ex : ¬ x.1 = y.1 := by simpa using f1
    have le : lexE x y = decide (x.1 < y.1) := if_neg ex
    exact PySem.W.kat_no (oneLt_int ⟨rfl, le.symm⟩)
theorem ents_first {h : Heap} {k : Value → Int × List Int} : ∀ {vs : List Value}, (∀ v ∈ vs, EntAt h v (k v)) → ∃ fs : List Value, PySem.W.KatTups h vs fs ∧ fs.length = vs.length ∧ ∀ f ∈ fs, ∃ x t, f = Value.int x t
  | [], _ => ⟨[], PySem.W.KatTups.nil, rfl, fun _ hm => by simp at hm⟩
  | v :: vs, hp => by
    obtain ⟨fs, h1, h2, h3⟩ := ents_first (vs := vs) fun v' hm => hp v' (List.mem_cons_of_mem _ hm)
    obtain ⟨T, r, z, t, its, as, e1, ⟨o, n, e2, e3, e4⟩, _⟩ := (hp v List.mem_cons_self).ex
    rw [e1] at e4 ⊢
    refine ⟨.int (k (.ref T)).1 t :: fs, PySem.W.KatTups.cons e2 e3 e4 rfl h1, by rw [List.length_cons, List.length_cons, h2], fun f hm => ?_⟩
    rcases List.mem_cons.mp hm with rfl | hm
    · exact ⟨_, t, rfl⟩
    · exact h3 f hm
theorem ents_sortable {prog : Program} {w : World} {A : Around} {s : Shared} {a : Addr} {vs : List Value} {k : Value → Int × List Int} (h0 : 0 < vs.length) (hp : ∀ h' : Heap, (∀ b o, b ≠ a → s.heap.get? b = some o → h'.get? b = some o) → ∀ v ∈ vs, EntAt h' v (k v)) (inj : ∀ v ∈ vs, ∀ u ∈ vs, k v = k u → v = u) (hu : A.units + 10 < cLine) :
    SrtO.SortableO prog w A s a vs fun v u => lexE (k v) (k u) := by
  intro h' keep
  have hp' := hp h' keep
  obtain ⟨fs, h1, h2, h3⟩ := ents_first hp'
  refine ⟨tuples' true, fun Q E hq => ?_, ent_cmp (s := { s with heap := h' }) hp' inj hu⟩
  refine PySem.W.kat_kind (T := .type "int") h1 (by omega) (fun f hm => ?_) (by rfl) ?_
  · obtain ⟨x, t, rfl⟩ := h3 f hm
    exact PySem.W.Looks.now
  · have e : (Value.type "int" != Value.type "tuple") = true := by first | decide +kernel | rfl | decide
    rw [e]
    exact hq
/-- sorted(xs), xs a list of tuples (whole number, list of whole numbers, something), no two alike in the first two -/
def rSortedE (K : PySem.W.Frag) : List V → Hp → VK → Prop := fun vs H Q => ∃ (a : Addr) (xs : List V) (k : V → Int × List Int), vs = [V.ref a] ∧ SqL K H a xs ∧ (∀ x ∈ xs, ∃ T r q, x = V.ref T ∧ SqT K H T [.int (k x).1, .ref r, .ref q] ∧ SqL K H r ((k x).2.map V.int)) ∧ (∀ x ∈ xs, ∀ y ∈ xs, k x = k y → x = y) ∧
  ∀ ys p, ys.Pairwise (fun x y => lexE (k y) (k x) = false) → ys.Perm xs → H p = none → Q (.ref p) (upd H p (.lst ys))
theorem cr_sortedE {X : Cx} {K : PySem.W.Frag} (hu : X.A.units + 20 < cLine) (hK : X.K = K) : CallR X (.builtin "sorted") (rSortedE K) := by
  subst hK
  intro pins s σ H vs us Q I r h
  obtain ⟨a, xs, k, rfl, hs, hx, inj, q⟩ := h
  obtain ⟨its, rv, hl, hz⟩ := I.list hs
  obtain rfl := Vals.ref1 r
  obtain ⟨e1, e2⟩ := refs_back rv fun x m => by
    obtain ⟨t, _, _, e, _⟩ := hx x m
    exact ⟨t, e⟩
  have back : ∀ v ∈ its, backV v ∈ xs ∧ RelV (backV v) v := fun v hv => by
    obtain ⟨t, rfl⟩ := e2 v hv
    exact ⟨by rw [e1]; exact List.mem_map.mpr ⟨_, hv, rfl⟩, rfl⟩
  have ents : ∀ v ∈ its, EntAt s.heap v (k (backV v)) := fun v hv => by
    obtain ⟨t, rfl⟩ := e2 v hv
    have hm := (back _ hv).1
    obtain ⟨T, ra, qa, e, hT, hr⟩ := hx _ hm
    cases e
    obtain ⟨its2, rv2, pt, _⟩ := I.tuple hT
    obtain ⟨its3, rv3, p3, _⟩ := I.list hr
    obtain ⟨as, rd⟩ := Dp.reads I _ _ (.ref ra) (dp_ints hr) rfl
    obtain ⟨t1, its4, rfl⟩ : ∃ t1, ∃ _ : Unit, its2 = [Value.int (k (backV (.ref t))).1 t1, .ref ra, .ref qa] := by
      cases rv2 with
      | cons a1 b1 =>
        cases b1 with
        | cons a2 b2 =>
          cases b2 with
          | cons a3 b3 =>
            cases b3
            obtain ⟨t1, rfl⟩ := a1
            cases a2
            cases a3
            exact ⟨t1, (), rfl⟩
    obtain ⟨o, ho, hc, n, hd⟩ := pt
    exact ⟨t, ra, qa, t1, _, as, rfl, ⟨o, n, ho, hc, hd⟩, p3, L2.intsAre_of rv3, rd⟩
  have inj' : ∀ v ∈ its, ∀ u ∈ its, k (backV v) = k (backV u) → v = u := fun v hv u hu' e => by
    have z := inj _ (back v hv).1 _ (back u hu').1 e
    obtain ⟨t, rfl⟩ := e2 v hv
    obtain ⟨t', rfl⟩ := e2 u hu'
    cases z
    rfl
  refine SrtO.sorted_ord (swo_lexE fun v => k (backV v)) hl.isList (by rw [← rv.length]; exact hz) (fun h2 h₁ b hb kk => ?_) fun out hs hb => ?_
  · exact ents_sortable (s := { s with heap := h₁ }) (by omega) (fun h' keep v hv => (ents v hv).keeps fun c o e => keep c o (kk c o e).1 (kk c o e).2) inj' (by show X.A.units + 1 + 1 + 10 < _; omega)
  · have h3 : ∀ u ∈ out, ∃ a, u = Value.ref a := fun u hu => e2 u (hb.perm.mem_iff.mp hu)
    obtain ⟨n, hn⟩ := PyProof.Rows.sortedAll_at s.heap its out.toArray
    have pm : (out.map backV).Perm xs := by
      rw [e1]
      exact hb.perm.map backV
    refine ⟨.ref _, upd H (s.heap.objs.size + 1) (.lst (out.map backV)), I.laid (t' := s.toks) (fun _ _ e => PyProof.Rows.sortedAll_old e) (Nat.le_succ _) ⟨by rw [pm.length_eq]; exact hz, out, n, vals_back h3, ?_⟩, rfl, q _ _ (List.pairwise_map.mpr hs) pm (I.hok.fresh (Nat.le_succ _))⟩
    exact hn
end KT

/-! All readings that a width allows: the mathematics of the package's readings. -/
namespace KT
open PySem PySem.Spec PyProof.Rows L2
/-! ### one number by a unit -/
/-- by the unit u the width w lets the time t be the number k -/
def fitsU (t k : Int) (u w : Fr) : Prop := (k * w.2 - w.1) * u.1 ≤ t * w.2 * u.2 ∧ t * w.2 * u.2 ≤ (k * w.2 + w.1) * u.1
theorem kind_far {n k l : Int} (hk : k ∈ kinds n) (hl : l ∈ kinds n) (h : k < l) : k + 2 ≤ l := by
  rcases kinds_le hk with e | e | e <;> rcases kinds_le hl with f | f | f <;> omega
theorem fits_lt {t k l : Int} {u w : Fr} (W : Wid w) (hu : 0 < u.1) (hkl : k + 2 ≤ l) (a : fitsU t k u w) (b : fitsU t l u w) : False := by
  have h : (l * w.2 - w.1) * u.1 ≤ (k * w.2 + w.1) * u.1 := Int.le_trans b.1 a.2
  have h2 := Int.le_of_mul_le_mul_right h hu
  have p := W.pos
  have h3 : (k + 2) * w.2 ≤ l * w.2 := Int.mul_le_mul_of_nonneg_right hkl (Int.le_of_lt p)
  rw [Int.add_mul] at h3
  have := W.lt
  omega
theorem fits_one {n t k l : Int} {u w : Fr} (W : Wid w) (hu : 0 < u.1) (hk : k ∈ kinds n) (hl : l ∈ kinds n) (a : fitsU t k u w) (b : fitsU t l u w) : k = l := by
  rcases Int.lt_trichotomy k l with h | h | h
  · exact absurd (fits_lt W hu (kind_far hk hl h) a b) id
  · exact h
  · exact absurd (fits_lt W hu (kind_far hl hk h) b a) id
theorem fits_iff {ts ks : List Int} {w u : Fr} {i : Nat} : fitsU (at_ ts i) (at_ ks i) u w ↔ leF (lowU ts ks w i) u ∧ leF u (highU ts ks w i) := by
  unfold fitsU leF lowU highU
  simp only
  rw [Int.mul_comm u.1 (at_ ks i * w.2 + w.1), Int.mul_comm u.1 (at_ ks i * w.2 - w.1)]
  exact And.comm
/-! ### all readings of some times -/
/-- the times are good, the first one's number is b -/
structure Tms (ts : List Int) : Prop where
  le : ts.length ≤ 25
  all : ∀ (i : Nat) (t : Int), ts[i]? = some t → 1 ≤ t ∧ t ≤ 9999
theorem Tps.tms {ts : List Int} (h : Tps ts) : Tms ts := ⟨h.le, h.all⟩
theorem Tms.tr {ts ks : List Int} {b : Int} (h : Tms ts) (r : Rdg b ks) (l : ks.length = ts.length) : TR ts ks := ⟨h.all, fun i z e => kinds_le (r i z e), l, h.le⟩
structure Allowed (b : Int) (ts : List Int) (w : Fr) (ks : List Int) : Prop where
  rd : Rdg b ks
  len : ks.length = ts.length
  no : ∀ i j, i < ts.length → j < ts.length → leF (askF ts ks i j) w
structure FitsAll (b : Int) (ts : List Int) (u w : Fr) (ks : List Int) : Prop where
  rd : Rdg b ks
  len : ks.length = ts.length
  fit : ∀ i, i < ts.length → fitsU (at_ ts i) (at_ ks i) u w
theorem Rdg.at {b : Int} {ks : List Int} (h : Rdg b ks) {i : Nat} (hi : i < ks.length) : at_ ks i ∈ kinds (b + i) := h i _ (get_at hi)
theorem list_ext_at {a b : List Int} (l : a.length = b.length) (h : ∀ i, i < a.length → at_ a i = at_ b i) : a = b := by
  apply List.ext_getElem? 
  intro i
  by_cases c : i < a.length
  · rw [get_at c, get_at (by omega), h i c]
  · rw [List.getElem?_eq_none (by omega), List.getElem?_eq_none (by omega)]
theorem FitsAll.one {b : Int} {ts ks ls : List Int} {u w : Fr} (W : Wid w) (hu : 0 < u.1) (a : FitsAll b ts u w ks) (c : FitsAll b ts u w ls) : ks = ls :=
  list_ext_at (a.len.trans c.len.symm) fun i hi => fits_one W hu (a.rd.at hi) (c.rd.at (by rw [c.len, ← a.len]; exact hi)) (a.fit i (by rw [← a.len]; exact hi)) (c.fit i (by rw [← a.len]; exact hi))
theorem FitsAll.allowed {b : Int} {ts ks : List Int} {u w : Fr} (T : Tms ts) (W : Wid w) (hu : 0 < u.2) (a : FitsAll b ts u w ks) : Allowed b ts w ks := by
  refine ⟨a.rd, a.len, fun i j hi hj => ?_⟩
  have tr := T.tr a.rd a.len
  have h1 := (fits_iff.mp (a.fit i hi)).1
  have h2 := (fits_iff.mp (a.fit j hj)).2
  exact (unit_ask W).mp (leF.trans (tr.lowB W hi).1 hu (tr.highB W hj).1 h1 h2)
/-- the greatest of some -/
theorem max_at {f : Nat → Fr} : ∀ n, 0 < n → (∀ i, i < n → 0 < (f i).2) → ∃ i, i < n ∧ ∀ j, j < n → leF (f j) (f i)
  | 0, h, _ => absurd h (Nat.lt_irrefl 0)
  | 1, _, _ => ⟨0, Nat.zero_lt_one, fun j hj => by rw [Nat.lt_one_iff.mp hj]; exact leF.refl _⟩
  | n + 2, _, p => by
    obtain ⟨i, hi, m⟩ := max_at (n + 1) (Nat.succ_pos n) fun i hi => p i (Nat.lt_succ_of_lt hi)
    by_cases c : ltF (f i) (f (n + 1))
    · refine ⟨n + 1, Nat.lt_succ_self _, fun j hj => ?_⟩
      rcases Nat.lt_succ_iff_lt_or_eq.mp hj with h | rfl
      · exact leF.trans (p j (by omega)) (p i (by omega)) (p (n + 1) (by omega)) (m j h) c.le
      · exact leF.refl _
    · refine ⟨i, Nat.lt_succ_of_lt hi, fun j hj => ?_⟩
      rcases Nat.lt_succ_iff_lt_or_eq.mp hj with h | rfl
      · exact m j h
      · exact ltF.not c
theorem Allowed.unit {b : Int} {ts ks : List Int} {w : Fr} (T : Tms ts) (pos : 0 < ts.length) (W : Wid w) (a : Allowed b ts w ks) : ∃ i, i < ts.length ∧ FitsAll b ts (lowU ts ks w i) w ks := by
  have tr := T.tr a.rd a.len
  obtain ⟨i, hi, m⟩ := max_at (f := lowU ts ks w) ts.length pos fun i hi => (tr.lowB W hi).1
  exact ⟨i, hi, a.rd, a.len, fun j hj => fits_iff.mpr ⟨m j hj, (unit_ask W).mpr (a.no i j hi hj)⟩⟩
/-- the units that are tried -/
def unitsOf (b : Int) (ts : List Int) (w : Fr) : List Fr := (List.range ts.length).flatMap fun (i : Nat) => (kinds (b + (i : Int))).map fun k => (at_ ts i * w.2, k * w.2 + w.1)
theorem mem_units {b : Int} {ts : List Int} {w u : Fr} : u ∈ unitsOf b ts w ↔ ∃ (i : Nat) (k : Int), i < ts.length ∧ k ∈ kinds (b + (i : Int)) ∧ u = (at_ ts i * w.2, k * w.2 + w.1) := by
  unfold unitsOf
  rw [List.mem_flatMap]
  constructor
  · rintro ⟨i, hi, h⟩
    obtain ⟨k, hk, rfl⟩ := List.mem_map.mp h
    exact ⟨i, k, List.mem_range.mp hi, hk, rfl⟩
  · rintro ⟨i, k, hi, hk, rfl⟩
    exact ⟨i, List.mem_range.mpr hi, List.mem_map.mpr ⟨k, hk, rfl⟩⟩
theorem kinds_len3 (n : Int) : (kinds n).length ≤ 3 := by
  rcases par n with e | e
  · rw [kinds_even e]; decide
  · rw [kinds_odd e]; decide
theorem flat_le {α : Type} (f : Nat → List α) (c : Nat) (h : ∀ i, (f i).length ≤ c) : ∀ l : List Nat, (l.flatMap f).length ≤ c * l.length
  | [] => by simp
  | a :: l => by
    rw [List.flatMap_cons, List.length_append, List.length_cons, Nat.mul_succ]
    have := h a
    have := flat_le f c h l
    omega
theorem units_len (b : Int) (ts : List Int) (w : Fr) : (unitsOf b ts w).length ≤ 3 * ts.length := by
  have h := flat_le (fun (i : Nat) => (kinds (b + (i : Int))).map fun k => (at_ ts i * w.2, k * w.2 + w.1)) 3 (fun i => by rw [List.length_map]; exact kinds_len3 _) (List.range ts.length)
  rw [List.length_range] at h
  exact h
theorem unit_pos {b : Int} {ts : List Int} {w u : Fr} (T : Tms ts) (W : Wid w) (h : u ∈ unitsOf b ts w) : (0 < u.1 ∧ u.1 ≤ 199980000000) ∧ 0 < u.2 ∧ u.2 ≤ 160000000 := by
  obtain ⟨i, k, hi, hk, rfl⟩ := mem_units.mp h
  have t := T.all i _ (get_at hi)
  have p := W.pos
  have c := W.le
  have a := W.lo
  have d := W.lt
  have h1 : at_ ts i * w.2 ≤ 9999 * w.2 := Int.mul_le_mul_of_nonneg_right t.2 (by omega)
  refine ⟨⟨Int.mul_pos (by omega) p, by show at_ ts i * w.2 ≤ _; omega⟩, ?_⟩
  rcases kinds_le hk with e | e | e <;> rw [e] <;> simp only <;> omega
theorem low_mem {b : Int} {ts ks : List Int} {w : Fr} {i : Nat} (rd : Rdg b ks) (l : ks.length = ts.length) (hi : i < ts.length) : lowU ts ks w i ∈ unitsOf b ts w :=
  mem_units.mpr ⟨i, at_ ks i, hi, rd.at (by omega), rfl⟩
/-- what is found by some units -/
structure FoundBy (b : Int) (ts : List Int) (w : Fr) (us : List Fr) (rs : List (List Int)) : Prop where
  nd : rs.Nodup
  le : rs.length ≤ us.length
  iff : ∀ ks, ks ∈ rs ↔ ∃ u ∈ us, FitsAll b ts u w ks
theorem FoundBy.nil (b : Int) (ts : List Int) (w : Fr) : FoundBy b ts w [] [] := ⟨List.nodup_nil, Nat.le_refl _, fun ks => ⟨fun h => absurd h List.not_mem_nil, fun ⟨_, h, _⟩ => absurd h List.not_mem_nil⟩⟩
theorem FoundBy.none {b : Int} {ts : List Int} {w u : Fr} {us : List Fr} {rs : List (List Int)} (f : FoundBy b ts w us rs) (h : ∀ ks, ¬ FitsAll b ts u w ks) : FoundBy b ts w (us ++ [u]) rs :=
  ⟨f.nd, by rw [List.length_append]; have := f.le; exact Nat.le_trans this (Nat.le_add_right ..), fun ks => by
    rw [f.iff]
    constructor
    · rintro ⟨u', h1, h2⟩
      exact ⟨u', List.mem_append_left _ h1, h2⟩
    · rintro ⟨u', h1, h2⟩
      rcases List.mem_append.mp h1 with h1 | h1
      · exact ⟨u', h1, h2⟩
      · rw [List.mem_singleton.mp h1] at h2
        exact absurd h2 (h ks)⟩
theorem FoundBy.old {b : Int} {ts : List Int} {w u : Fr} {us : List Fr} {rs : List (List Int)} {ks : List Int} (W : Wid w) (hu : 0 < u.1) (f : FoundBy b ts w us rs) (h : FitsAll b ts u w ks) (m : ks ∈ rs) : FoundBy b ts w (us ++ [u]) rs :=
  ⟨f.nd, by rw [List.length_append]; have := f.le; exact Nat.le_trans this (Nat.le_add_right ..), fun ls => by
    constructor
    · intro hl
      obtain ⟨u', h1, h2⟩ := (f.iff ls).mp hl
      exact ⟨u', List.mem_append_left _ h1, h2⟩
    · rintro ⟨u', h1, h2⟩
      rcases List.mem_append.mp h1 with h1 | h1
      · exact (f.iff ls).mpr ⟨u', h1, h2⟩
      · rw [List.mem_singleton.mp h1] at h2
        rw [h2.one W hu h]
        exact m⟩
theorem FoundBy.new {b : Int} {ts : List Int} {w u : Fr} {us : List Fr} {rs : List (List Int)} {ks : List Int} (W : Wid w) (hu : 0 < u.1) (f : FoundBy b ts w us rs) (h : FitsAll b ts u w ks) (m : ks ∉ rs) : FoundBy b ts w (us ++ [u]) (rs ++ [ks]) := by
  refine ⟨List.nodup_append.mpr ⟨f.nd, by simp, fun a ha c hc => by
    rw [List.mem_singleton.mp hc]
    exact fun z => m (z ▸ ha)⟩, by rw [List.length_append, List.length_append]; have := f.le; simp; omega, fun ls => ?_⟩
  rw [List.mem_append, List.mem_singleton]
  constructor
  · rintro (hl | rfl)
    · obtain ⟨u', h1, h2⟩ := (f.iff ls).mp hl
      exact ⟨u', List.mem_append_left _ h1, h2⟩
    · exact ⟨u, List.mem_append_right _ (List.mem_singleton.mpr rfl), h⟩
  · rintro ⟨u', h1, h2⟩
    rcases List.mem_append.mp h1 with h1 | h1
    · exact .inl ((f.iff ls).mpr ⟨u', h1, h2⟩)
    · rw [List.mem_singleton.mp h1] at h2
      exact .inr (h2.one W hu h)
/-- all readings that the width allows, each once -/
structure AllBy (b : Int) (ts : List Int) (w : Fr) (rs : List (List Int)) : Prop where
  nd : rs.Nodup
  le : rs.length ≤ 75
  iff : ∀ ks, ks ∈ rs ↔ Allowed b ts w ks
theorem FoundBy.all {b : Int} {ts : List Int} {w : Fr} {rs : List (List Int)} (T : Tms ts) (pos : 0 < ts.length) (W : Wid w) (f : FoundBy b ts w (unitsOf b ts w) rs) : AllBy b ts w rs := by
  refine ⟨f.nd, ?_, fun ks => ⟨fun h => ?_, fun h => ?_⟩⟩
  · have := f.le
    have := units_len b ts w
    have := T.le
    omega
  · obtain ⟨u, hu, h⟩ := (f.iff ks).mp h
    exact h.allowed T W (unit_pos T W hu).2.1
  · obtain ⟨i, hi, g⟩ := h.unit T pos W
    exact (f.iff ks).mpr ⟨_, low_mem h.rd h.len hi, g⟩
/-! ### least widths against a width -/
theorem bot_pos {ts ks : List Int} (tr : TR ts ks) (pos : 0 < ts.length) : 0 < (widthOf ts ks).1.2 := low_pos (best_ok tr pos).pos
theorem no_iff {ts ks : List Int} {w : Fr} (tr : TR ts ks) (pos : 0 < ts.length) (W0 : 0 ≤ w.1) (Wp : 0 < w.2) : (∀ i j, i < ts.length → j < ts.length → leF (askF ts ks i j) w) ↔ leF (widthOf ts ks).1 w := by
  have ok := best_ok tr pos
  have ls := low_self_le (f := (bestOf ts ks).1) ok.pos
  have bp := bot_pos tr pos
  constructor
  · intro h
    have : leF (bestOf ts ks).1 w := by
      rcases best_in (ts := ts) (ks := ks) with e | ⟨i, j, hi, hj, e⟩
      · rw [e]
        unfold leF
        simp only
        omega
      · rw [e]
        exact h i j hi hj
    exact leF.trans bp ok.pos Wp ls.1 this
  · intro h i j hi hj
    have a := best_ge tr pos hi hj
    exact leF.trans (tr.bot hi hj).1 bp Wp (leF.trans (tr.bot hi hj).1 ok.pos bp a ls.2) h
theorem Allowed.width {b : Int} {ts ks : List Int} {w : Fr} (T : Tms ts) (pos : 0 < ts.length) (W : Wid w) (a : Allowed b ts w ks) : leF (widthOf ts ks).1 w := (no_iff (T.tr a.rd a.len) pos W.lo W.pos).mp a.no
theorem allowed_iff {b : Int} {ts ks : List Int} {w : Fr} (T : Tms ts) (pos : 0 < ts.length) (W : Wid w) : Allowed b ts w ks ↔ Rdg b ks ∧ ks.length = ts.length ∧ leF (widthOf ts ks).1 w :=
  ⟨fun a => ⟨a.rd, a.len, a.width T pos W⟩, fun ⟨r, l, h⟩ => ⟨r, l, (no_iff (T.tr r l) pos W.lo W.pos).mpr h⟩⟩
/-- what a least width is -/
structure WOk (f : Fr) : Prop where
  t0 : 0 ≤ f.1
  t1 : f.1 ≤ 100000
  b0 : 0 < f.2
  b1 : f.2 ≤ 19998
  low : lowF f.1 f.2 = f
theorem width_ok {ts ks : List Int} (tr : TR ts ks) (pos : 0 < ts.length) : WOk (widthOf ts ks).1 := by
  have ok := best_ok tr pos
  have ab := low_top_abs (bestOf ts ks).1.1 _ ok.pos
  have bl := low_bot_le (t := (bestOf ts ks).1.1) ok.pos
  have o1 := ok.t0
  have o2 := ok.t1
  have o3 := ok.b
  refine ⟨Int.ediv_nonneg o1 (Int.le_of_lt (gI_pos ok.pos)), ?_, low_pos ok.pos, ?_, low_low ok.pos⟩
  · show (lowF _ _).1 ≤ _
    omega
  · show (lowF _ _).2 ≤ _
    omega
/-- the widest of all -/
def wideW : Fr := (19997, 19998)
theorem wide_wid : Wid wideW := ⟨by decide, by decide, by decide, by decide⟩
theorem below_wide {f : Fr} (h : WOk f) : leF f wideW ↔ f.1 < f.2 := by
  have a := h.b0
  have c := h.b1
  unfold leF wideW
  simp only
  constructor
  · intro z
    omega
  · intro z
    omega
/-- any width just below 1 -/
theorem below_other {f w : Fr} (h : WOk f) (W : Wid w) (hw : wideW.1 * w.2 ≤ w.1 * wideW.2) : leF f w ↔ f.1 < f.2 := by
  constructor
  · intro z
    have p := W.lt
    have q := W.pos
    have b := h.b0
    have z' : f.1 * w.2 ≤ w.1 * f.2 := z
    have z2 : w.1 * f.2 < w.2 * f.2 := Int.mul_lt_mul_of_pos_right p b
    have z3 : f.1 * w.2 < f.2 * w.2 := by
      rw [Int.mul_comm f.2 w.2]
      exact Int.lt_of_le_of_lt z' z2
    exact Int.lt_of_mul_lt_mul_right z3 (Int.le_of_lt q)
  · intro z
    exact leF.trans h.b0 (by decide) W.pos ((below_wide h).mpr z) hw
end KT
namespace KT
open PySem PySem.Spec PyProof.Rows L2
/-! ### heaps without one object -/
def hid (D : Addr) (H : Hp) : Hp := fun b => if b = D then none else H b
theorem hid_ne {D b : Addr} {H : Hp} (h : b ≠ D) : hid D H b = H b := if_neg h
theorem hid_some {D b : Addr} {H : Hp} {o : HO} (h : hid D H b = some o) : b ≠ D ∧ H b = some o := by
  unfold hid at h
  by_cases e : b = D
  · rw [if_pos e] at h
    cases h
  · rw [if_neg e] at h
    exact ⟨e, h⟩
theorem hid_same {D : Addr} {H : Hp} : Same (hid D H) H := fun _ _ h => (hid_some h).2
theorem same_hid {D : Addr} {H H' : Hp} (s : Same H H') : Same (hid D H) (hid D H') := fun b o h => by
  obtain ⟨n, e⟩ := hid_some h
  rw [hid_ne n]
  exact s _ _ e
theorem hid_upd {D : Addr} {H : Hp} {o : HO} : hid D (upd H D o) = hid D H := by
  funext b
  unfold hid
  by_cases e : b = D
  · rw [if_pos e, if_pos e]
  · rw [if_neg e, if_neg e, upd_ne e]
theorem hid_tup {D p : Addr} {H : Hp} {acc xs : List V} (hD : H D = some (.lst acc)) (h : H p = some (.tup xs)) : hid D H p = some (.tup xs) := by
  rw [hid_ne fun z => by rw [z, hD] at h; cases h]
  exact h
theorem hid_new {D p : Addr} {H H' : Hp} {o u : HO} (n : H p = none) (hD : H D = some o) (h : H' p = some u) : hid D H' p = some u := by
  rw [hid_ne (ne_of_none hD n).symm]
  exact h
/-- a comprehension without a test: what is told of each item holds of the heap without the new list -/
theorem lc_h {J : It} {n : Nat} {G : Hp → Prop} {Y : Nat → Hp → V → Hp → Prop} {g : TG} {te : TE} {vs : List Nat} {σ : L2.St} {H1 : Hp} {D : Addr} {Qd : Hp → Prop} (w : Walk J n G Y) (Pe : Nat → V → Hp → Prop) (mono : ∀ i v H H', Same H H' → Pe i v H → Pe i v H') (nD : H1 D = none) (hn : n ≤ 1000000) (hG : ∀ H, Same H1 H → G H)
    (hs : ∀ i x H H' (acc : List V) (k : V → Hp → Prop), i < n → Same H1 H → H D = some (.lst acc) → acc.length = i → (∀ j y, acc[j]? = some y → Pe j y (hid D H)) → Y i H x H' → (∀ y H4, Same H H4 → Pe i y (hid D H4) → k y H4) →
      g x (wipe σ vs) H' fun σ2 H2 => wipe σ2 vs = wipe σ vs ∧ te σ2 H2 k)
    (hd : ∀ H xs, Same H1 H → H D = some (.lst xs) → xs.length = n → (∀ i y, xs[i]? = some y → Pe i y (hid D H)) → Qd H) :
    ∃ W : Nat → Nat → Hp → Prop, (∃ m, W 0 m (upd H1 D (.lst []))) ∧ ∀ i m H, W i m H →
      (J.stop i H ∧ Qd H) ∨ (J.go i H ∧ ∃ Nx : Hp → Prop, (∀ H', Nx H' → ∃ m', m' < m ∧ W (i + 1) m' H') ∧ ∀ x H', J.yld i H x H' → g x (wipe σ vs) H' fun σ2 H2 => wipe σ2 vs = wipe σ vs ∧ tYes σ2 H2 fun b H3 =>
        if b = true then te σ2 H3 fun y H4 => ∃ acc, H4 D = some (.lst acc) ∧ acc.length < sizeLine ∧ Nx (upd H4 D (.lst (acc ++ [y]))) else Nx H3) := by
  refine lc_it w (tt := tYes) (fun i H => ∃ xs, Same H1 H ∧ H D = some (.lst xs) ∧ xs.length = i ∧ ∀ i y, xs[i]? = some y → Pe i y (hid D H)) ⟨[], sm nD, upd_same, rfl, fun i y h => by simp at h⟩ (fun i H _ ⟨_, s, _⟩ => hG H s) ?_ fun H ⟨xs, s, e, l, q⟩ => hd H xs s e l q
  rintro i x H H' hi ⟨xs, s, e, l, q⟩ y
  refine hs i x H H' xs _ hi s e l q y fun z H4 s4 p4 => ⟨xs, s4 _ _ e, lz' (by omega), xs ++ [z], same_put (s.trans s4) nD, upd_same, by rw [List.length_append, l]; rfl, fun j u hu => ?_⟩
  rw [hid_upd]
  by_cases hj : j < xs.length
  · rw [List.getElem?_append_left hj] at hu
    exact mono j u _ _ (same_hid s4) (q j u hu)
  · have e5 : j = i := by
      have := (List.getElem?_eq_some_iff.mp hu).1
      rw [List.length_append] at this
      simp at this
      omega
    subst e5
    rw [← l, List.getElem?_append_right (Nat.le_refl _), Nat.sub_self] at hu
    cases hu
    exact l ▸ p4
/-! ### parts -/
structure PartAt (K : PySem.W.Frag) (H : Hp) (v : V) (t n : Int) : Prop where
  ex : ∃ T q : Addr, v = .ref T ∧ H T = some (.tup [.int t, .ref q]) ∧ SqT K H q ((kinds n).map V.int)
theorem PartAt.same {K : PySem.W.Frag} {H H' : Hp} {v : V} {t n : Int} (h : PartAt K H v t n) (s : Same H H') : PartAt K H' v t n := by
  obtain ⟨T, q, a, b, c⟩ := h.ex
  exact ⟨T, q, a, s _ _ b, same_tup s c⟩
def PartsAt (K : PySem.W.Frag) (H : Hp) (vs : List V) (b : Nat) (ts : List Int) : Prop := vs.length = ts.length ∧ ∀ (i : Nat) (v : V), vs[i]? = some v → PartAt K H v (at_ ts i) ((b : Int) + (i : Int))
theorem PartsAt.same {K : PySem.W.Frag} {H H' : Hp} {vs : List V} {b : Nat} {ts : List Int} (h : PartsAt K H vs b ts) (s : Same H H') : PartsAt K H' vs b ts := ⟨h.1, fun i v e => (h.2 i v e).same s⟩
def slice (ts : List Int) (b e : Nat) : List Int := (ts.drop b).take (e - b)
theorem slice_len {ts : List Int} {b e : Nat} (h : e ≤ ts.length) (hb : b ≤ e) : (slice ts b e).length = e - b := by
  unfold slice
  rw [List.length_take, List.length_drop]
  omega
theorem slice_at {ts : List Int} {b e i : Nat} (h : i < e - b) : at_ (slice ts b e) i = at_ ts (b + i) := by
  unfold slice at_
  rw [List.getD_eq_getElem?_getD, List.getD_eq_getElem?_getD, List.getElem?_take_of_lt h, List.getElem?_drop]
theorem slice_all (ts : List Int) : slice ts 0 ts.length = ts := by
  unfold slice
  rw [List.drop_zero, Nat.sub_zero, List.take_length]
theorem Tms.slice {ts : List Int} (h : Tms ts) (b e : Nat) : Tms (KT.slice ts b e) := by
  refine ⟨?_, fun i t hi => ?_⟩
  · unfold KT.slice
    rw [List.length_take, List.length_drop]
    have := h.le
    omega
  · unfold KT.slice at hi
    by_cases c : i < e - b
    · rw [List.getElem?_take_of_lt c, List.getElem?_drop] at hi
      exact h.all _ _ hi
    · rw [List.getElem?_eq_none (by rw [List.length_take]; omega)] at hi
      cases hi
/-! ### promises -/
def spParts (K : PySem.W.Frag) : Sp := fun vs H Q _ => ∃ (a : Addr) (ts : List Int) (b e : Nat), vs = [.ref a, .int (b : Int), .int (e : Int)] ∧ SqL K H a (ts.map V.int) ∧ b ≤ e ∧ e ≤ ts.length ∧ ts.length ≤ 25 ∧
  ∀ (p : Addr) (xs : List V) (H' : Hp), H p = none → Same H H' → H' p = some (.lst xs) → PartsAt K H' xs b (slice ts b e) → Q (.ref p) H'
/-- a unit as it is tried -/
structure UnitB (u : Fr) : Prop where
  a0 : 0 < u.1
  a1 : u.1 ≤ 199980000000
  b0 : 0 < u.2
  b1 : u.2 ≤ 160000000
theorem unit_b {b : Int} {ts : List Int} {w u : Fr} (T : Tms ts) (W : Wid w) (h : u ∈ unitsOf b ts w) : UnitB u := by
  obtain ⟨⟨a, b⟩, c, d⟩ := unit_pos T W h
  exact ⟨a, b, c, d⟩
def spNumber (K : PySem.W.Frag) : Sp := fun vs H Q _ => ∃ (v : V) (u p : Addr) (t n : Int) (uu w : Fr), vs = [v, .ref u, .ref p] ∧ PartAt K H v t n ∧ SqT K H u (frV uu) ∧ SqT K H p (frV w) ∧ Wid w ∧ 1 ≤ t ∧ t ≤ 9999 ∧ UnitB uu ∧
  (∀ k ∈ kinds n, fitsU t k uu w → ∀ H', Same H H' → Q (.int k) H') ∧ ((∀ k ∈ kinds n, ¬ fitsU t k uu w) → ∀ H', Same H H' → Q .non H')
def spReadBy (K : PySem.W.Frag) : Sp := fun vs H Q _ => ∃ (a u p : Addr) (xs : List V) (b : Nat) (ts : List Int) (uu w : Fr), vs = [.ref a, .ref u, .ref p] ∧ SqL K H a xs ∧ PartsAt K H xs b ts ∧ Tms ts ∧ SqT K H u (frV uu) ∧ SqT K H p (frV w) ∧ Wid w ∧ UnitB uu ∧
  (∀ ks, FitsAll b ts uu w ks → ∀ (r : Addr) (H' : Hp), H r = none → Same H H' → H' r = some (.lst (ks.map V.int)) → Q (.ref r) H') ∧ ((∀ ks, ¬ FitsAll b ts uu w ks) → ∀ H', Same H H' → Q .non H')
def spLeastU (K : PySem.W.Frag) : Sp := fun vs H Q _ => ∃ (a p : Addr) (xs : List V) (b : Nat) (ts : List Int) (w : Fr), vs = [.ref a, .ref p] ∧ SqL K H a xs ∧ PartsAt K H xs b ts ∧ Tms ts ∧ SqT K H p (frV w) ∧ Wid w ∧
  ∀ (r : Addr) (us : List V) (H' : Hp), H r = none → Same H H' → H' r = some (.lst us) → FrAt H' us (unitsOf b ts w) → Q (.ref r) H'
/-- new rows -/
def RowsN (H H' : Hp) (xs : List V) (rs : List (List Int)) : Prop := xs.length = rs.length ∧ ∀ (i : Nat) (ks : List Int), rs[i]? = some ks → ∃ r : Addr, xs[i]? = some (.ref r) ∧ H r = none ∧ H' r = some (.lst (ks.map V.int))
def spAllowedR (K : PySem.W.Frag) : Sp := fun vs H Q _ => ∃ (a p : Addr) (xs : List V) (b : Nat) (ts : List Int) (w : Fr), vs = [.ref a, .ref p] ∧ SqL K H a xs ∧ PartsAt K H xs b ts ∧ Tms ts ∧ 0 < ts.length ∧ SqT K H p (frV w) ∧ Wid w ∧
  ∀ (r : Addr) (ys : List V) (rs : List (List Int)) (H' : Hp), H r = none → Same H H' → H' r = some (.lst ys) → RowsN H H' ys rs → AllBy b ts w rs → Q (.ref r) H'
def spCommon : Sp := fun vs H Q _ => ∃ (a : Addr) (xs : List V) (ws : List Fr), vs = [.ref a] ∧ H a = some (.lst xs) ∧ FrAt H xs ws ∧ (∀ f ∈ ws, 0 < f.2 ∧ f.2 ≤ 19998) ∧ ws.length ≤ 75 ∧
  ∀ (c : Int) (H' : Hp), 0 < c → c.natAbs < 2 ^ 1200 → (∀ f ∈ ws, f.2 ∣ c) → Same H H' → Q (.int c) H'
/-- new tuples (reading, width) -/
def ElsN (H H' : Hp) (vs : List V) (l : List El) : Prop := vs.length = l.length ∧ ∀ (i : Nat) (e : El), l[i]? = some e → ∃ T r q : Addr, vs[i]? = some (.ref T) ∧ H r = none ∧ H' T = some (.tup [.ref r, .ref q]) ∧ H' r = some (.lst (e.2.map V.int)) ∧ H' q = some (.tup (frV e.1))
theorem ElsN.same {H H1 H2 : Hp} {vs : List V} {l : List El} (h : ElsN H H1 vs l) (s : Same H1 H2) : ElsN H H2 vs l := ⟨h.1, fun i e he => by
  obtain ⟨T, r, q, a, n, b, c, d⟩ := h.2 i e he
  exact ⟨T, r, q, a, n, s _ _ b, s _ _ c, s _ _ d⟩⟩
/-- .. as seen from an older heap -/
theorem ElsN.old {H0 H H1 : Hp} {vs : List V} {l : List El} (h : ElsN H H1 vs l) (s : Same H0 H) : ElsN H0 H1 vs l := ⟨h.1, fun i e he => by
  obtain ⟨T, r, q, a, n, b, c, d⟩ := h.2 i e he
  exact ⟨T, r, q, a, s.free n, b, c, d⟩⟩
/-- all that the width allows, in order -/
structure OrdBy (b : Int) (ts : List Int) (w : Fr) (l : List El) : Prop where
  ord : l.Pairwise ltE
  le : l.length ≤ 75
  iff : ∀ e : El, e ∈ l ↔ Allowed b ts w e.2 ∧ e.1 = (widthOf ts e.2).1
def spInOrder (K : PySem.W.Frag) : Sp := fun vs H Q _ => ∃ (a p : Addr) (xs : List V) (b : Nat) (ts : List Int) (w : Fr), vs = [.ref a, .ref p] ∧ SqL K H a xs ∧ PartsAt K H xs b ts ∧ Tms ts ∧ 0 < ts.length ∧ SqT K H p (frV w) ∧ Wid w ∧
  ∀ (r : Addr) (ys : List V) (l : List El) (H' : Hp), H r = none → Same H H' → H' r = some (.lst ys) → ElsN H H' ys l → OrdBy b ts w l → Q (.ref r) H'
def spReadings (K : PySem.W.Frag) (C : Addr) : Sp := fun vs H Q _ => ∃ (x p la : Addr) (ts : List Int) (w : Fr), vs = [.ref x, .ref p] ∧ TapsAt C H x la ts ∧ Tps ts ∧ SqT K H p (frV w) ∧ Wid w ∧
  ∀ (r : Addr) (ys : List V) (l : List El) (H' : Hp), H r = none → Same H H' → H' r = some (.lst ys) → ElsN H H' ys l → OrdBy 0 ts w l → Q (.ref r) H'
def spBelow1 (C : Addr) : Sp := fun vs H Q _ => ∃ (x la : Addr) (ts : List Int), vs = [.ref x] ∧ TapsAt C H x la ts ∧ Tps ts ∧
  ∀ (r : Addr) (ys : List V) (l : List El) (H' : Hp), H r = none → Same H H' → H' r = some (.lst ys) → ElsN H H' ys l → OrdBy 0 ts wideW l → Q (.ref r) H'
def spNearest (C : Addr) : Sp := fun vs H Q _ => ∃ (x la : Addr) (ts : List Int), vs = [.ref x] ∧ TapsAt C H x la ts ∧ Tps ts ∧
  ∀ (T r q : Addr) (e : El) (l : List El) (H' : Hp), OrdBy 0 ts wideW (e :: l) → Same H H' → H r = none → H' T = some (.tup [.ref r, .ref q]) → H' r = some (.lst (e.2.map V.int)) → H' q = some (.tup (frV e.1)) → Q (.ref T) H'
def spNextW (C : Addr) : Sp := fun vs H Q _ => ∃ (x la : Addr) (ts : List Int), vs = [.ref x] ∧ TapsAt C H x la ts ∧ Tps ts ∧
  ∀ l, OrdBy 0 ts wideW l → (l.length < 2 → ∀ H', Same H H' → Q .non H') ∧ ∀ e0 e1 l', l = e0 :: e1 :: l' → ∀ (q : Addr) (H' : Hp), Same H H' → H' q = some (.tup (frV e1.1)) → Q (.ref q) H'
def spPieceEnd (K : PySem.W.Frag) : Sp := fun vs H Q _ => ∃ (a p : Addr) (ts : List Int) (b : Nat) (w : Fr), vs = [.ref a, .int (b : Int), .ref p] ∧ SqL K H a (ts.map V.int) ∧ Tms ts ∧ b < ts.length ∧ SqT K H p (frV w) ∧ Wid w ∧
  ∀ (e : Nat) (H' : Hp), b < e → e ≤ ts.length → (∃ ks, Allowed b (slice ts b e) w ks) → (e < ts.length → ∀ ks, ¬ Allowed b (slice ts b (e + 1)) w ks) → Same H H' → Q (.int (e : Int)) H'
/-- a piece, as long as can be, with its nearest reading -/
structure Piece (ts : List Int) (w : Fr) (b e : Nat) (ks : List Int) : Prop where
  lt : b < e
  le : e ≤ ts.length
  max : e < ts.length → ∀ ks, ¬ Allowed b (slice ts b (e + 1)) w ks
  near : ∃ (f : Fr) (l : List El), OrdBy b (slice ts b e) w ((f, ks) :: l)
inductive PiecesTo (ts : List Int) (w : Fr) : List (Nat × Nat × List Int) → Nat → Prop
  | nil : PiecesTo ts w [] 0
  | snoc {l : List (Nat × Nat × List Int)} {b e : Nat} {ks : List Int} : PiecesTo ts w l b → Piece ts w b e ks → PiecesTo ts w (l ++ [(b, e, ks)]) e
/-- new tuples (begin, end, reading) -/
def PcsN (H H' : Hp) (vs : List V) (l : List (Nat × Nat × List Int)) : Prop := vs.length = l.length ∧ ∀ (i : Nat) (e : Nat × Nat × List Int), l[i]? = some e → ∃ T r : Addr, vs[i]? = some (.ref T) ∧ H r = none ∧ H' T = some (.tup [.int (e.1 : Int), .int (e.2.1 : Int), .ref r]) ∧ H' r = some (.lst (e.2.2.map V.int))
def spPieces (K : PySem.W.Frag) (C : Addr) : Sp := fun vs H Q _ => ∃ (x p la : Addr) (ts : List Int) (w : Fr), vs = [.ref x, .ref p] ∧ TapsAt C H x la ts ∧ Tps ts ∧ SqT K H p (frV w) ∧ Wid w ∧
  ∀ (r : Addr) (ys : List V) (l : List (Nat × Nat × List Int)) (H' : Hp), H r = none → Same H H' → H' r = some (.lst ys) → PcsN H H' ys l → PiecesTo ts w l ts.length → Q (.ref r) H'
end KT
namespace KT
open PySem PySem.Spec PyProof.Rows L2
theorem hu20 {k : Nat} {A : Around} (h : Room k A) : A.units + 20 < cLine := by
  have := h.un
  omega
theorem lits {xs : List V} {n : Nat} (h : xs.length = n) (hn : n ≤ 1000000) : xs.length ≤ sizeLine := lz (by omega)
theorem iteP {c : Bool} {A B : Prop} (e : c = true) (h : A) : if c = true then A else B := by
  rw [if_pos e]
  exact h
theorem iteQ {c : Bool} {A B : Prop} (e : c = false) (h : B) : if c = true then A else B := by
  rw [if_neg (by rw [e]; decide)]
  exact h
theorem inN_mem {ys : List V} (h : V.non ∈ ys) : inV .non ys = true := by
  unfold inV
  rw [List.any_eq_true]
  exact ⟨_, h, rfl⟩
theorem inN_not {ys : List V} (h : V.non ∉ ys) : inV .non ys = false := by
  unfold inV
  rw [List.any_eq_false]
  intro y hy
  cases y <;> first | exact absurd hy h | exact fun z => by cases z
/-! ### rows as data -/
def rowD (ks : List Int) : PyData := .list (ks.map PyData.int)
theorem rows_can : ∀ rs : List (List Int), PyData.canLayAll0 (rs.map rowD) = true ∧ PyData.depthAll (rs.map rowD) ≤ 3
  | [] => by simp [PyData.canLayAll0, PyData.depthAll]
  | r :: rs => by
    obtain ⟨a, b⟩ := rows_can rs
    have c : (rowD r).canLay0 = true := canLay_intsL r
    have d : (rowD r).depth ≤ 3 := depth_intsL r
    simp only [List.map_cons, PyData.canLayAll0, PyData.depthAll, Bool.and_eq_true]
    exact ⟨⟨c, a⟩, Nat.max_le.mpr ⟨d, b⟩⟩
theorem rows_shaped (rs : List (List Int)) : SeqAt.shaped (.list (rs.map rowD)) = true := by
  obtain ⟨a, b⟩ := rows_can rs
  have h2 : PyData.depth (.list (rs.map rowD)) ≤ 64 := by
    simp only [PyData.depth]
    omega
  show (PyData.canLay0 (.list (rs.map rowD)) && decide (PyData.depth (.list (rs.map rowD)) ≤ 64)) = true
  rw [Bool.and_eq_true]
  exact ⟨by simp only [PyData.canLay0]; exact a, decide_eq_true h2⟩
theorem row_shaped (ks : List Int) : SeqAt.shaped (rowD ks) = true := by
  have c : (rowD ks).canLay0 = true := canLay_intsL ks
  have d : (rowD ks).depth ≤ 3 := depth_intsL ks
  show ((rowD ks).canLay0 && decide ((rowD ks).depth ≤ 64)) = true
  rw [Bool.and_eq_true]
  exact ⟨c, decide_eq_true (by omega)⟩
theorem rows_any (rs : List (List Int)) (ks : List Int) : ((rs.map rowD).any fun z => PyData.eqv z (rowD ks)) = decide (ks ∈ rs) := by
  induction rs with
  | nil => simp
  | cons r rs ih =>
    rw [List.map_cons, List.any_cons, ih]
    have : PyData.eqv (rowD r) (rowD ks) = decide (r = ks) := eqv_intsL r ks
    rw [this]
    by_cases e : r = ks
    · subst e
      simp
    · rw [decide_eq_false e, Bool.false_or]
      have : (ks ∈ r :: rs) ↔ ks ∈ rs := by
        rw [List.mem_cons]
        exact ⟨fun h => h.elim (fun z => absurd z.symm e) id, .inr⟩
      exact decide_eq_decide.mpr this.symm
theorem RowsN.dp {K : PySem.W.Frag} {H H' : Hp} : ∀ {xs : List V} {rs : List (List Int)}, RowsN H H' xs rs → DpAll K H' xs (rs.map rowD)
  | [], [], _ => .nil
  | [], r :: rs, h => by cases h.1
  | x :: xs, [], h => by cases h.1
  | x :: xs, r :: rs, h => by
    obtain ⟨a, e, n, g⟩ := h.2 0 r rfl
    cases e
    exact .cons (dp_ints (SqL.of g)) (RowsN.dp ⟨Nat.succ.inj h.1, fun i ks e => h.2 (i + 1) ks e⟩)
theorem RowsN.nil (H H' : Hp) : RowsN H H' [] [] := ⟨rfl, fun i ks e => by simp at e⟩
theorem RowsN.same {H H1 H2 : Hp} {xs : List V} {rs : List (List Int)} (h : RowsN H H1 xs rs) (s : Same H1 H2) : RowsN H H2 xs rs := ⟨h.1, fun i ks e => by
  obtain ⟨r, a, n, b⟩ := h.2 i ks e
  exact ⟨r, a, n, s _ _ b⟩⟩
theorem RowsN.snoc {H H1 : Hp} {xs : List V} {rs : List (List Int)} {r : Addr} {ks : List Int} (h : RowsN H H1 xs rs) (n : H r = none) (e : H1 r = some (.lst (ks.map V.int))) : RowsN H H1 (xs ++ [.ref r]) (rs ++ [ks]) := by
  refine ⟨by rw [List.length_append, List.length_append, h.1]; rfl, fun i u hu => ?_⟩
  by_cases hi : i < rs.length
  · rw [List.getElem?_append_left hi] at hu
    obtain ⟨r', g1, g2, g3⟩ := h.2 i u hu
    exact ⟨r', by rw [List.getElem?_append_left (by rw [h.1]; exact hi)]; exact g1, g2, g3⟩
  · have e5 : i = rs.length := by
      have := (List.getElem?_eq_some_iff.mp hu).1
      rw [List.length_append] at this
      simp at this
      omega
    subst e5
    rw [List.getElem?_append_right (Nat.le_refl _), Nat.sub_self] at hu
    cases hu
    exact ⟨r, by rw [← h.1, List.getElem?_append_right (Nat.le_refl _), Nat.sub_self]; rfl, n, e⟩
theorem take_succ {α : Type} {l : List α} {i : Nat} {a : α} (h : l[i]? = some a) : l.take (i + 1) = l.take i ++ [a] := by
  rw [List.take_add_one, h]
  rfl
/-- the units of the first times -/
def unitsTo (b : Int) (ts : List Int) (w : Fr) (n : Nat) : List Fr := (List.range n).flatMap fun (i : Nat) => (kinds (b + (i : Int))).map fun k => (at_ ts i * w.2, k * w.2 + w.1)
theorem unitsTo_succ (b : Int) (ts : List Int) (w : Fr) (n : Nat) : unitsTo b ts w (n + 1) = unitsTo b ts w n ++ (kinds (b + (n : Int))).map fun k => (at_ ts n * w.2, k * w.2 + w.1) := by
  unfold unitsTo
  rw [List.range_succ, List.flatMap_append]
  simp
theorem unitsTo_len (b : Int) (ts : List Int) (w : Fr) (n : Nat) : (unitsTo b ts w n).length ≤ 3 * n := by
  have h := flat_le (fun (i : Nat) => (kinds (b + (i : Int))).map fun k => (at_ ts i * w.2, k * w.2 + w.1)) 3 (fun i => by rw [List.length_map]; exact kinds_len3 _) (List.range n)
  rw [List.length_range] at h
  exact h
/-! ### in order -/
theorem ints_eq {xs : List V} {ts : List Int} (l : xs.length = ts.length) (h : ∀ (i : Nat) (y : V), xs[i]? = some y → y = .int (at_ ts i)) : xs = ts.map V.int := by
  apply List.ext_getElem?
  intro i
  by_cases c : i < xs.length
  · have e := List.getElem?_eq_getElem c
    rw [List.getElem?_map, get_at (by omega : i < ts.length), e, h i _ e]
    rfl
  · rw [List.getElem?_eq_none (by omega), List.getElem?_eq_none (by rw [List.length_map]; omega)]
def rankOf (c : Int) (f : Fr) : Int := f.1 * (c / f.2)
theorem rank_mul {c : Int} {f : Fr} (p : 0 < f.2) (d : f.2 ∣ c) : rankOf c f * f.2 = f.1 * c := by
  unfold rankOf
  rw [Int.mul_assoc, Int.ediv_mul_cancel d]
theorem rank_lt {c : Int} {f g : Fr} (c0 : 0 < c) (pf : 0 < f.2) (pg : 0 < g.2) (df : f.2 ∣ c) (dg : g.2 ∣ c) : rankOf c f < rankOf c g ↔ ltF f g := by
  have e1 : rankOf c f * (f.2 * g.2) = f.1 * g.2 * c := by
    rw [← Int.mul_assoc, rank_mul pf df, Int.mul_right_comm]
  have e2 : rankOf c g * (f.2 * g.2) = g.1 * f.2 * c := by
    rw [Int.mul_comm f.2 g.2, ← Int.mul_assoc, rank_mul pg dg, Int.mul_right_comm]
  have pp : 0 < f.2 * g.2 := Int.mul_pos pf pg
  unfold ltF
  rw [← Int.mul_lt_mul_right pp, e1, e2, Int.mul_lt_mul_right c0]
theorem rank_eq {c : Int} {f g : Fr} (c0 : 0 < c) (pf : WOk f) (pg : WOk g) (df : f.2 ∣ c) (dg : g.2 ∣ c) (e : rankOf c f = rankOf c g) : f = g := by
  have h1 : ¬ ltF f g := fun z => by
    have := (rank_lt c0 pf.b0 pg.b0 df dg).mpr z
    omega
  have h2 : ¬ ltF g f := fun z => by
    have := (rank_lt c0 pg.b0 pf.b0 dg df).mpr z
    omega
  rw [← pf.low, ← pg.low]
  exact low_eq pf.b0 pg.b0 (ltF.not h2) (ltF.not h1)
/-- the key of an entry, as it stands in the heap -/
def intOf : V → Int
  | .int i => i
  | _ => 0
def keyOf (H : Hp) : V → Int × List Int
  | .ref T => match H T with
    | some (.tup (.int n :: .ref r :: _)) => (n, match H r with
      | some (.lst l) => l.map intOf
      | _ => [])
    | _ => (0, [])
  | _ => (0, [])
theorem keyOf_eq {H : Hp} {T r : Addr} {n : Int} {ks : List Int} {rest : List V} (e : H T = some (.tup (.int n :: .ref r :: rest))) (e2 : H r = some (.lst (ks.map V.int))) : keyOf H (.ref T) = (n, ks) := by
  simp only [keyOf, e, e2]
  rw [List.map_map]
  have : (intOf ∘ V.int) = id := rfl
  rw [this, List.map_id]
/-- (rank, reading, width) -/
structure EntF (HB : Hp) (ts : List Int) (c : Int) (H : Hp) (v : V) (ks : List Int) (T r q : Addr) : Prop where
  v : v = .ref T
  t : H T = some (.tup [.int (rankOf c (widthOf ts ks).1), .ref r, .ref q])
  n : HB r = none
  r : H r = some (.lst (ks.map V.int))
  q : H q = some (.tup (frV (widthOf ts ks).1))
theorem EntF.same {HB : Hp} {ts : List Int} {c : Int} {H H' : Hp} {v : V} {ks : List Int} {T r q : Addr} (h : EntF HB ts c H v ks T r q) (s : Same H H') : EntF HB ts c H' v ks T r q := ⟨h.v, s _ _ h.t, h.n, s _ _ h.r, s _ _ h.q⟩
theorem EntF.key {HB : Hp} {ts : List Int} {c : Int} {H : Hp} {v : V} {ks : List Int} {T r q : Addr} (h : EntF HB ts c H v ks T r q) : keyOf H v = (rankOf c (widthOf ts ks).1, ks) := by
  rw [h.v]
  exact keyOf_eq h.t h.r
def elOf (ts : List Int) (ks : List Int) : El := ((widthOf ts ks).1, ks)
/-- sorted by the key is in order -/
theorem ord_of {b : Int} {ts : List Int} {w : Fr} {c : Int} {rs : List (List Int)} {HB H : Hp} {us ys : List V} (T : Tms ts) (pos : 0 < ts.length) (c0 : 0 < c) (cd : ∀ ks ∈ rs, (widthOf ts ks).1.2 ∣ c) (ab : AllBy b ts w rs) (lu : us.length = rs.length)
    (hu : ∀ (i : Nat) (v : V) (ks : List Int), us[i]? = some v → rs[i]? = some ks → ∃ T r q, EntF HB ts c H v ks T r q) (perm : ys.Perm us) (ord : ys.Pairwise fun x y => lexE (keyOf H y) (keyOf H x) = false) :
    OrdBy b ts w (ys.map fun v => elOf ts (keyOf H v).2) ∧ ∀ v ∈ ys, ∃ ks T r q, EntF HB ts c H v ks T r q ∧ ks ∈ rs := by
  have each : ∀ v ∈ us, ∃ (i : Nat) (ks : List Int) (T r q : Addr), us[i]? = some v ∧ rs[i]? = some ks ∧ EntF HB ts c H v ks T r q := fun v hv => by
    obtain ⟨i, hi, ei⟩ := List.getElem_of_mem hv
    have e1 : us[i]? = some v := by rw [List.getElem?_eq_getElem hi, ei]
    have e2 := List.getElem?_eq_getElem (show i < rs.length by omega)
    obtain ⟨T, r, q, E⟩ := hu i v _ e1 e2
    exact ⟨i, _, T, r, q, e1, e2, E⟩
  have each' : ∀ v ∈ ys, ∃ ks T r q, EntF HB ts c H v ks T r q ∧ ks ∈ rs := fun v hv => by
    obtain ⟨i, ks, T, r, q, _, e2, E⟩ := each v (perm.mem_iff.mp hv)
    exact ⟨ks, T, r, q, E, List.mem_of_getElem? e2⟩
  have ndu : (us.map fun v => (keyOf H v).2) = rs := by
    apply List.ext_getElem?
    intro i
    rw [List.getElem?_map]
    by_cases hi : i < us.length
    · have e1 := List.getElem?_eq_getElem hi
      have e2 := List.getElem?_eq_getElem (show i < rs.length by omega)
      obtain ⟨T, r, q, E⟩ := hu i _ _ e1 e2
      rw [e1, e2]
      show some (keyOf H us[i]).2 = _
      rw [E.key]
    · rw [List.getElem?_eq_none (by omega), List.getElem?_eq_none (by omega)]
      rfl
  have nd : (ys.map fun v => (keyOf H v).2).Nodup := by
    have p2 : (ys.map fun v => (keyOf H v).2).Perm rs := by
      have := perm.map fun v => (keyOf H v).2
      rw [ndu] at this
      exact this
    exact p2.nodup_iff.mpr ab.nd
  have wok : ∀ ks ∈ rs, WOk (widthOf ts ks).1 := fun ks h => by
    have a := (ab.iff ks).mp h
    exact width_ok (T.tr a.rd a.len) pos
  refine ⟨⟨?_, ?_, fun e => ?_⟩, each'⟩
  · rw [List.pairwise_map]
    have nd2 : ys.Pairwise fun x y => (keyOf H x).2 ≠ (keyOf H y).2 := List.pairwise_map.mp nd
    refine (ord.and nd2).imp_of_mem fun {x y} hx hy h => ?_
    obtain ⟨ks, T1, r1, q1, E1, m1⟩ := each' x hx
    obtain ⟨ls, T2, r2, q2, E2, m2⟩ := each' y hy
    obtain ⟨h1, h2⟩ := h
    rw [E1.key, E2.key] at h1 h2
    rw [E1.key, E2.key]
    have o1 := wok ks m1
    have o2 := wok ls m2
    unfold lexE at h1
    simp only at h1 h2 ⊢
    by_cases e : rankOf c (widthOf ts ls).1 = rankOf c (widthOf ts ks).1
    · rw [if_pos e] at h1
      have a1 := (ab.iff ks).mp m1
      have a2 := (ab.iff ls).mp m2
      refine .inr ⟨(rank_eq c0 o2 o1 (cd _ m2) (cd _ m1) e).symm, ?_⟩
      cases z : HT.lexLt ks ls with
      | true => exact z
      | false => exact absurd (lex_tri (a1.len.trans a2.len.symm) z h1) h2
    · rw [if_neg e] at h1
      have := of_decide_eq_false h1
      exact .inl ((rank_lt c0 o1.b0 o2.b0 (cd _ m1) (cd _ m2)).mp (by omega))
  · rw [List.length_map, perm.length_eq, lu]
    exact ab.le
  · rw [List.mem_map]
    constructor
    · rintro ⟨v, hv, rfl⟩
      obtain ⟨ks, T, r, q, E, m⟩ := each' v hv
      rw [E.key]
      exact ⟨(ab.iff ks).mp m, rfl⟩
    · rintro ⟨a, e1⟩
      have m := (ab.iff e.2).mpr a
      obtain ⟨i, hi, ei⟩ := List.getElem_of_mem m
      have e2 : rs[i]? = some e.2 := by rw [List.getElem?_eq_getElem hi, ei]
      have e3 := List.getElem?_eq_getElem (show i < us.length by omega)
      obtain ⟨T, r, q, E⟩ := hu i _ _ e3 e2
      refine ⟨_, perm.mem_iff.mpr (List.mem_of_getElem? e3), ?_⟩
      rw [E.key]
      exact Prod.ext e1.symm rfl
theorem nodup_at {α : Type} {l : List α} (n : l.Nodup) {i j : Nat} (hi : i < l.length) (hj : j < l.length) (e : l[i] = l[j]) : i = j := by
  rcases Nat.lt_trichotomy i j with h | h | h
  · exact absurd e (List.pairwise_iff_getElem.mp n i j hi hj h)
  · exact h
  · exact absurd e.symm (List.pairwise_iff_getElem.mp n j i hj hi h)
/-! ### there is a reading below 1 -/
theorem at_rep {n i : Nat} {z : Int} (h : i < n) : at_ (List.replicate n z) i = z := by
  refine at_get ?_
  rw [List.getElem?_replicate, if_pos h]
theorem ones_rdg (b : Int) (n : Nat) : Rdg b (List.replicate n 1) := fun i k e => by
  rw [List.getElem?_replicate] at e
  split at e
  · cases e
    exact kinds_one _
  · cases e
theorem ones_below {ts : List Int} (T : Tms ts) (pos : 0 < ts.length) : (widthOf ts (List.replicate ts.length 1)).1.1 < (widthOf ts (List.replicate ts.length 1)).1.2 := by
  have tr : TR ts (List.replicate ts.length 1) := T.tr (ones_rdg 0 _) (List.length_replicate ..)
  have ok := best_ok tr pos
  have below : (bestOf ts (List.replicate ts.length 1)).1.1 < (bestOf ts (List.replicate ts.length 1)).1.2 := by
    rcases best_in (ts := ts) (ks := List.replicate ts.length 1) with e | ⟨i, j, hi, hj, e⟩
    · rw [e]
      decide
    · rw [e]
      have a := tr.ti hi
      have c := tr.ti hj
      show askT _ _ i j < askB _ i j
      unfold askT askB
      rw [at_rep hi, at_rep hj]
      omega
  have h := (low_lt (t := (bestOf ts (List.replicate ts.length 1)).1.1) (t' := 1) (b' := 1) ok.pos (by decide)).mpr (by omega)
  have e1 : lowF 1 1 = (1, 1) := by decide
  rw [e1] at h
  show (lowF _ _).1 < (lowF _ _).2
  omega
theorem ones_allowed {b : Int} {ts : List Int} (T : Tms ts) (pos : 0 < ts.length) : Allowed b ts wideW (List.replicate ts.length 1) :=
  (allowed_iff T pos wide_wid).mpr ⟨ones_rdg b _, List.length_replicate .., (below_wide (width_ok (T.tr (ones_rdg b _) (List.length_replicate ..)) pos)).mpr (ones_below T pos)⟩
theorem some_reading {b : Int} {ts : List Int} {l : List El} (T : Tms ts) (pos : 0 < ts.length) (ob : OrdBy b ts wideW l) : ∃ e l', l = e :: l' := by
  cases l with
  | nil => exact absurd ((ob.iff ((widthOf ts (List.replicate ts.length 1)).1, List.replicate ts.length 1)).mpr ⟨ones_allowed T pos, rfl⟩) List.not_mem_nil
  | cons e l => exact ⟨e, l, rfl⟩
end KT
namespace KT
open PySem PySem.Spec PyProof.Rows L2
/-! ### there is one list in order -/
theorem ltE_asym {a b : El} (h : ltE a b) : ¬ ltE b a := by
  rcases h with h | ⟨e, h⟩
  · rintro (g | ⟨e, _⟩)
    · exact absurd g (Int.not_lt.mpr (Int.le_of_lt h))
    · rw [e] at h
      exact Int.lt_irrefl _ h
  · rintro (g | ⟨_, g⟩)
    · rw [e] at g
      exact Int.lt_irrefl _ g
    · rw [lex_asym h] at g
      cases g
theorem ord_uniq : ∀ {l m : List El}, l.Pairwise ltE → m.Pairwise ltE → (∀ e, e ∈ l ↔ e ∈ m) → l = m
  | [], [], _, _, _ => rfl
  | [], b :: m, _, _, h => absurd ((h b).mpr List.mem_cons_self) List.not_mem_nil
  | a :: l, [], _, _, h => absurd ((h a).mp List.mem_cons_self) List.not_mem_nil
  | a :: l, b :: m, hl, hm, h => by
    obtain ⟨l1, l2⟩ := List.pairwise_cons.mp hl
    obtain ⟨m1, m2⟩ := List.pairwise_cons.mp hm
    have e : a = b := by
      rcases List.mem_cons.mp ((h a).mp List.mem_cons_self) with e | ha
      · exact e
      · rcases List.mem_cons.mp ((h b).mpr List.mem_cons_self) with e | hb
        · exact e.symm
        · exact absurd (m1 a ha) (ltE_asym (l1 b hb))
    subst e
    have na : a ∉ l := fun z => ltE_irr _ (l1 a z)
    have nb : a ∉ m := fun z => ltE_irr _ (m1 a z)
    rw [ord_uniq l2 m2 fun e => ?_]
    constructor
    · intro he
      rcases List.mem_cons.mp ((h e).mp (List.mem_cons_of_mem _ he)) with rfl | z
      · exact absurd he na
      · exact z
    · intro he
      rcases List.mem_cons.mp ((h e).mpr (List.mem_cons_of_mem _ he)) with rfl | z
      · exact absurd he nb
      · exact z
theorem OrdBy.uniq {b : Int} {ts : List Int} {w : Fr} {l m : List El} (a : OrdBy b ts w l) (c : OrdBy b ts w m) : l = m := ord_uniq a.ord c.ord fun e => (a.iff e).trans (c.iff e).symm
/-! ### pieces -/
theorem one_allowed {b : Int} {ts : List Int} {w : Fr} (T : Tms ts) (W : Wid w) (h : ts.length = 1) : Allowed b ts w [1] := by
  refine ⟨fun i k e => ?_, h.symm, fun i j hi hj => ?_⟩
  · cases i with
    | zero =>
      cases e
      exact kinds_one _
    | succ i => simp at e
  · have hi' : i = 0 := by omega
    have hj' : j = 0 := by omega
    subst hi'
    subst hj'
    have := W.lo
    have t := T.all 0 _ (get_at (by omega))
    unfold leF askF askT askB
    simp only
    rw [Int.sub_self, Int.zero_mul]
    exact Int.mul_nonneg this (by omega)
/-- how far a slot is from n -/
def leftAt (i n : Nat) (σ : L2.St) : Nat := match σ[i]? with
  | some (some (.int k)) => n - k.toNat
  | _ => 0
theorem leftAt_of {i n k : Nat} {σ : L2.St} (h : σ[i]? = some (some (.int (k : Int)))) : leftAt i n σ = n - k := by
  unfold leftAt
  rw [h]
  rfl
/-- what is allowed stays so with fewer times -/
theorem Allowed.shorter {b e e' : Nat} {ts : List Int} {w : Fr} {ks : List Int} (he : e' ≤ e) (hb : b ≤ e') (hl : e ≤ ts.length) (a : Allowed b (slice ts b e) w ks) : Allowed b (slice ts b e') w (ks.take (e' - b)) := by
  have l1 := slice_len hl (Nat.le_trans hb he)
  have l2 := slice_len (Nat.le_trans he hl) hb
  have lk := a.len
  have at1 : ∀ i, i < e' - b → at_ (slice ts b e') i = at_ (slice ts b e) i := fun i hi => by rw [slice_at hi, slice_at (by omega)]
  have at2 : ∀ i, i < e' - b → at_ (ks.take (e' - b)) i = at_ ks i := fun i hi => by
    unfold at_
    rw [List.getD_eq_getElem?_getD, List.getD_eq_getElem?_getD, List.getElem?_take_of_lt hi]
  refine ⟨fun i k hk => ?_, by rw [List.length_take]; omega, fun i j hi hj => ?_⟩
  · by_cases c : i < e' - b
    · rw [List.getElem?_take_of_lt c] at hk
      exact a.rd i k hk
    · rw [List.getElem?_eq_none (by rw [List.length_take]; omega)] at hk
      cases hk
  · have h := a.no i j (by omega) (by omega)
    unfold askF askT askB at h ⊢
    rw [at1 i (by omega), at1 j (by omega), at2 i (by omega), at2 j (by omega)]
    exact h
theorem Piece.one {ts : List Int} {w : Fr} {b e e' : Nat} {ks ks' : List Int} (p : Piece ts w b e ks) (q : Piece ts w b e' ks') : e = e' ∧ ks = ks' := by
  have al : ∀ {e ks}, Piece ts w b e ks → Allowed b (slice ts b e) w ks := fun p => by
    obtain ⟨f, l, ob⟩ := p.near
    exact ((ob.iff (f, _)).mp List.mem_cons_self).1
  have ee : e = e' := by
    rcases Nat.lt_trichotomy e e' with h | h | h
    · have a := (al q).shorter (e' := e + 1) h (by have := p.lt; omega) q.le
      exact absurd a (p.max (by have := q.le; omega) _)
    · exact h
    · have a := (al p).shorter (e' := e' + 1) h (by have := q.lt; omega) p.le
      exact absurd a (q.max (by have := p.le; omega) _)
  subst ee
  obtain ⟨f, l, ob⟩ := p.near
  obtain ⟨g, m, ob'⟩ := q.near
  have h := ob.uniq ob'
  cases h
  exact ⟨rfl, rfl⟩
end KT

/-! What the laws over readings share. -/
namespace KT
open PySem PySem.Spec PyProof.Rows L2
def spLaw (K : PySem.W.Frag) : Sp := fun vs H Q _ => ∃ (a : Addr) (ns : List Int), vs = [.ref a] ∧ SqL K H a (ns.map V.int) ∧ ns.length ≤ 63 ∧ ∀ H', Q (.bl true) H'
theorem TapsAt.kp {C d : Addr} {H H' : Hp} {x l : Addr} {ts : List Int} (h : TapsAt C H x l ts) (k : Kp d H H') (nx : x ≠ d) (nl : l ≠ d) : TapsAt C H' x l ts := by
  obtain ⟨⟨dx, e1⟩, e2⟩ := h
  exact ⟨⟨dx, k _ _ nx e1⟩, k _ _ nl e2⟩
theorem sub_hid {D : Addr} {H1 H : Hp} (n : H1 D = none) (s : Same H1 H) : Same H1 (hid D H) := fun b o e => by
  rw [hid_ne (ne_of_none e n)]
  exact s _ _ e
theorem DpAll.snoc {K : PySem.W.Frag} {H : Hp} {v : V} {d : PyData} (h : Dp K H v d) : ∀ {vs : List V} {ds : List PyData}, DpAll K H vs ds → DpAll K H (vs ++ [v]) (ds ++ [d])
  | _, _, .nil => .cons h .nil
  | _, _, .cons a t => .cons a (DpAll.snoc h t)
/-! ### data of readings -/
def frD (f : Fr) : PyData := .tuple [.int f.1, .int f.2]
def elR (e : El) : PyData := .tuple [rowD e.2, frD e.1]
theorem dp_row {K : PySem.W.Frag} {H : Hp} {r : Addr} {ks : List Int} (h : SqL K H r (ks.map V.int)) : Dp K H (.ref r) (rowD ks) := dp_ints h
theorem dp_fr {K : PySem.W.Frag} {H : Hp} {p : Addr} {f : Fr} (h : SqT K H p (frV f)) : Dp K H (.ref p) (frD f) := .tup h (.cons (.int _) (.cons (.int _) .nil))
theorem dp_elR {K : PySem.W.Frag} {H : Hp} {T r q : Addr} {e : El} (t : SqT K H T [.ref r, .ref q]) (hr : Dp K H (.ref r) (rowD e.2)) (hq : Dp K H (.ref q) (frD e.1)) : Dp K H (.ref T) (elR e) := .tup t (.cons hr (.cons hq .nil))
theorem ElsN.dp {K : PySem.W.Frag} {H H' : Hp} : ∀ {vs : List V} {l : List El}, ElsN H H' vs l → DpAll K H' vs (l.map elR)
  | [], [], _ => .nil
  | [], r :: rs, h => by cases h.1
  | x :: xs, [], h => by cases h.1
  | x :: xs, e :: l, h => by
    obtain ⟨T, r, q, g1, _, g2, g3, g4⟩ := h.2 0 e rfl
    cases g1
    exact .cons (dp_elR (SqT.of g2) (dp_row (SqL.of g3)) (dp_fr (SqT.of g4))) (ElsN.dp ⟨Nat.succ.inj h.1, fun i ks e => h.2 (i + 1) ks e⟩)
theorem dok_int (n : Nat) (i : Int) : dOk (n + 1) (.int i) := True.intro
theorem dok_row {n : Nat} {ks : List Int} (h : ks.length ≤ 1000000) : dOk (n + 2) (rowD ks) := by
  refine ⟨by rw [List.length_map]; exact h, fun d hd => ?_⟩
  obtain ⟨i, _, rfl⟩ := List.mem_map.mp hd
  exact True.intro
theorem dok_fr (n : Nat) (f : Fr) : dOk (n + 2) (frD f) := by
  refine ⟨by show 2 ≤ 1000000; decide, fun d hd => ?_⟩
  simp only [List.mem_cons, List.not_mem_nil, or_false] at hd
  rcases hd with rfl | rfl <;> exact True.intro
theorem dok_el {n : Nat} {e : El} (h : e.2.length ≤ 1000000) : dOk (n + 3) (elR e) := by
  refine ⟨by show 2 ≤ 1000000; decide, fun d hd => ?_⟩
  simp only [List.mem_cons, List.not_mem_nil, or_false] at hd
  rcases hd with rfl | rfl
  · exact dok_row h
  · exact dok_fr _ _
theorem dok_els {n : Nat} {l : List El} (hl : l.length ≤ 1000000) (h : ∀ e ∈ l, e.2.length ≤ 1000000) : dOk (n + 4) (.list (l.map elR)) := by
  refine ⟨by rw [List.length_map]; exact hl, fun d hd => ?_⟩
  obtain ⟨e, he, rfl⟩ := List.mem_map.mp hd
  exact dok_el (h e he)
theorem below_of {f w : Fr} (h : WOk f) (W : Wid w) (z : leF f w) : f.1 < f.2 := by
  have p := W.lt
  have q := W.pos
  have b := h.b0
  have z' : f.1 * w.2 ≤ w.1 * f.2 := z
  have z2 : w.1 * f.2 < w.2 * f.2 := Int.mul_lt_mul_of_pos_right p b
  have z3 : f.1 * w.2 < f.2 * w.2 := by
    rw [Int.mul_comm f.2 w.2]
    exact Int.lt_of_le_of_lt z' z2
  exact Int.lt_of_mul_lt_mul_right z3 (Int.le_of_lt q)
/-- a width keeps it -/
def keepE (w : Fr) (e : El) : Bool := !decide (w.1 * e.1.2 < e.1.1 * w.2)
theorem keepE_iff {w : Fr} {e : El} : keepE w e = true ↔ leF e.1 w := by
  unfold keepE leF
  rw [Bool.not_eq_true', decide_eq_false_iff_not]
  exact Int.not_lt
end KT

/-! Pieces: ways to cut. -/
namespace KT
open PySem PySem.Spec PyProof.Rows L2
/-! ### at most so many readings -/
theorem found_exists {b : Int} {ts : List Int} {w : Fr} (W : Wid w) : ∀ us : List Fr, (∀ u ∈ us, 0 < u.1) → ∃ rs, FoundBy b ts w us rs := by
  intro us h
  have key : ∀ n, n ≤ us.length → ∃ rs, FoundBy b ts w (us.take n) rs := by
    intro n
    induction n with
    | zero => exact fun _ => ⟨[], FoundBy.nil b ts w⟩
    | succ n ih =>
      intro hn
      obtain ⟨rs, f⟩ := ih (by omega)
      have eu := List.getElem?_eq_getElem (show n < us.length by omega)
      rw [take_succ eu]
      have hu := h _ (List.getElem_mem (show n < us.length by omega))
      by_cases c : ∃ ks, FitsAll b ts us[n] w ks
      · obtain ⟨ks, c⟩ := c
        by_cases m : ks ∈ rs
        · exact ⟨rs, f.old W hu c m⟩
        · exact ⟨_, f.new W hu c m⟩
      · exact ⟨rs, f.none fun ks z => c ⟨ks, z⟩⟩
  have := key us.length (Nat.le_refl _)
  rw [List.take_length] at this
  exact this
theorem all_exists {b : Int} {ts : List Int} {w : Fr} (T : Tms ts) (pos : 0 < ts.length) (W : Wid w) : ∃ rs, AllBy b ts w rs := by
  obtain ⟨rs, f⟩ := found_exists (b := b) (ts := ts) W (unitsOf b ts w) fun u hu => (unit_pos T W hu).1.1
  exact ⟨rs, f.all T pos W⟩
theorem OrdBy.of {b : Int} {ts : List Int} {w : Fr} {l : List El} (T : Tms ts) (pos : 0 < ts.length) (W : Wid w) (ord : l.Pairwise ltE) (iff : ∀ e : El, e ∈ l ↔ Allowed b ts w e.2 ∧ e.1 = (widthOf ts e.2).1) : OrdBy b ts w l := by
  obtain ⟨rs, a⟩ := all_exists (b := b) T pos W
  refine ⟨ord, ?_, iff⟩
  have nd : (l.map fun e => e.2).Nodup := by
    refine List.pairwise_map.mpr (ord.imp_of_mem fun {x y} hx hy h z => ?_)
    have e1 := ((iff x).mp hx).2
    have e2 := ((iff y).mp hy).2
    have : x = y := Prod.ext (by rw [e1, e2, z]) z
    subst this
    exact ltE_irr _ h
  have pm : (l.map fun e => e.2).Perm rs := (List.perm_ext_iff_of_nodup nd a.nd).mpr fun ks => by
    rw [List.mem_map, a.iff]
    constructor
    · rintro ⟨e, he, rfl⟩
      exact ((iff e).mp he).1
    · intro h
      exact ⟨((widthOf ts ks).1, ks), (iff _).mpr ⟨h, rfl⟩, rfl⟩
  have := pm.length_eq
  rw [List.length_map] at this
  rw [this]
  exact a.le
/-! ### cuts -/
theorem Allowed.sub {b e b' e' : Nat} {ts : List Int} {w : Fr} {ks : List Int} (h1 : b ≤ b') (h2 : b' ≤ e') (h3 : e' ≤ e) (hl : e ≤ ts.length) (a : Allowed b (slice ts b e) w ks) (ev : (b' - b) % 1 = 0) : Allowed b' (slice ts b' e') w (slice ks (b' - b) (e' - b)) := by
  have l1 := slice_len hl (by omega : b ≤ e)
  have l2 := slice_len (ts := ts) (b := b') (e := e') (by omega) h2
  have lk := a.len
  have l3 : (slice ks (b' - b) (e' - b)).length = e' - b' := by
    rw [slice_len (by omega) (by omega)]
    omega
  have at1 : ∀ i, i < e' - b' → at_ (slice ts b' e') i = at_ (slice ts b e) (b' - b + i) := fun i hi => by
    rw [slice_at hi, slice_at (by omega), ← Nat.add_assoc, Nat.add_sub_cancel' h1]
  have at2 : ∀ i, i < e' - b' → at_ (slice ks (b' - b) (e' - b)) i = at_ ks (b' - b + i) := fun i hi => slice_at (by omega)
  refine ⟨fun i k hk => ?_, by rw [l3, l2], fun i j hi hj => ?_⟩
  · have hi : i < e' - b' := by
      rw [← l3]
      exact (List.getElem?_eq_some_iff.mp hk).1
    have e1 := at_get hk
    rw [at2 i hi] at e1
    have := a.rd.at (i := b' - b + i) (by omega)
    rw [e1] at this
    have e2 : ((b : Int) + ((b' - b + i : Nat) : Int)) = (b' : Int) + (i : Int) := by omega
    rw [e2] at this
    exact this
  · have h := a.no (b' - b + i) (b' - b + j) (by omega) (by omega)
    unfold askF askT askB at h ⊢
    rw [at1 i (by omega), at1 j (by omega), at2 i (by omega), at2 j (by omega)]
    exact h
inductive Cut (ts : List Int) (w : Fr) : Nat → Nat → Prop
  | zero : Cut ts w 0 0
  | step {k b e : Nat} : Cut ts w k b → b < e → e ≤ ts.length → (∃ ks, Allowed b (slice ts b e) w ks) → Cut ts w (k + 1) e
structure IsMin (ts : List Int) (w : Fr) (e m : Nat) : Prop where
  cut : Cut ts w m e
  le : ∀ k, Cut ts w k e → m ≤ k
theorem Piece.al {ts : List Int} {w : Fr} {b e : Nat} {ks : List Int} (p : Piece ts w b e ks) : Allowed b (slice ts b e) w ks := by
  obtain ⟨f, l, ob⟩ := p.near
  exact ((ob.iff (f, _)).mp List.mem_cons_self).1
theorem PiecesTo.le {ts : List Int} {w : Fr} {L : List (Nat × Nat × List Int)} {b : Nat} (h : PiecesTo ts w L b) : b ≤ ts.length := by
  cases h with
  | nil => exact Nat.zero_le _
  | snoc h p => exact p.le
theorem PiecesTo.cut {ts : List Int} {w : Fr} {L : List (Nat × Nat × List Int)} {b : Nat} (h : PiecesTo ts w L b) : Cut ts w L.length b := by
  induction h with
  | nil => exact .zero
  | snoc h p ih =>
    rw [List.length_append]
    exact .step ih p.lt p.le ⟨_, p.al⟩
theorem PiecesTo.far {ts : List Int} {w : Fr} {L : List (Nat × Nat × List Int)} {b : Nat} (h : PiecesTo ts w L b) : ∀ {k e : Nat}, Cut ts w k e → k ≤ L.length → e ≤ b := by
  induction h with
  | nil =>
    intro k e c hk
    cases c with
    | zero => exact Nat.le_refl _
    | step c _ _ _ => exact absurd hk (by simp)
  | @snoc l b e ks h p ih =>
    intro k e1 c hk
    rw [List.length_append] at hk
    cases c with
    | zero => exact Nat.zero_le _
    | @step k b1 _ c h1 h2 h3 =>
      have hb := ih c (by simp at hk; exact hk)
      rcases Nat.lt_or_ge e e1 with g | g
      · obtain ⟨ms, a⟩ := h3
        have := p.lt
        exact absurd (a.sub (b' := b) (e' := e + 1) hb (by omega) g h2 (Nat.mod_one _)) (p.max (by omega) _)
      · exact g
theorem PiecesTo.min {ts : List Int} {w : Fr} {L : List (Nat × Nat × List Int)} {m : Nat} (h : PiecesTo ts w L ts.length) (pos : 0 < ts.length) (i : IsMin ts w ts.length m) : L.length = m := by
  refine Nat.le_antisymm ?_ (i.le _ h.cut)
  rcases Nat.lt_or_ge m L.length with g | g
  · have ic := i.cut
    generalize ts.length = n at h ic
    cases h with
    | nil => exact absurd g (by simp)
    | snoc h p =>
      rw [List.length_append] at g
      have := h.far ic (by simp at g; omega)
      have := p.lt
      omega
  · exact g
/-- there is one such list of pieces -/
theorem PiecesTo.at {ts : List Int} {w : Fr} {L : List (Nat × Nat × List Int)} {b : Nat} (h : PiecesTo ts w L b) : ∀ {M : List (Nat × Nat × List Int)} {c : Nat}, PiecesTo ts w M c → M.length = L.length → M = L ∧ c = b := by
  induction h with
  | nil =>
    intro M c g e
    cases g with
    | nil => exact ⟨rfl, rfl⟩
    | snoc g p => simp at e
  | snoc h p ih =>
    intro M c g e
    cases g with
    | nil => simp at e
    | snoc g q =>
      rw [List.length_append, List.length_append] at e
      obtain ⟨rfl, rfl⟩ := ih g (by simp at e; exact e)
      obtain ⟨rfl, rfl⟩ := p.one q
      exact ⟨rfl, rfl⟩
theorem PiecesTo.uniq {ts : List Int} {w : Fr} {L M : List (Nat × Nat × List Int)} (h : PiecesTo ts w L ts.length) (g : PiecesTo ts w M ts.length) : L = M := by
  have key : ∀ {n : Nat} {L M : List (Nat × Nat × List Int)}, PiecesTo ts w L n → PiecesTo ts w M n → ¬ L.length < M.length := fun {n L M} h g z => by
    cases g with
    | nil => simp at z
    | snoc g p =>
      rw [List.length_append] at z
      have := g.far h.cut (by simp at z; omega)
      have := p.lt
      omega
  have a := key h g
  have c := key g h
  exact (g.at h (by omega)).1
/-! ### data, promises -/
def pcD (e : Nat × Nat × List Int) : PyData := .tuple [.int (e.1 : Int), .int (e.2.1 : Int), rowD e.2.2]
theorem PcsN.dp {K : PySem.W.Frag} {H H' : Hp} : ∀ {vs : List V} {l : List (Nat × Nat × List Int)}, PcsN H H' vs l → DpAll K H' vs (l.map pcD)
  | [], [], _ => .nil
  | [], r :: rs, h => by cases h.1
  | x :: xs, [], h => by cases h.1
  | x :: xs, e :: l, h => by
    obtain ⟨T, r, g1, _, g2, g3⟩ := h.2 0 e rfl
    cases g1
    exact .cons (.tup (SqT.of g2) (.cons (.int _) (.cons (.int _) (.cons (dp_row (SqL.of g3)) .nil)))) (PcsN.dp ⟨Nat.succ.inj h.1, fun i ks e => h.2 (i + 1) ks e⟩)
theorem dok_pcs {l : List (Nat × Nat × List Int)} (hl : l.length ≤ 1000000) (h : ∀ e ∈ l, e.2.2.length ≤ 1000000) : dOk 4 (.list (l.map pcD)) := by
  refine ⟨by rw [List.length_map]; exact hl, fun d hd => ?_⟩
  obtain ⟨e, he, rfl⟩ := List.mem_map.mp hd
  refine ⟨by show 3 ≤ 1000000; decide, fun d hd => ?_⟩
  simp only [List.mem_cons, List.not_mem_nil, or_false] at hd
  rcases hd with rfl | rfl | rfl
  · exact True.intro
  · exact True.intro
  · exact dok_row (h e he)
theorem PiecesTo.lens {ts : List Int} {w : Fr} {L : List (Nat × Nat × List Int)} {b : Nat} (h : PiecesTo ts w L b) : L.length ≤ b ∧ ∀ e ∈ L, e.2.2.length ≤ ts.length := by
  induction h with
  | nil => exact ⟨Nat.le_refl _, fun e he => absurd he List.not_mem_nil⟩
  | snoc h p ih =>
    refine ⟨by rw [List.length_append]; have := p.lt; have := ih.1; simp; omega, fun e he => ?_⟩
    rcases List.mem_append.mp he with he | he
    · exact ih.2 e he
    · rw [List.mem_singleton.mp he]
      have h1 := p.al.len
      rw [slice_len p.le (Nat.le_of_lt p.lt)] at h1
      have h2 := p.le
      show List.length _ ≤ _
      rw [h1]
      omega
theorem cut_slice (ts : List Int) {b e : Nat} (hb : b ≤ e) (he : e ≤ ts.length) : cutV (ts.map V.int) (some (b : Int)) (some (e : Int)) = (slice ts b e).map V.int := by
  unfold cutV slice
  rw [HT.sIx_nat, HT.sIx_nat, List.length_map, Nat.min_eq_left he, Nat.min_eq_left (Nat.le_trans hb he), List.map_take, List.map_drop]
def spPiecesL (K : PySem.W.Frag) : Sp := fun vs H Q _ => ∃ (a p : Addr) (ts : List Int) (w : Fr), vs = [.ref a, .ref p] ∧ SqL K H a (ts.map V.int) ∧ Tms ts ∧ ts.length ≤ 7 ∧ SqT K H p (frV w) ∧ Wid w ∧
  ∀ (r : Addr) (ys : List V) (l : List (Nat × Nat × List Int)) (H' : Hp), Same H H' → H' r = some (.lst ys) → DpAll K H' ys (l.map pcD) → PiecesTo ts w l ts.length → Q (.ref r) H'
def spFewest (K : PySem.W.Frag) : Sp := fun vs H Q _ => ∃ (a p : Addr) (ts : List Int) (w : Fr), vs = [.ref a, .ref p] ∧ SqL K H a (ts.map V.int) ∧ Tms ts ∧ ts.length ≤ 7 ∧ SqT K H p (frV w) ∧ Wid w ∧
  ∀ (m : Nat) (H' : Hp), Same H H' → IsMin ts w ts.length m → Q (.int (m : Int)) H'
def natV (n : Nat) : V := .int (n : Int)
theorem natV_map (ns : List Nat) : ns.map natV = (ns.map fun (n : Nat) => (n : Int)).map V.int := by
  rw [List.map_map]
  rfl
theorem atI_neg {α : Type} {xs : List α} {n : Nat} {v : α} (h : xs.length = n + 1) (e : xs[n]? = some v) : atI xs (-1) = some v := by
  have e2 : xs = xs.take n ++ [v] := by
    have := take_succ e
    rw [← h, List.take_length] at this
    exact this
  rw [e2]
  exact atI_last _ _
end KT

/-! There are at most 38 readings below 1. -/
namespace KT
open PySem PySem.Spec PyProof.Rows L2
theorem fits_mono {n t k l : Int} {u v w : Fr} (W : Wid w) (hk : k ∈ kinds n) (hl : l ∈ kinds n) (u1 : 0 < u.1) (u2 : 0 < u.2) (v1 : 0 < v.1) (v2 : 0 < v.2) (uv : leF u v) (a : fitsU t k u w) (b : fitsU t l v w) : l ≤ k := by
  rcases Int.lt_or_le k l with h | h
  · exfalso
    have far := kind_far hk hl h
    have p := W.pos
    have lt := W.lt
    -- (l w2 - w1) v1 u2 <= t w2 v2 u2 <= (k w2 + w1) u1 v2 <= (k w2 + w1) v1 u2
    have h1 : (l * w.2 - w.1) * v.1 * u.2 ≤ t * w.2 * v.2 * u.2 := Int.mul_le_mul_of_nonneg_right b.1 (Int.le_of_lt u2)
    have h2 : t * w.2 * u.2 * v.2 ≤ (k * w.2 + w.1) * u.1 * v.2 := Int.mul_le_mul_of_nonneg_right a.2 (Int.le_of_lt v2)
    have k0 : 0 ≤ k * w.2 + w.1 := by
      have := W.lo
      rcases kinds_le hk with e | e | e <;> rw [e] <;> omega
    have h3 : (k * w.2 + w.1) * (u.1 * v.2) ≤ (k * w.2 + w.1) * (v.1 * u.2) := Int.mul_le_mul_of_nonneg_left uv k0
    have e1 : t * w.2 * v.2 * u.2 = t * w.2 * u.2 * v.2 := Int.mul_right_comm ..
    have h4 : (l * w.2 - w.1) * (v.1 * u.2) ≤ (k * w.2 + w.1) * (v.1 * u.2) := by
      rw [Int.mul_assoc] at h1 h2
      rw [Int.mul_assoc (t * w.2)] at h1
      rw [Int.mul_assoc (k * w.2 + w.1)] at h2
      have : t * w.2 * (v.2 * u.2) = t * w.2 * (u.2 * v.2) := by rw [Int.mul_comm v.2 u.2]
      omega
    have h5 := Int.le_of_mul_le_mul_right h4 (Int.mul_pos v1 u2)
    have h6 : (k + 2) * w.2 ≤ l * w.2 := Int.mul_le_mul_of_nonneg_right far (Int.le_of_lt p)
    rw [Int.add_mul] at h6
    omega
  · exact h
def rk (k : Int) : Nat := if k = 1 then 0 else if k = 3 then 1 else 2
def sumR : List Int → Nat
  | [] => 0
  | k :: ks => rk k + sumR ks
theorem rk_mono {n k l : Int} (hk : k ∈ kinds n) (hl : l ∈ kinds n) (h : l ≤ k) : rk l ≤ rk k ∧ (rk l = rk k → k = l) := by
  rcases kinds_le hk with rfl | rfl | rfl <;> rcases kinds_le hl with rfl | rfl | rfl <;> first | (exfalso; omega) | decide
theorem sumR_mono : ∀ {a b : List Int} {o : Int}, Rdg o a → Rdg o b → a.length = b.length → (∀ (i : Nat) (x y : Int), a[i]? = some x → b[i]? = some y → y ≤ x) → sumR b ≤ sumR a ∧ (sumR b = sumR a → a = b)
  | [], [], _, _, _, _, _ => ⟨Nat.le_refl _, fun _ => rfl⟩
  | [], _ :: _, _, _, _, h, _ => by cases h
  | _ :: _, [], _, _, _, h, _ => by cases h
  | x :: a, y :: b, o, ra, rb, l, h => by
    have tl : ∀ {c : List Int} {z : Int}, Rdg o (z :: c) → Rdg (o + 1) c := fun r i k e => by
      have := r (i + 1) k e
      have e2 : o + ((i + 1 : Nat) : Int) = o + 1 + (i : Int) := by omega
      rw [e2] at this
      exact this
    obtain ⟨i1, i2⟩ := sumR_mono (tl ra) (tl rb) (Nat.succ.inj l) fun i x y e f => h (i + 1) x y e f
    have kx := ra 0 x rfl
    have ky := rb 0 y rfl
    obtain ⟨j1, j2⟩ := rk_mono kx ky (h 0 x y rfl rfl)
    refine ⟨Nat.add_le_add j1 i1, fun e => ?_⟩
    have e : rk y + sumR b = rk x + sumR a := e
    rw [j2 (by omega), i2 (by omega)]
theorem rk_cap {n k : Int} (h : k ∈ kinds n) : (rk k : Int) ≤ 1 + n % 2 := by
  rcases par n with e | e
  · rw [kinds_even e] at h
    rw [e]
    simp at h
    rcases h with rfl | rfl <;> decide
  · rw [e]
    rcases kinds_le h with rfl | rfl | rfl <;> decide
theorem sumR_cap : ∀ {a : List Int} {o : Int}, Rdg o a → (sumR a : Int) ≤ a.length + (a.length + o % 2) / 2
  | [], o, _ => by
    show (0 : Int) ≤ 0 + (0 + o % 2) / 2
    omega
  | x :: a, o, r => by
    have tl : Rdg (o + 1) a := fun i k e => by
      have := r (i + 1) k e
      have e2 : o + ((i + 1 : Nat) : Int) = o + 1 + (i : Int) := by omega
      rw [e2] at this
      exact this
    have ih := sumR_cap tl
    have c := rk_cap (r 0 x rfl)
    have e0 : o + ((0 : Nat) : Int) = o := by omega
    rw [e0] at c
    show ((rk x + sumR a : Nat) : Int) ≤ ((a.length + 1 : Nat) : Int) + (((a.length + 1 : Nat) : Int) + o % 2) / 2
    omega
theorem nodup_below : ∀ (n : Nat) (l : List Nat), l.Nodup → (∀ x ∈ l, x < n) → l.length ≤ n
  | 0, l, _, h => by
    cases l with
    | nil => exact Nat.le_refl _
    | cons a l => exact absurd (h a List.mem_cons_self) (Nat.not_lt_zero a)
  | n + 1, l, nd, h => by
    by_cases m : n ∈ l
    · have h1 : (l.erase n).length ≤ n := nodup_below n _ (nd.erase n) fun x hx => by
        have hne := (List.Nodup.mem_erase_iff nd).mp hx
        have := h x hne.2
        have := hne.1
        omega
      rw [List.length_erase_of_mem m] at h1
      omega
    · have h1 : l.length ≤ n := nodup_below n _ nd fun x hx => by
        have := h x hx
        have : x ≠ n := fun z => m (z ▸ hx)
        omega
      omega
theorem at_most {ts : List Int} {w : Fr} {rs : List (List Int)} (T : Tms ts) (pos : 0 < ts.length) (W : Wid w) (nd : rs.Nodup) (h : ∀ ks ∈ rs, Allowed 0 ts w ks) : rs.length ≤ 38 := by
  have key : ∀ ks ∈ rs, ∀ ls ∈ rs, sumR ks = sumR ls → ks = ls := by
    have half : ∀ {ks ls : List Int} {u v : Fr}, FitsAll 0 ts u w ks → FitsAll 0 ts v w ls → 0 < u.1 → 0 < u.2 → 0 < v.1 → 0 < v.2 → leF u v → sumR ks = sumR ls → ks = ls := fun {ks ls u v} a b u1 u2 v1 v2 uv e => by
      refine (sumR_mono a.rd b.rd (a.len.trans b.len.symm) fun i x y ex ey => ?_).2 e.symm
      have hi : i < ts.length := by
        rw [← a.len]
        exact (List.getElem?_eq_some_iff.mp ex).1
      have f1 := a.fit i hi
      have f2 := b.fit i hi
      rw [at_get ex] at f1
      rw [at_get ey] at f2
      exact fits_mono W (a.rd i x ex) (b.rd i y ey) u1 u2 v1 v2 uv f1 f2
    intro ks hk ls hl e
    obtain ⟨i, hi, a⟩ := (h ks hk).unit T pos W
    obtain ⟨j, hj, b⟩ := (h ls hl).unit T pos W
    obtain ⟨⟨u1, _⟩, u2, _⟩ := unit_pos T W (low_mem (w := w) a.rd a.len hi)
    obtain ⟨⟨v1, _⟩, v2, _⟩ := unit_pos T W (low_mem (w := w) b.rd b.len hj)
    by_cases c : leF (lowU ts ks w i) (lowU ts ls w j)
    · exact half a b u1 u2 v1 v2 c e
    · exact (half b a v1 v2 u1 u2 (Int.le_of_lt (Int.not_le.mp c)) e.symm).symm
  have nd2 : (rs.map sumR).Nodup := by
    refine List.pairwise_map.mpr (nd.imp_of_mem fun {x y} hx hy hne e => hne (key x hx y hy e))
  have := nodup_below 38 _ nd2 fun x hx => by
    obtain ⟨ks, hk, rfl⟩ := List.mem_map.mp hx
    have a := h ks hk
    have c := sumR_cap a.rd
    have l := a.len
    have le := T.le
    omega
  rw [List.length_map] at this
  exact this
end KT
/-! Rows made by the dice. -/
namespace KT
open PySem PySem.Spec PyProof.Rows L2
theorem kp_hid {d : Addr} {H H' : Hp} (k : Kp d H H') : Same (hid d H) (hid d H') := fun b o h => by
  obtain ⟨n, e⟩ := hid_some h
  rw [hid_ne n]
  exact k _ _ n e
theorem Kp.free' {d p : Addr} {H H' : Hp} (k : Kp d H H') (n : p ≠ d) (h : H' p = none) : H p = none := by
  cases e : H p with
  | none => rfl
  | some u =>
    rw [k p u n e] at h
    cases h
/-- a comprehension that draws: what is told of each item holds of the heap without the new list and the dice -/
theorem lc_hd {J : It} {n : Nat} {G : Hp → Prop} {Y : Nat → Hp → V → Hp → Prop} {g : TG} {te : TE} {vs : List Nat} {σ : L2.St} {H1 : Hp} {D d : Addr} {Qd : Hp → Prop} (w : Walk J n G Y) (Pe : Nat → V → Hp → Prop) (mono : ∀ i v H H', Same H H' → Pe i v H → Pe i v H') (hd1 : Dice H1 d) (nD : H1 D = none) (hn : n ≤ 1000000) (hG : ∀ H, Kp d H1 H → G H)
    (hs : ∀ i x H H' (acc : List V) (k : V → Hp → Prop), i < n → Kp d H1 H → Dice H d → H D = some (.lst acc) → acc.length = i → Y i H x H' → (∀ y H4, Kp d H H4 → Dice H4 d → Pe i y (hid D (hid d H4)) → k y H4) →
      g x (wipe σ vs) H' fun σ2 H2 => wipe σ2 vs = wipe σ vs ∧ te σ2 H2 k)
    (hd : ∀ H xs, Kp d H1 H → Dice H d → H D = some (.lst xs) → xs.length = n → (∀ i y, xs[i]? = some y → Pe i y (hid D (hid d H))) → Qd H) :
    ∃ W : Nat → Nat → Hp → Prop, (∃ m, W 0 m (upd H1 D (.lst []))) ∧ ∀ i m H, W i m H →
      (J.stop i H ∧ Qd H) ∨ (J.go i H ∧ ∃ Nx : Hp → Prop, (∀ H', Nx H' → ∃ m', m' < m ∧ W (i + 1) m' H') ∧ ∀ x H', J.yld i H x H' → g x (wipe σ vs) H' fun σ2 H2 => wipe σ2 vs = wipe σ vs ∧ tYes σ2 H2 fun b H3 =>
        if b = true then te σ2 H3 fun y H4 => ∃ acc, H4 D = some (.lst acc) ∧ acc.length < sizeLine ∧ Nx (upd H4 D (.lst (acc ++ [y]))) else Nx H3) := by
  have nDd : D ≠ d := hd1.ne nD
  have hh : ∀ {H : Hp} {o : HO}, hid D (hid d (upd H D o)) = hid D (hid d H) := fun {H o} => by
    funext b
    unfold hid
    by_cases e : b = D
    · rw [if_pos e, if_pos e]
    · rw [if_neg e, if_neg e]
      by_cases e2 : b = d
      · rw [if_pos e2, if_pos e2]
      · rw [if_neg e2, if_neg e2, upd_ne e]
  refine lc_it w (tt := tYes) (fun i H => ∃ xs, Kp d H1 H ∧ Dice H d ∧ H D = some (.lst xs) ∧ xs.length = i ∧ ∀ i y, xs[i]? = some y → Pe i y (hid D (hid d H))) ⟨[], (Kp.refl d H1).put nD, hd1.put nDd, upd_same, rfl, fun i y h => by simp at h⟩ (fun i H _ ⟨_, s, _⟩ => hG H s) ?_ fun H ⟨xs, s, dd, e, l, q⟩ => hd H xs s dd e l q
  rintro i x H H' hi ⟨xs, s, dd, e, l, q⟩ y
  refine hs i x H H' xs _ hi s dd e l y fun z H4 s4 d4 p4 => ⟨xs, s4 _ _ nDd e, lz' (by omega), xs ++ [z], (s.trans s4).put nD, d4.put nDd, upd_same, by rw [List.length_append, l]; rfl, fun j u hu => ?_⟩
  rw [hh]
  by_cases hj : j < xs.length
  · rw [List.getElem?_append_left hj] at hu
    exact mono j u _ _ (same_hid (kp_hid s4)) (q j u hu)
  · have e5 : j = i := by
      have := (List.getElem?_eq_some_iff.mp hu).1
      rw [List.length_append] at this
      simp at this
      omega
    subst e5
    rw [← l, List.getElem?_append_right (Nat.le_refl _), Nat.sub_self] at hu
    cases hu
    exact l ▸ p4
/-- some row of so many numbers -/
def RowOk (n : Nat) (H : Hp) (y : V) : Prop := ∃ (r : Addr) (ks : List Int), y = .ref r ∧ H r = some (.lst (ks.map V.int)) ∧ Rdg 0 ks ∧ ks.length = n
theorem RowOk.same {n : Nat} {H H' : Hp} {y : V} (h : RowOk n H y) (s : Same H H') : RowOk n H' y := by
  obtain ⟨r, ks, a, b, c⟩ := h
  exact ⟨r, ks, a, s _ _ b, c⟩
/-- the first place of a number -/
theorem idx_of {m : Int} : ∀ {ns : List Int}, m ∈ ns → ∃ j, j < ns.length ∧ (ns.map V.int)[j]? = some (V.int m) ∧ ∀ (i : Nat) (z : V), i < j → (ns.map V.int)[i]? = some z → eqV z (V.int m) = false
  | [], h => absurd h List.not_mem_nil
  | a :: ns, h => by
    by_cases e : a = m
    · subst e
      exact ⟨0, by show 0 < ns.length + 1; omega, rfl, fun i z hi => absurd hi (Nat.not_lt_zero i)⟩
    · obtain ⟨j, h1, h2, h3⟩ := idx_of (ns := ns) (by
        rcases List.mem_cons.mp h with h | h
        · exact absurd h.symm e
        · exact h)
      refine ⟨j + 1, by show j + 1 < ns.length + 1; omega, h2, fun i z hi hz => ?_⟩
      cases i with
      | zero =>
        cases hz
        show (a == m) = false
        simpa using e
      | succ i => exact h3 i z (by omega) hz
theorem flat_ints (ns : List Int) : (ns.map V.int).all flatV = true := by
  rw [List.all_eq_true]
  intro y hy
  obtain ⟨i, _, rfl⟩ := List.mem_map.mp hy
  rfl
theorem int_self (m : Int) : eqV (V.int m) (V.int m) = true := by
  show (m == m) = true
  simp
theorem kinds_pos (n : Int) : 0 < (kinds n).length := by
  rcases par n with e | e
  · rw [kinds_even e]; decide
  · rw [kinds_odd e]; decide
/-- one number of a reading another one -/
theorem Rdg.swap {ks : List Int} {i : Nat} {k : Int} (r : Rdg 0 ks) (hi : i < ks.length) (hk : k ∈ kinds (i : Int)) : Rdg 0 (ks.take i ++ [k] ++ ks.drop (i + 1)) ∧ (ks.take i ++ [k] ++ ks.drop (i + 1)).length = ks.length := by
  have l1 : (ks.take i ++ [k]).length = i + 1 := by
    rw [List.length_append, List.length_take]
    show min i ks.length + 1 = i + 1
    omega
  have l2 : (ks.take i).length = i := by
    rw [List.length_take]
    omega
  refine ⟨fun j z e => ?_, ?_⟩
  · by_cases c : j < i + 1
    · rw [List.getElem?_append_left (by omega)] at e
      by_cases c2 : j < i
      · rw [List.getElem?_append_left (by omega), List.getElem?_take_of_lt c2] at e
        exact r j z e
      · have : j = i := by omega
        subst this
        rw [List.getElem?_append_right (by omega), l2, Nat.sub_self] at e
        cases e
        rw [Int.zero_add]
        exact hk
    · rw [List.getElem?_append_right (by omega), l1, List.getElem?_drop, Nat.add_sub_cancel' (by omega)] at e
      exact r j z e
  · rw [List.length_append, l1, List.length_drop]
    omega
theorem cut_to (xs : List V) {i : Nat} (h : i ≤ xs.length) : cutV xs none (some (i : Int)) = xs.take i := by
  unfold cutV
  rw [HT.sIx_none, HT.sIx_nat, Nat.min_eq_left h, List.drop_zero, Nat.sub_zero]
theorem cut_fromN (xs : List V) {i : Nat} (h : i ≤ xs.length) : cutV xs (some (i : Int)) none = xs.drop i := by
  unfold cutV
  rw [HT.sIx_nat, HT.sIx_none, Nat.min_eq_left h]
  exact List.take_of_length_le (by rw [List.length_drop]; omega)
def spOthers (K : PySem.W.Frag) : Sp := fun vs H Q _ => ∃ (d a b : Addr) (ts ks : List Int), vs = [.ref d, .ref a, .ref b] ∧ Dice H d ∧ a ≠ d ∧ b ≠ d ∧ SqL K H a (ts.map V.int) ∧ SqL K H b (ks.map V.int) ∧ Tps ts ∧ Rdg 0 ks ∧ ks.length = ts.length ∧
  ∀ (p : Addr) (xs : List V) (H' : Hp), H p = none → H' p = some (.lst xs) → (∀ y ∈ xs, RowOk ts.length H' y) → Dice H' d → Kp d H H' → Q (.ref p) H'
/-! ### comparing fractions, readings as data -/
theorem eqv_fr (f g : Fr) : PyData.eqv (frD f) (frD g) = decide (f = g) := by
  unfold frD
  simp only [PyData.eqv, PyData.eqvAll]
  by_cases h1 : f.1 = g.1
  · by_cases h2 : f.2 = g.2
    · rw [decide_eq_true (Prod.ext h1 h2)]
      simp [h1, h2]
    · rw [decide_eq_false (fun z => h2 (by rw [z]))]
      simp [h2]
  · rw [decide_eq_false (fun z => h1 (by rw [z]))]
    simp [h1]
theorem shaped_fr (f : Fr) : SeqAt.shaped (frD f) = true := shaped_pair f
theorem eqv_el (e : El) : PyData.eqv (elR e) (elR e) = true := by
  have h1 : PyData.eqv (rowD e.2) (rowD e.2) = true := by
    have := eqv_intsL e.2 e.2
    rw [decide_eq_true rfl] at this
    exact this
  have h2 : PyData.eqv (frD e.1) (frD e.1) = true := by
    rw [eqv_fr]
    exact decide_eq_true rfl
  unfold elR
  simp only [PyData.eqv, PyData.eqvAll, Bool.and_true, Bool.and_eq_true]
  exact ⟨h1, h2⟩
theorem shaped_el (e : El) : SeqAt.shaped (elR e) = true := by
  have c1 : (rowD e.2).canLay0 = true := canLay_intsL e.2
  have d1 : (rowD e.2).depth ≤ 3 := depth_intsL e.2
  have c2 : (frD e.1).canLay0 = true := by simp [frD, PyData.canLay0, PyData.canLayAll0]
  have d2 : (frD e.1).depth ≤ 3 := by simp [frD, PyData.depth, PyData.depthAll]
  have h2 : (elR e).depth ≤ 64 := by
    simp only [elR, PyData.depth, PyData.depthAll]
    have d1' : PyData.depth (rowD e.2) ≤ 3 := d1
    have d2' : PyData.depth (frD e.1) ≤ 3 := d2
    generalize PyData.depth (rowD e.2) = a at *
    generalize PyData.depth (frD e.1) = b at *
    simp only [Nat.max_def]
    split <;> (try split) <;> omega
  show ((elR e).canLay0 && decide ((elR e).depth ≤ 64)) = true
  rw [Bool.and_eq_true]
  refine ⟨?_, decide_eq_true h2⟩
  simp only [elR, PyData.canLay0, PyData.canLayAll0, Bool.and_eq_true]
  exact ⟨c1, c2, True.intro⟩
theorem wide_other : Wid (99999, 100000) := ⟨by decide, by decide, by decide, by decide⟩
theorem ord_other {ts : List Int} {l : List El} (T : Tms ts) (pos : 0 < ts.length) (ob : OrdBy 0 ts (99999, 100000) l) : OrdBy 0 ts wideW l := by
  refine ⟨ob.ord, ob.le, fun e => (ob.iff e).trans (and_congr_left fun _ => ?_)⟩
  rw [allowed_iff T pos wide_other, allowed_iff T pos wide_wid]
  refine and_congr_right fun r => and_congr_right fun hl => ?_
  have o := width_ok (T.tr r hl) pos
  exact (below_other o wide_other (by decide)).trans (below_wide o).symm
theorem ord_few {ts : List Int} {w : Fr} {l : List El} (T : Tms ts) (pos : 0 < ts.length) (W : Wid w) (ob : OrdBy 0 ts w l) : l.length ≤ 38 := by
  have nd : (l.map fun e => e.2).Nodup := by
    refine List.pairwise_map.mpr (ob.ord.imp_of_mem fun {x y} hx hy h z => ?_)
    have e1 := ((ob.iff x).mp hx).2
    have e2 := ((ob.iff y).mp hy).2
    have : x = y := Prod.ext (by rw [e1, e2, z]) z
    subst this
    exact ltE_irr _ h
  have := at_most T pos W nd fun ks hk => by
    obtain ⟨e, he, rfl⟩ := List.mem_map.mp hk
    exact ((ob.iff e).mp he).1
  rw [List.length_map] at this
  exact this
/-- no other reading is nearer -/
theorem near_least {ts ks : List Int} {e : El} {l : List El} (T : Tms ts) (pos : 0 < ts.length) (ob : OrdBy 0 ts wideW (e :: l)) (r : Rdg 0 ks) (hl : ks.length = ts.length) : ¬ ltF (widthOf ts ks).1 e.1 ∧ ((widthOf ts ks).1 = e.1 → HT.lexLt ks e.2 = false) := by
  have o := width_ok (T.tr r hl) pos
  have ae := (ob.iff e).mp List.mem_cons_self
  have oe := width_ok (T.tr ae.1.rd ae.1.len) pos
  rw [← ae.2] at oe
  have be := (below_wide oe).mp (by
    have := ae.1.width T pos wide_wid
    rw [← ae.2] at this
    exact this)
  by_cases c : (widthOf ts ks).1.1 < (widthOf ts ks).1.2
  · have m : ((widthOf ts ks).1, ks) ∈ e :: l := (ob.iff _).mpr ⟨(allowed_iff T pos wide_wid).mpr ⟨r, hl, (below_wide o).mpr c⟩, rfl⟩
    rcases List.mem_cons.mp m with h | h
    · have h1 : (widthOf ts ks).1 = e.1 := congrArg Prod.fst h
      have h2 : ks = e.2 := congrArg Prod.snd h
      refine ⟨fun z => ?_, fun _ => ?_⟩
      · rw [h1] at z
        exact Int.lt_irrefl _ z
      · rw [h2]
        exact lex_irr _
    · have lt := (List.pairwise_cons.mp ob.ord).1 _ h
      refine ⟨fun z => ltE_asym lt (.inl z), fun z => ?_⟩
      cases h3 : HT.lexLt ks e.2 with
      | false => rfl
      | true => exact absurd (.inr ⟨z, h3⟩) (ltE_asym lt)
  · have no : ¬ ltF (widthOf ts ks).1 e.1 := by
      intro z
      have b0 := o.b0
      have z : (widthOf ts ks).1.1 * e.1.2 < e.1.1 * (widthOf ts ks).1.2 := z
      have h1 : (widthOf ts ks).1.2 * e.1.2 ≤ (widthOf ts ks).1.1 * e.1.2 := Int.mul_le_mul_of_nonneg_right (by omega) (Int.le_of_lt oe.b0)
      have h2 : e.1.1 * (widthOf ts ks).1.2 ≤ e.1.2 * (widthOf ts ks).1.2 := Int.mul_le_mul_of_nonneg_right (by omega) (Int.le_of_lt b0)
      rw [Int.mul_comm e.1.2] at h2
      omega
    refine ⟨no, fun z => ?_⟩
    rw [z] at c
    exact absurd be c
end KT

/-! Own rules: a >= b of lists of whole numbers; names unpacked from a list; a list backwards. -/
namespace KT
open PySem PySem.Spec PyProof.Rows L2
theorem rcIntGe {prog : Program} {w : World} {A : Around} {E : Value → Shared → Prop} {s : Shared} {a b : Int} {t u : Tok} {Q : Value → Shared → Prop} (h : Q (Value.bool (decide (b ≤ a))) s) : wpAny (model prog w) A (richCompare CmpOp.GtE (Value.int a t) (Value.int b u)) Q E s :=
  richCompare_gives (typeIs_int s a t) (typeIs_int s b u) F.slot_int_ge F.entry_int_ge (F.args_int_ge_2 _ _) (gives_int_ge a b t u) (fun x => nomatch x) h rfl
theorem geLoop (l b : Addr) (items items2 : Array Value) (n n2 : Nat) (dd dd2 : Option Addr) (sl sl2 : Array (Option Value)) (ns ms : List Int) (hi : IntsAre items.toList ns) (hj : IntsAre items2.toList ms) :
    ∀ (k i : Nat), ns.length - i = k → i ≤ ns.length → i ≤ ms.length →
      Meets (Builtin.«list.__eq__.loop» { pos := [Value.ref l, Value.ref b, rawInt (i : Int), rawInt 5] }) fun A R s =>
        s.heap.get? l = some { cls := Value.type "list", dict := dd, data := Data.seq items n, slots := sl } ∧ s.heap.get? b = some { cls := Value.type "list", dict := dd2, data := Data.seq items2 n2, slots := sl2 } ∧
          R (Except.ok (Flow.ret (Value.bool (!HT.lexLt (ns.drop i) (ms.drop i))))) s := by
  intro k
  induction k with
  | zero =>
    intro i hk hn hm prog w A R s h
    cases s
    obtain ⟨hl, hb, h⟩ := h
    refine wpAny_bind (wpAny_bind (wpAny_bind (wpAny_load' hl (wpAny_pure (wpAny_pure (wpAny_bind (wpAny_bind (wpAny_bind (wpAny_load' hb (wpAny_pure (wpAny_pure ?_)))))))))))
    have e1 : items[Int.toNat (i : Int)]? = none := by
      rw [Int.toNat_natCast]
      exact at_none hi (by omega)

    rw [e1]
    refine wpAny_bind (wpAny_bind (wpAny_bind (wpAny_load' hl (wpAny_pure (wpAny_pure (wpAny_bind (wpAny_bind (wpAny_bind (wpAny_load' hb (wpAny_pure (wpAny_pure (wpAny_pure ?_))))))))))))
    refine Eq.mp (congrArg (fun v => R (Except.ok (Flow.ret v)) _) ?_) h
    have z1 := IntsAre.length hi
    have z2 := IntsAre.length hj
    rw [Array.length_toList] at z1 z2
    show Value.bool _ = Value.bool (decide (items2.size ≤ items.size))
    rw [List.drop_eq_nil_of_le (by omega : ns.length ≤ i)]
    by_cases c : i < ms.length
    · rw [List.drop_eq_getElem_cons c, HT.lexLt_nil_cons, decide_eq_false (by omega)]
      rfl
    · rw [List.drop_eq_nil_of_le (by omega : ms.length ≤ i), HT.lexLt_nil_nil, decide_eq_true (by omega)]
      rfl
  | succ k ih =>
    intro i hk hn hm prog w A R s h
    have hin : i < ns.length := by omega
    cases s
    obtain ⟨hl, hb, h⟩ := h
    refine wpAny_bind (wpAny_bind (wpAny_bind (wpAny_load' hl (wpAny_pure (wpAny_pure (wpAny_bind (wpAny_bind (wpAny_bind (wpAny_load' hb (wpAny_pure (wpAny_pure ?_)))))))))))
    obtain ⟨t, e1⟩ := at_ints hi hin
    have e1' : items[Int.toNat (i : Int)]? = some (Value.int ns[i] t) := by
      rw [Int.toNat_natCast]
      exact e1
    rw [e1']
    by_cases c : i < ms.length
    · obtain ⟨t2, e2⟩ := at_ints hj c
      have e2' : items2[Int.toNat (i : Int)]? = some (Value.int ms[i] t2) := by
        rw [Int.toNat_natCast]
        exact e2
      rw [e2']
      refine wpAny_bind (wpAny_eqBool_int ?_)
      rw [List.drop_eq_getElem_cons hin, List.drop_eq_getElem_cons c, HT.lexLt_cons] at h
      by_cases q : ns[i] = ms[i]
      · rw [if_pos q] at h
        refine wpAny_ite_true (by rw [q]; exact decide_eq_true (beq_self_eq_true _)) (wpAny_pure ?_)
        refine ⟨plainId_quiet MeetsSeq3.plain_eq_loop _, codeAny_builtin MeetsSeq3.entry_eq_loop ?_⟩
        rw [Around.under_plainId MeetsSeq3.plain_eq_loop]
        exact ih (i + 1) (by omega) (by omega) (by omega) prog w A R _ ⟨hl, hb, h⟩
      · rw [if_neg q] at h
        have zz : (!decide (ns[i] < ms[i])) = decide (ms[i] ≤ ns[i]) := by
          by_cases h1 : ns[i] < ms[i]
          · rw [decide_eq_true h1, decide_eq_false (by omega)]
            rfl
          · rw [decide_eq_false h1, decide_eq_true (by omega)]
            rfl
        rw [zz] at h
        refine wpAny_ite_false (by rw [beq_eq_false_iff_ne.mpr q]; rfl) ?_
        refine wpAny_bind (wpAny_bind (wpAny_bind (wpAny_load' hl (wpAny_pure (wpAny_pure (wpAny_bind (wpAny_bind (wpAny_bind (wpAny_load' hb (wpAny_pure (wpAny_pure ?_)))))))))))
        rw [e1', e2']
        refine wpAny_bind (rcIntGe (wpAny_pure ?_))
        exact h
    · have e2' : items2[Int.toNat (i : Int)]? = none := by
        rw [Int.toNat_natCast]
        exact at_none hj c
      rw [e2']
      refine wpAny_bind (wpAny_bind (wpAny_bind (wpAny_load' hl (wpAny_pure (wpAny_pure (wpAny_bind (wpAny_bind (wpAny_bind (wpAny_load' hb (wpAny_pure (wpAny_pure (wpAny_pure ?_))))))))))))
      refine Eq.mp (congrArg (fun v => R (Except.ok (Flow.ret v)) _) ?_) h
      have z1 := IntsAre.length hi
      have z2 := IntsAre.length hj
      rw [Array.length_toList] at z1 z2
      show Value.bool _ = Value.bool (decide (items2.size ≤ items.size))
      rw [List.drop_eq_getElem_cons hin, List.drop_eq_nil_of_le (by omega : ms.length ≤ i), HT.lexLt_cons_nil, decide_eq_true (by omega)]
      rfl
theorem geMeets (l b : Addr) (items items2 : Array Value) (n n2 : Nat) (dd dd2 : Option Addr) (sl sl2 : Array (Option Value)) (ns ms : List Int) (hi : IntsAre items.toList ns) (hj : IntsAre items2.toList ms) :
    Meets (Builtin.«list.__ge__» { pos := [Value.ref l, Value.ref b] }) fun A R s =>
      s.heap.get? l = some { cls := Value.type "list", dict := dd, data := Data.seq items n, slots := sl } ∧ s.heap.get? b = some { cls := Value.type "list", dict := dd2, data := Data.seq items2 n2, slots := sl2 } ∧
        R (Except.ok (Flow.ret (Value.bool (!HT.lexLt ns ms)))) s := by
  intro prog w A R s h
  cases s
  obtain ⟨hl, hb, h⟩ := h
  have f2 := AutoSeq1.sub_list_list
  refine wpAny_bind ?_
  unfold slotArgs
  refine wpAny_ite_false rfl (wpAny_ite_false rfl (wpAny_pure ?_))
  refine wpAny_bind ?_
  unfold isInstance
  refine wpAny_bind ?_
  unfold PySem.typeOf
  refine wpAny_bind (wpAny_loadPart' hb (wpAny_pure (wpAny_of_eq f2 (wpAny_ite_false rfl ?_))))
  refine wpAny_pure ⟨plainId_quiet MeetsSeq3.plain_eq_loop _, codeAny_builtin MeetsSeq3.entry_eq_loop ?_⟩
  rw [Around.under_plainId MeetsSeq3.plain_eq_loop]
  exact geLoop l b items items2 n n2 dd dd2 sl sl2 ns ms hi hj (ns.length - 0) 0 rfl (Nat.zero_le _) (Nat.zero_le _) prog w A R _ ⟨hl, hb, h⟩
theorem geLst {prog : Program} {w : World} {A : Around} {E : Value → Shared → Prop} {s : Shared} {a b : Addr} {its its2 : Array Value} {ns ms : List Int} {Q : Value → Shared → Prop} (p1 : PlainL s.heap a its) (p2 : PlainL s.heap b its2)
    (i1 : IntsAre its.toList ns) (i2 : IntsAre its2.toList ms) (hu : A.units < cLine) (h : Q (Value.bool (!HT.lexLt ns ms)) s) : wpAny (model prog w) A (compareOp CmpOp.GtE (Value.ref a) (Value.ref b)) Q E s := by
  obtain ⟨⟨c1, dd, data, sl⟩, n, ho, hc, hdn, hd⟩ := p1
  obtain ⟨⟨c2, dd2, data2, sl2⟩, n2, ho2, hc2, hdn2, hd2⟩ := p2
  simp only at hc hd hc2 hd2
  subst hc hd hc2 hd2
  have this : (Value.bool (!HT.lexLt ns ms) ≠ Value.notImplemented ∧ Q (Value.bool (!HT.lexLt ns ms)) s) := by
    refine ⟨?_, h⟩
    intro z
    cases z
  have t1 : s.TypeIs (Value.ref a) "list" := ⟨_, ho, rfl⟩
  have t2 : s.TypeIs (Value.ref b) "list" := ⟨_, ho2, rfl⟩
  have m := geMeets a b its its2 n n2 dd dd2 sl sl2 ns ms i1 i2
  show wpAny (model prog w) A (richCompare CmpOp.GtE (Value.ref a) (Value.ref b)) Q E s
  refine richCompare_meets_room (op := CmpOp.GtE) t1 t2 F.slot_list_ge F.entry_list_ge (F.args_list_ge_2 (Value.ref a) (Value.ref b)) m ?_ hu
  refine ⟨ho, ho2, ?_⟩
  exact this
/-- a >= b, lists of whole numbers -/
def rGeL (K : PySem.W.Frag) : R2 := fun x y H Q => ∃ (a b : Addr) (ns ms : List Int), x = .ref a ∧ y = .ref b ∧ SqL K H a (ns.map V.int) ∧ SqL K H b (ms.map V.int) ∧ Q (.bl (!HT.lexLt ns ms)) H
theorem op_geL {X : Cx} {K : PySem.W.Frag} (hu : X.A.units < cLine) (hK : X.K = K) : OpR X (compareOp CmpOp.GtE) (rGeL K) := by
  subst hK
  intro pins s σ H x y v u Q I rx ry h
  obtain ⟨a, b, ns, ms, rfl, rfl, ha, hb, q⟩ := h
  cases rx
  cases ry
  obtain ⟨its, r1, p1, _⟩ := I.list ha
  obtain ⟨its2, r2, p2, _⟩ := I.list hb
  exact geLst p1 p2 (L2.intsAre_of r1) (L2.intsAre_of r2) hu ⟨V.bl (!HT.lexLt ns ms), H, I, rfl, q⟩
theorem pg_lstK {X : Cx} {K : PySem.W.Frag} {es : List Expr} {k : Nat} {pos : Pos} {t : TGs} {n : Nat} (hK : X.K = K) (hc : X.calm = true) (h : PGs X es t)
    (hn : (assignEach es X.env).length = n := by rfl) (hst : (assignEach es X.env).findIdx? (·.1) = none := by rfl) : PG X (.Tuple es k pos) (gLst K n t) := by subst hK; exact pg_lst hc h hn hst
theorem pe_revLK {X : Cx} {K : PySem.W.Frag} {e : Expr} {te : TE} {k : Nat} {p1 p2 p3 pos : Pos} (hK : X.K = K) (he : PE X e te) : PE X (.Subscript e (.Slice none none (some (.UnaryOp .USub (.Constant (.int 1) k p1) p2)) p3) pos) (tRevL K te) := by subst hK; exact pe_revL he
end KT

/-! A dict with keys that are tuples of numbers; a reading that is a list or a tuple. -/
namespace KT
open PySem PySem.Spec PyProof.Rows L2
theorem hu1 {k : Nat} {A : Around} (h : Room k A) : A.units + 1 < cLine := by
  have := h.un
  omega
def rTupQ (K : PySem.W.Frag) : List V → Hp → VK → Prop := fun xs H Q => ∃ p ys, xs = [.ref p] ∧ ((SqL K H p ys ∧ ∀ l, H l = none → Q (.ref l) (upd H l (.tup ys))) ∨ (SqT K H p ys ∧ Q (.ref p) H))
theorem call_tuple_ofK {X : Cx} {K : PySem.W.Frag} (h : X.K = K) : CallR X (.type "tuple") (rTupQ K) := by subst h; exact call_tuple_of
def intK (i : Int) : Key := .inl i
theorem intK_map (ks : List Int) : (ks.map intK).map kV = ks.map V.int := by
  rw [List.map_map]
  rfl
theorem mem_put {κ : Type} [DecidableEq κ] {kvs : List (κ × V)} {k j : κ} {v : V} : ∀ {y : V}, (j, y) ∈ putK kvs k v → j = k ∨ ∃ y, (j, y) ∈ kvs := by
  intro y h
  unfold putK at h
  split at h
  · obtain ⟨⟨a, b⟩, h1, h2⟩ := List.mem_map.mp h
    simp only at h2
    split at h2
    · next e =>
      cases h2
      exact .inl e
    · cases h2
      exact .inr ⟨_, h1⟩
  · rcases List.mem_append.mp h with h | h
    · exact .inr ⟨_, h⟩
    · cases List.mem_singleton.mp h
      exact .inl rfl
theorem Rd.updT {H : Hp} {a d : Addr} {u : HO} {o : HO} {kvs : List (List Key × V)} (e : H d = some (.dT kvs)) (n : u ≠ .dT kvs) (h : Rd H a u) : Rd (upd H d o) a u := by
  rcases h with h | ⟨o1, h⟩
  · refine .inl ?_
    rw [upd_ne fun z => by rw [z, e] at h; cases h; exact n rfl]
    exact h
  · refine .inr ⟨o1, ?_⟩
    rw [upd_ne fun z => by rw [z, e] at h; cases h]
    exact h
theorem SqL.updT {K : PySem.W.Frag} {H : Hp} {a d : Addr} {xs : List V} {o : HO} {kvs : List (List Key × V)} (e : H d = some (.dT kvs)) (h : SqL K H a xs) : SqL K (upd H d o) a xs := h.imp (fun r => Rd.updT e (fun z => nomatch z) r) id
theorem SqT.updT {K : PySem.W.Frag} {H : Hp} {a d : Addr} {xs : List V} {o : HO} {kvs : List (List Key × V)} (e : H d = some (.dT kvs)) (h : SqT K H a xs) : SqT K (upd H d o) a xs := h.imp (fun r => Rd.updT e (fun z => nomatch z) r) id
/-- a reading, list or tuple -/
structure TRQ (K : PySem.W.Frag) (H : Hp) (a b : Addr) (ts ks : List Int) : Prop where
  t : SqL K H a (ts.map V.int)
  k : SqL K H b (ks.map V.int) ∨ SqT K H b (ks.map V.int)
  ok : TR ts ks
theorem TRQ.same {K : PySem.W.Frag} {H H' : Hp} {a b : Addr} {ts ks : List Int} (h : TRQ K H a b ts ks) (s : Same H H') : TRQ K H' a b ts ks := ⟨s.seq h.t, h.k.imp (fun e => s.seq e) (fun e => same_tup s e), h.ok⟩
theorem TRQ.ix {K : PySem.W.Frag} {H : Hp} {a b : Addr} {ts ks : List Int} (h : TRQ K H a b ts ks) {i : Nat} {v : V} {Q : VK} (e : (ks.map V.int)[i]? = some v) (q : Q v H) : rIx K (.ref b) (.int (i : Int)) H Q := by
  rcases h.k with g | g
  · exact .inl ⟨_, _, _, _, rfl, rfl, g, atI_nat e, q⟩
  · exact .inr (.inl ⟨_, _, _, _, rfl, rfl, g, atI_nat e, q⟩)
def spAsksQ (K : PySem.W.Frag) : Sp := fun vs H Q _ => ∃ (a b : Addr) (ts ks : List Int) (i j : Nat), vs = [.ref a, .ref b, .int (i : Int), .int (j : Int)] ∧ TRQ K H a b ts ks ∧ i < ts.length ∧ j < ts.length ∧
  ∀ (p : Addr) (H' : Hp), H p = none → Same H H' → H' p = some (.tup (frV (lowF (askT ts ks i j) (askB ts i j)))) → Q (.ref p) H'
def spWidthQ (K : PySem.W.Frag) : Sp := fun vs H Q _ => ∃ (a b : Addr) (ts ks : List Int), vs = [.ref a, .ref b] ∧ TRQ K H a b ts ks ∧ 0 < ts.length ∧ ∀ (p : Addr) (H' : Hp), Same H H' → WAt H' p (widthOf ts ks) → Q (.ref p) H'
/-- no reading is allowed: the answer is False -/
def spAllows (K : PySem.W.Frag) : Sp := fun vs H Q _ => ∃ (b : Nat) (a p : Addr) (ts : List Int) (w : Fr), vs = [.int (b : Int), .ref a, .ref p] ∧ SqL K H a (ts.map V.int) ∧ Tms ts ∧ 0 < ts.length ∧ SqT K H p (frV w) ∧ Wid w ∧ (∀ ks, ¬ Allowed b ts w ks) ∧
  ∀ H' : Hp, Same H H' → Q (.bl false) H'
end KT
namespace KT
open PySem PySem.Spec PyProof.Rows L2
/-! ### the text by places -/
def topS (i : Nat) : Stmt := PySem.Challenge.pw_keyedtime_k11_whole_fewest_pieces.main.body.getD i (.Pass ⟨0, 0, 0, 0⟩)
abbrev sBadTaps___init__ : Stmt := inClass (topS 3) 0
abbrev scheck_width : Stmt := topS 7
abbrev slowest : Stmt := topS 9
abbrev sis_above : Stmt := topS 10
abbrev sasked : Stmt := topS 12
abbrev sasked_by_pairs : Stmt := topS 13
abbrev sleast_asked : Stmt := topS 14
abbrev sparts_between : Stmt := topS 16
abbrev snumber_by : Stmt := topS 17
abbrev sreading_by : Stmt := topS 18
abbrev sleast_units : Stmt := topS 19
abbrev sallowed_readings : Stmt := topS 20
abbrev scommon_bottom : Stmt := topS 21
abbrev sin_order : Stmt := topS 22
abbrev spiece_end : Stmt := topS 23
abbrev spieces : Stmt := topS 24
abbrev scheck_times : Stmt := topS 29
abbrev sTaps___init__ : Stmt := inClass (topS 30) 0
abbrev sTaps_times : Stmt := inClass (topS 30) 1
abbrev s_law_dice : Stmt := topS 32
abbrev s_law_off : Stmt := topS 33
abbrev s_law_low : Stmt := topS 34
abbrev s_law_less : Stmt := topS 35
abbrev s_law_kinds : Stmt := topS 36
abbrev s_law_reading : Stmt := topS 37
abbrev s_law_some_width : Stmt := topS 38
abbrev s_law_times : Stmt := topS 39
abbrev s_law_asks : Stmt := topS 40
abbrev s_law_width : Stmt := topS 41
abbrev s_law_allows : Stmt := topS 42
abbrev slaw : Stmt := topS 43
theorem scBadTaps___init__ : FnScope ["self", "at", "why"] ["self", "at", "why"] (defScope sBadTaps___init__) := ⟨rfl, rfl, rfl, by decide +kernel, rfl, by decide +kernel, by decide +kernel⟩
theorem sccheck_width : FnScope ["width", "top", "bottom"] ["width"] (defScope scheck_width) := ⟨rfl, rfl, rfl, by decide +kernel, rfl, by decide +kernel, by decide +kernel⟩
theorem sclowest : FnScope ["ratio", "top", "bottom", "common"] ["ratio"] (defScope slowest) := ⟨rfl, rfl, rfl, by decide +kernel, rfl, by decide +kernel, by decide +kernel⟩
theorem scis_above : FnScope ["one", "other"] ["one", "other"] (defScope sis_above) := ⟨rfl, rfl, rfl, by decide +kernel, rfl, by decide +kernel, by decide +kernel⟩
theorem scasked : FnScope ["one", "other", "time", "number", "other_time", "other_number"] ["one", "other"] (defScope sasked) := ⟨rfl, rfl, rfl, by decide +kernel, rfl, by decide +kernel, by decide +kernel⟩
theorem scasked_by_pairs : FnScope ["times", "reading", "read", "at", "one", "behind", "other"] ["times", "reading"] (defScope sasked_by_pairs) := ⟨rfl, rfl, rfl, by decide +kernel, rfl, by decide +kernel, by decide +kernel⟩
theorem scleast_asked : FnScope ["times", "reading", "width", "asking", "pair", "ratio"] ["times", "reading"] (defScope sleast_asked) := ⟨rfl, rfl, rfl, by decide +kernel, rfl, by decide +kernel, by decide +kernel⟩
theorem scparts_between : FnScope ["times", "begin", "end", "at"] ["times", "begin", "end"] (defScope sparts_between) := ⟨rfl, rfl, rfl, by decide +kernel, rfl, by decide +kernel, by decide +kernel⟩
theorem scnumber_by : FnScope ["part", "unit", "width", "time", "numbers", "over", "under", "top", "bottom", "number"] ["part", "unit", "width"] (defScope snumber_by) := ⟨rfl, rfl, rfl, by decide +kernel, rfl, by decide +kernel, by decide +kernel⟩
theorem screading_by : FnScope ["parts", "unit", "width", "reading", "part"] ["parts", "unit", "width"] (defScope sreading_by) := ⟨rfl, rfl, rfl, by decide +kernel, rfl, by decide +kernel, by decide +kernel⟩
theorem scleast_units : FnScope ["parts", "width", "top", "bottom", "time", "numbers", "number"] ["parts", "width"] (defScope sleast_units) := ⟨rfl, rfl, rfl, by decide +kernel, rfl, by decide +kernel, by decide +kernel⟩
theorem scallowed_readings : FnScope ["parts", "width", "found", "unit", "reading"] ["parts", "width"] (defScope sallowed_readings) := ⟨rfl, rfl, rfl, by decide +kernel, rfl, by decide +kernel, by decide +kernel⟩
theorem sccommon_bottom : FnScope ["widths", "common", "_", "bottom"] ["widths"] (defScope scommon_bottom) := ⟨rfl, rfl, rfl, by decide +kernel, rfl, by decide +kernel, by decide +kernel⟩
theorem scin_order : FnScope ["parts", "width", "times", "found", "widths", "common", "ranked", "time", "_", "reading", "top", "bottom", "least"] ["parts", "width"] (defScope sin_order) := ⟨rfl, rfl, rfl, by decide +kernel, rfl, by decide +kernel, by decide +kernel⟩
theorem scpiece_end : FnScope ["times", "begin", "width", "end"] ["times", "begin", "width"] (defScope spiece_end) := ⟨rfl, rfl, rfl, by decide +kernel, rfl, by decide +kernel, by decide +kernel⟩
theorem scpieces : FnScope ["taps", "width", "times", "found", "begin", "end", "reading", "_"] ["taps", "width"] (defScope spieces) := ⟨rfl, rfl, rfl, by decide +kernel, rfl, by decide +kernel, by decide +kernel⟩
theorem sccheck_times : FnScope ["times", "many", "at", "time"] ["times"] (defScope scheck_times) := ⟨rfl, rfl, rfl, by decide +kernel, rfl, by decide +kernel, by decide +kernel⟩
theorem scTaps___init__ : FnScope ["self", "times"] ["self", "times"] (defScope sTaps___init__) := ⟨rfl, rfl, rfl, by decide +kernel, rfl, by decide +kernel, by decide +kernel⟩
theorem scTaps_times : FnScope ["self"] ["self"] (defScope sTaps_times) := ⟨rfl, rfl, rfl, by decide +kernel, rfl, by decide +kernel, by decide +kernel⟩
theorem sc_law_dice : FnScope ["_law_script", "_law_k", "_law_found", "_law_cell"] ["_law_script", "_law_k"] (defScope s_law_dice) := ⟨rfl, rfl, rfl, by decide +kernel, rfl, by decide +kernel, by decide +kernel⟩
theorem sc_law_off : FnScope ["_law_d", "_law_most", "_law_found"] ["_law_d", "_law_most"] (defScope s_law_off) := ⟨rfl, rfl, rfl, by decide +kernel, rfl, by decide +kernel, by decide +kernel⟩
theorem sc_law_low : FnScope ["_law_top", "_law_bottom", "_law_one", "_law_other"] ["_law_top", "_law_bottom"] (defScope s_law_low) := ⟨rfl, rfl, rfl, by decide +kernel, rfl, by decide +kernel, by decide +kernel⟩
theorem sc_law_less : FnScope ["_law_one", "_law_other"] ["_law_one", "_law_other"] (defScope s_law_less) := ⟨rfl, rfl, rfl, by decide +kernel, rfl, by decide +kernel, by decide +kernel⟩
theorem sc_law_kinds : FnScope ["_law_at"] ["_law_at"] (defScope s_law_kinds) := ⟨rfl, rfl, rfl, by decide +kernel, rfl, by decide +kernel, by decide +kernel⟩
theorem sc_law_reading : FnScope ["_law_d", "_law_many", "_law_at"] ["_law_d", "_law_many"] (defScope s_law_reading) := ⟨rfl, rfl, rfl, by decide +kernel, rfl, by decide +kernel, by decide +kernel⟩
theorem sc_law_some_width : FnScope ["_law_d", "_law_bottom", "_law_top"] ["_law_d"] (defScope s_law_some_width) := ⟨rfl, rfl, rfl, by decide +kernel, rfl, by decide +kernel, by decide +kernel⟩
theorem sc_law_times : FnScope ["_law_d", "_law_most", "_law_many", "_law_reading_here", "_law_unit", "_law_shake", "_law_times_here", "_law_at", "_law_k", "_law_time"] ["_law_d", "_law_most"] (defScope s_law_times) := ⟨rfl, rfl, rfl, by decide +kernel, rfl, by decide +kernel, by decide +kernel⟩
theorem sc_law_asks : FnScope ["_law_times_here", "_law_reading_here", "_law_one", "_law_other", "_law_top"] ["_law_times_here", "_law_reading_here", "_law_one", "_law_other"] (defScope s_law_asks) := ⟨rfl, rfl, rfl, by decide +kernel, rfl, by decide +kernel, by decide +kernel⟩
theorem sc_law_width : FnScope ["_law_times_here", "_law_reading_here", "_law_best", "_law_one", "_law_other"] ["_law_times_here", "_law_reading_here"] (defScope s_law_width) := ⟨rfl, rfl, rfl, by decide +kernel, rfl, by decide +kernel, by decide +kernel⟩
theorem sc_law_allows : FnScope ["_law_begin", "_law_times_here", "_law_width_here", "_law_marks", "_law_tries", "_law_one", "_law_other", "_law_top", "_law_known", "_law_unit", "_law_row", "_law_at", "_law_kinds_here", "_law_far", "_law_time", "_law_kind"] ["_law_begin", "_law_times_here", "_law_width_here"] (defScope s_law_allows) := ⟨rfl, rfl, rfl, by decide +kernel, rfl, by decide +kernel, by decide +kernel⟩
theorem sclaw : FnScope ["_law_script", "_law_d", "_law_times_here", "_law_widths", "_law_few", "_law_more", "_law_begin", "_law_piece", "_law_row", "_law_width_here", "_law_k"] ["_law_script"] (defScope slaw) := ⟨rfl, rfl, rfl, by decide +kernel, rfl, by decide +kernel, by decide +kernel⟩
end KT
namespace KT
open PySem PySem.Spec PyProof.Rows L2
section
variable {P : Program} {w : World} {K : PySem.W.Frag} {mg : Str → Option Value} {base : Heap}
theorem ok_law_dice (S : Src K mg "_law_dice" s_law_dice) (m_abs : mg "abs" = none) : KDef P w K mg base CX0 1 "_law_dice" ["_law_script", "_law_k"] (spDice K) := by
  refine S.ok sc_law_dice (fun _ _ _ _ _ _ us hl => match us, hl with | [_, _], _ => rfl) (fun vs H Q E h => ?_) (fun f cdv A outer s H vs Q E hr h => ?_)
  · obtain ⟨a, ns, rfl, _⟩ := h
    rfl
  · obtain ⟨a, ns, rfl, hS, hlen, q⟩ := h
    refine ⟨_, (pss_cons (ps_set (i := 2) sc_law_dice.nd rfl (.inl rfl) (pv 1))
      (pss_cons (ps_for PassesOwn.never rfl (pi_listK (K := K) rfl (pv 0)) (pg_name (i := 3) sc_law_dice.nd rfl (.inl rfl))
      (pss_one (ps_set (i := 2) sc_law_dice.nd rfl (.inl rfl) (pe_op op_mod (pe_op op_add (pe_op op_mul (pv 2) pe_int) (pe_callB call_abs (by rfl) m_abs (by decide +kernel) (pa_cons (pv 3) pa_nil))) pe_int))))
      (pss_one (ps_ret (pe_op op_cat (pe_lst (pa_cons (pv 2) (pa_cons pe_int pa_nil))) (pe_lc (own := [("_law_cell", 3)]) (g := gName 3) rfl sc_law_dice.nd (pi_listK (K := K) rfl (pv 0)) (blkOk_by (own := [("_law_cell", 3)]) (N := ["_law_script", "_law_k", "_law_found", "_law_cell"]) (sc := defScope s_law_dice) (by decide +kernel)) (fun _ _ _ _ _ => (pg_name (i := 3) sc_law_dice.nd rfl (.inl rfl) (.inr rfl))) (fun _ _ _ _ _ => (pts_one (pt_cmpR op_ge (pv 3) (pe_op op_pow pe_int pe_int) (nomark _)))) (fun _ _ _ _ _ => (pv 3)))))))), ?_⟩
    refine ⟨_, rfl, _, rfl, a, rfl, ⟨_, hS⟩, for_list (K := K) (a := a) (xs := ns.map V.int) (fun i σ H2 => ∃ (g : Int) (v : Option V), σ = [some (.ref a), some (.int 0), some (.int g), v] ∧ 0 ≤ g ∧ g < 2147483647 ∧ H2 = H)
      ⟨0, none, rfl, by decide, by decide, rfl⟩ (fun i σ H2 _ ⟨_, _, _, _, _, e⟩ => e ▸ hS) ?_ ?_⟩
    · rintro i y σ H2 hi ⟨g, v, rfl, g0, g1, rfl⟩
      obtain ⟨z, rfl⟩ := int_of hi
      refine ⟨_, rfl, _, _, rfl, rfl, .inl ⟨by omega, by omega⟩, _, rfl, _, rfl, _, _, rfl, rfl, _, _, rfl, rfl, by show (0 : Int) < 2147483647; decide, ?_⟩
      exact ⟨_, _, rfl, Int.emod_nonneg _ (by decide), Int.emod_lt_of_pos _ (by decide), rfl⟩
    · rintro σ H2 ⟨g, v, rfl, g0, g1, rfl⟩
      refine ⟨_, rfl, lz (by show 2 ≤ 1000000; decide), fun p np => ?_⟩
      refine ⟨_, rfl, a, rfl, ⟨_, (sm np).seq hS⟩, fun D nD => lc_list (K := K) (a := a) (xs := ns.map V.int) (fun i H3 => ∃ zs : List Int, H3 D = some (.lst (zs.map V.int)) ∧ zs.length ≤ i ∧ (∀ z ∈ zs, 0 ≤ z) ∧ H3 p = some (.lst [.int g, .int 0]) ∧ Same H2 H3)
        ⟨[], upd_same, Nat.le_refl _, List.forall_mem_nil _, by rw [upd_ne (ne_of_none upd_same nD), upd_same], (sm np).trans (sm nD)⟩ (fun i H3 _ ⟨_, _, _, _, _, s3⟩ => s3.seq hS) ?_ ?_⟩
      · rintro i y H3 hi ⟨zs, hD, hl, hz, hp, s3⟩
        have hil := (List.getElem?_eq_some_iff.mp hi).1
        rw [List.length_map] at hil
        obtain ⟨z, rfl⟩ := int_of hi
        have npD : p ≠ D := ne_of_none upd_same nD
        refine ⟨rfl, _, rfl, _, _, rfl, rfl, ⟨by decide, by decide, by decide⟩, _, _, rfl, rfl, _, rfl, ite2 (fun e => ?_) (fun _ => ⟨zs, hD, Nat.le_succ_of_le hl, hz, hp, s3⟩)⟩
        have z0 : (0 : Int) ≤ z := Int.le_trans (by decide) (of_decide_eq_true e)
        refine ⟨_, rfl, _, hD, lz' (by rw [List.length_map]; omega), ⟨zs ++ [z], by rw [upd_same, List.map_append]; rfl, by rw [List.length_append]; exact Nat.succ_le_succ hl, fun u hu => ?_, by rw [upd_ne npD]; exact hp, fun b o e => ?_⟩⟩
        · rcases List.mem_append.mp hu with hu | hu
          · exact hz u hu
          · rw [List.mem_singleton.mp hu]
            exact z0
        · rw [upd_ne (ne_of_none ((sm np) _ _ e) nD)]
          exact s3 _ _ e
      · rintro H3 ⟨zs, hD, hl, hz, hp, s3⟩
        rw [List.length_map] at hl
        refine ⟨_, _, _, _, rfl, rfl, hp, hD, lz (by rw [List.length_map]; show 2 + zs.length ≤ _; omega), fun r nr => ?_⟩
        exact q r _ (s3.free nr) (s3.trans (sm nr)) ⟨g, 0, zs, upd_same, g0, g1, Int.le_refl _, hz, by omega⟩
end
end KT
namespace KT
open PySem PySem.Spec PyProof.Rows L2
section
variable {P : Program} {w : World} {K : PySem.W.Frag} {mg : Str → Option Value} {base : Heap}
theorem ok_law_off (S : Src K mg "_law_off" s_law_off) (m_len : mg "len" = none) : KDef P w K mg base CX0 1 "_law_off" ["_law_d", "_law_most"] spOff := by
  refine S.ok sc_law_off (fun _ _ _ _ _ _ us hl => match us, hl with | [_, _], _ => rfl) (fun vs H Q E h => ?_) (fun f cdv A outer s H vs Q E hr h => ?_)
  · obtain ⟨d, m, rfl, _⟩ := h
    rfl
  · obtain ⟨d, m, rfl, ⟨x, y, zs, hd, hx, hx2, hy, hz, hl⟩, hm, hm2, q⟩ := h
    refine ⟨_, (C8.pss_cut (ps_if (PW.pt (pw_and (pt_cmpR op_eq (pe_ix (ix_listK (K := K) rfl) (pv 0) pe_int (fun _ _ => rfl)) pe_int (nomark _)) (pw_and1 (pt_cmpR op_gt (pe_callB (call_len_seqK (K := K) rfl) (by rfl) m_len (by decide +kernel) (pa_cons (pv 0) pa_nil)) pe_int (nomark _)))))
      (pss_one (ps_asg (pe_bm PySem.F.plainAttrs_list PySem.F.slot_list_pop PySem.F.type_list_pop mt_popAt (pv 0) (pa_cons pe_int pa_nil)) (pg_sub (pv 0) pe_int set_list)))
      pss_nil)
      (pss_cons (ps_if (pt_cmpR op_gt (pe_ix (ix_listK (K := K) rfl) (pv 0) pe_int (fun _ _ => rfl)) pe_int (nomark _))
      (pss_cons (ps_set (i := 2) sc_law_off.nd rfl (.inl rfl) (pe_op op_mod (pe_ix (ix_listK (K := K) rfl) (pv 0) pe_int (fun _ _ => rfl)) (pv 1)))
      (pss_cons (ps_asg (pe_op op_fdiv (pe_ix (ix_listK (K := K) rfl) (pv 0) pe_int (fun _ _ => rfl)) (pv 1)) (pg_sub (pv 0) pe_int set_list))
      (pss_one (ps_ret (pv 2)))))
      pss_nil)
      (pss_cons (ps_asg (pe_op op_mod (pe_op op_add (pe_op op_mul (pe_ix (ix_listK (K := K) rfl) (pv 0) pe_int (fun _ _ => rfl)) pe_int) pe_int) pe_int) (pg_sub (pv 0) pe_int set_list))
      (pss_one (ps_ret (pe_op op_mod (pe_op op_fdiv (pe_ix (ix_listK (K := K) rfl) (pv 0) pe_int (fun _ _ => rfl)) pe_int) (pv 1))))))), ?_⟩
    refine ⟨fun σ1 H1 => σ1 = [some (.ref d), some (.int m), none] ∧ Dice H1 d ∧ Kp d H H1, ?_, ?_⟩
    · -- a great number is taken up
      refine ⟨.ref d, rfl, _, _, _, _, rfl, rfl, SqL.of hd, aI (by decide) rfl, rfl, _, rfl, ite2 (fun e => ?_) (fun _ => ?_)⟩
      · refine ⟨.ref d, rfl, d, _, rfl, .inl (SqL.of hd), _, _, rfl, rfl, _, rfl, ite2 (fun e2 => ?_) (fun _ => ⟨rfl, ⟨x, y, zs, hd, hx, hx2, hy, hz, hl⟩, Kp.refl d H⟩)⟩
        cases zs with
        | nil => exact absurd (of_decide_eq_true e2) (by show ¬ ((2 : Int) < ((2 : Nat) : Int)); decide)
        | cons z zs =>
          refine ⟨.ref d, rfl, ty_list hd, _, _, _, _, V.int z, rfl, rfl, hd, by decide, by decide, pI (by decide) (by simp; omega), rfl, ?_⟩
          refine ⟨.ref d, rfl, _, _, _, _, rfl, rfl, upd_same, sI (by decide) (by simp; omega), ?_⟩
          refine ⟨rfl, ⟨x, z, zs, ?_, hx, hx2, hz z List.mem_cons_self, fun u hu => hz u (List.mem_cons_of_mem _ hu), by simp at hl; omega⟩, fun b o n hb => ?_⟩
          · rw [upd_upd, upd_same]
            rfl
          · rw [upd_upd, upd_ne n]
            exact hb
      · exact ⟨rfl, ⟨x, y, zs, hd, hx, hx2, hy, hz, hl⟩, Kp.refl d H⟩
    · rintro σ1 H1 ⟨rfl, ⟨x, y, zs, hd, hx, hx2, hy, hz, hl⟩, k1⟩
      refine ⟨.ref d, rfl, _, _, _, _, rfl, rfl, SqL.of hd, aI (by decide) rfl, _, _, rfl, rfl, _, rfl, ite2 (fun e => ?_) (fun _ => ?_)⟩
      · have hy' : 0 < y := of_decide_eq_true e
        refine ⟨.ref d, rfl, _, _, _, _, rfl, rfl, SqL.of hd, aI (by decide) rfl, _, rfl, _, _, rfl, rfl, hm, ?_⟩
        refine ⟨.ref d, rfl, _, _, _, _, rfl, rfl, SqL.of hd, aI (by decide) rfl, _, rfl, _, _, rfl, rfl, ⟨hm, hm2⟩, ?_⟩
        refine ⟨.ref d, rfl, _, _, _, _, rfl, rfl, hd, sI (by decide) (by simp; omega), ?_⟩
        refine ⟨_, rfl, q (y % m) _ (Int.emod_nonneg y (by omega)) (Int.emod_lt_of_pos y hm) ⟨x, y / m, zs, upd_same, hx, hx2, Int.ediv_nonneg hy (by omega), hz, hl⟩ (k1.trans (Kp.at (H1 := H1)))⟩
      · refine ⟨.ref d, rfl, _, _, _, _, rfl, rfl, SqL.of hd, aI (by decide) rfl, _, _, rfl, rfl, .inl ⟨by omega, by omega⟩, _, _, rfl, rfl, _, _, rfl, rfl, by show (0 : Int) < 2147483647; decide, ?_⟩
        refine ⟨.ref d, rfl, _, _, _, _, rfl, rfl, hd, sI (by decide) (by simp; omega), ?_⟩
        refine ⟨.ref d, rfl, _, _, _, _, rfl, rfl, SqL.of upd_same, aI (by decide) rfl, _, _, rfl, rfl, ⟨by decide, by decide⟩, _, rfl, _, _, rfl, rfl, hm, ?_⟩
        have g1 : 0 ≤ (x * 48271 + 11) % 2147483647 := Int.emod_nonneg _ (by decide)
        have g2 : (x * 48271 + 11) % 2147483647 < 2147483647 := Int.emod_lt_of_pos _ (by decide)
        exact q _ _ (Int.emod_nonneg _ (by omega)) (Int.emod_lt_of_pos _ hm) ⟨_, y, zs, upd_same, g1, g2, hy, hz, hl⟩ (k1.trans (Kp.at (H1 := H1)))
end
end KT
namespace KT
open PySem PySem.Spec PyProof.Rows L2
section
variable {P : Program} {w : World} {K : PySem.W.Frag} {mg : Str → Option Value} {base : Heap}
theorem ok_law_kinds (S : Src K mg "_law_kinds" s_law_kinds) : KDef P w K mg base CX0 1 "_law_kinds" ["_law_at"] spKinds := by
  refine S.ok sc_law_kinds (fun _ _ _ _ _ _ us hl => match us, hl with | [_], _ => rfl) (fun vs H Q E h => ?_) (fun f cdv A outer s H vs Q E hr h => ?_)
  · obtain ⟨n, rfl, _⟩ := h
    rfl
  · obtain ⟨n, rfl, q⟩ := h
    refine ⟨_, (pss_one (ps_ret (pe_ix (ix_listK (K := K) rfl) (pe_lst (pa_cons (pe_lst (pa_cons pe_int (pa_cons pe_int pa_nil))) (pa_cons (pe_lst (pa_cons pe_int (pa_cons pe_int (pa_cons pe_int pa_nil)))) pa_nil))) (pe_op op_mod (pv 0) pe_int) (fun _ _ => rfl)))), ?_⟩
    refine ⟨lz (by show 2 ≤ 1000000; decide), fun p np => ?_⟩
    refine ⟨lz (by show 3 ≤ 1000000; decide), fun r nr => ?_⟩
    refine ⟨lz (by show 2 ≤ 1000000; decide), fun l nl => ?_⟩
    have s1 : Same H (upd (upd H p (.lst [.int 1, .int 3])) r (.lst [.int 1, .int 3, .int 7])) := (sm np).trans (sm nr)
    have s2 := s1.trans (sm (o := .lst [.ref p, .ref r]) nl)
    have hp : (upd (upd H p (.lst [.int 1, .int 3])) r (.lst [.int 1, .int 3, .int 7])) p = some (.lst [.int 1, .int 3]) := by rw [upd_ne (ne_of_none upd_same nr), upd_same]
    have hp2 : (upd (upd (upd H p (.lst [.int 1, .int 3])) r (.lst [.int 1, .int 3, .int 7])) l (.lst [.ref p, .ref r])) p = some (.lst [.int 1, .int 3]) := sm nl _ _ hp
    have hr2 : (upd (upd (upd H p (.lst [.int 1, .int 3])) r (.lst [.int 1, .int 3, .int 7])) l (.lst [.ref p, .ref r])) r = some (.lst [.int 1, .int 3, .int 7]) := sm nl _ _ upd_same
    have nr' : H r = none := (sm np).free nr
    refine ⟨_, rfl, _, _, rfl, rfl, by show (0 : Int) < 2; decide, ?_⟩
    rcases par n with e | e
    · refine ⟨_, _, _, .ref p, rfl, rfl, SqL.of upd_same, by rw [e]; exact aI (by decide) rfl, q p _ np s2 ?_⟩
      rw [hp2, kinds_even e]
      rfl
    · refine ⟨_, _, _, .ref r, rfl, rfl, SqL.of upd_same, by rw [e]; exact aI (by decide) rfl, q r _ nr' s2 ?_⟩
      rw [hr2, kinds_odd e]
      rfl
end
end KT
namespace KT
open PySem PySem.Spec PyProof.Rows L2
section
variable {P : Program} {w : World} {K : PySem.W.Frag} {mg : Str → Option Value} {base : Heap}
theorem ok_law_reading (S : Src K mg "_law_reading" s_law_reading) (m_range : mg "range" = none) (G_law_kinds : KDef P w K mg base CX0 1 "_law_kinds" ["_law_at"] spKinds)
    (G_law_off : KDef P w K mg base CX0 1 "_law_off" ["_law_d", "_law_most"] spOff) : KDef P w K mg base CX0 2 "_law_reading" ["_law_d", "_law_many"] spReading := by
  refine S.ok sc_law_reading (fun _ _ _ _ _ _ us hl => match us, hl with | [_, _], _ => rfl) (fun vs H Q E h => ?_) (fun f cdv A outer s H vs Q E hr h => ?_)
  · obtain ⟨d, n, rfl, _⟩ := h
    rfl
  · obtain ⟨d, n, rfl, hd, n0, n1, q⟩ := h
    refine ⟨_, (pss_one (ps_ret (pe_lc (own := [("_law_at", 2)]) (g := gName 2) (tt := tYes) rfl sc_law_reading.nd (pi_range1 rfl m_range (pa_cons (pv 1) pa_nil)) (blkOk_by (own := [("_law_at", 2)]) (N := ["_law_d", "_law_many", "_law_at"]) (sc := defScope s_law_reading) (by decide +kernel)) (fun _ _ _ _ _ => (pg_name (i := 2) sc_law_reading.nd rfl (.inl rfl) (.inr rfl))) (fun _ _ _ _ _ => pts_nil) (fun _ _ _ _ _ => (pe_ix (ix_listK (K := K) rfl) (pe_callD G_law_kinds (hr.mono (by decide)) (by rfl) (pa_cons (pv 2) pa_nil)) (pe_callD G_law_off (hr.mono (by decide)) (by rfl) (pa_cons (pv 0) (pa_cons (pe_op op_add pe_int (pe_op op_mod (pv 2) pe_int)) pa_nil))) (fun _ _ => rfl)))))), ?_⟩
    refine ⟨_, rfl, n, rfl, by omega, by omega, fun D nD => lc_d walk_range (fun i y => ∃ z, y = V.int z ∧ z ∈ kinds (0 + (i : Int))) hd nD (by omega) (fun _ _ => trivial) ?_ ?_⟩
    · rintro i x H3 H3' acc k hi k3 d3 e3 l3 ⟨rfl, rfl⟩ fin
      refine ⟨rfl, _, rfl, _, rfl, fun p1 H4 np1 s4 e4 => ?_⟩
      refine ⟨_, rfl, _, rfl, _, _, rfl, rfl, by show (0 : Int) < 2; decide, _, _, rfl, rfl, d, _, rfl, d3.same s4, by omega, by omega, fun r H5 r0 r1 d5 k5 => ?_⟩
      obtain ⟨z, ez, hz⟩ := kinds_at r0 r1
      have n1 : p1 ≠ d := d3.ne np1
      refine ⟨_, _, _, _, rfl, rfl, SqL.of (k5 _ _ n1 e4), aI r0 ez, fin _ _ ((k3.then s4).trans k5) d5 (k5 _ _ (hd.ne nD) (s4 _ _ e3)) ⟨z, rfl, hz⟩⟩
    · intro H3 xs k3 d3 e3 l3 p3
      obtain ⟨ns, rfl, l, pn⟩ := ints_of p3
      exact q ns D H3 (by omega) pn nD e3 d3 k3
end
end KT
namespace KT
open PySem PySem.Spec PyProof.Rows L2
section
variable {P : Program} {w : World} {K : PySem.W.Frag} {mg : Str → Option Value} {base : Heap}
theorem ok_law_times (S : Src K mg "_law_times" s_law_times) (m_range : mg "range" = none) (m_enumerate : mg "enumerate" = none) (m_max : mg "max" = none) (m_min : mg "min" = none) (m_int : mg "int" = none)
    (G_law_reading : KDef P w K mg base CX0 2 "_law_reading" ["_law_d", "_law_many"] spReading)
    (G_law_off : KDef P w K mg base CX0 1 "_law_off" ["_law_d", "_law_most"] spOff) : KDef P w K mg base CX0 3 "_law_times" ["_law_d", "_law_most"] spTimes := by
  refine S.ok sc_law_times (fun _ _ _ _ _ _ us hl => match us, hl with | [_, _], _ => rfl) (fun vs H Q E h => ?_) (fun f cdv A outer s H vs Q E hr h => ?_)
  · obtain ⟨d, m, rfl, _⟩ := h
    rfl
  · obtain ⟨d, m, rfl, hd, m0, m1, q⟩ := h
    refine ⟨_, (pss_cons (ps_set (i := 2) sc_law_times.nd rfl (.inl rfl) (pe_op op_add pe_int (pe_op op_mul pe_int (pe_callD G_law_off (hr.mono (by decide)) (by rfl) (pa_cons (pv 0) (pa_cons (pe_op op_fdiv (pe_op op_add (pv 1) pe_int) pe_int) pa_nil))))))
      (pss_cons (ps_set (i := 3) sc_law_times.nd rfl (.inr rfl) (pe_callD G_law_reading (hr.mono (by decide)) (by rfl) (pa_cons (pv 0) (pa_cons (pv 2) pa_nil))))
      (pss_cons (ps_set (i := 4) sc_law_times.nd rfl (.inr rfl) (pe_op op_add pe_int (pe_callD G_law_off (hr.mono (by decide)) (by rfl) (pa_cons (pv 0) (pa_cons (pe_ix (ix_listK (K := K) rfl) (pe_lst (pa_cons pe_int (pa_cons pe_int (pa_cons pe_int pa_nil)))) (pe_callD G_law_off (hr.mono (by decide)) (by rfl) (pa_cons (pv 0) (pa_cons pe_int pa_nil))) (fun _ _ => rfl)) pa_nil)))))
      (pss_cons (ps_set (i := 5) sc_law_times.nd rfl (.inr rfl) (pe_ix (ix_listK (K := K) rfl) (pe_lst (pa_cons pe_int (pa_cons pe_int (pa_cons (pe_op op_add pe_int (pe_op op_fdiv (pv 4) pe_int)) (pa_cons (pe_op op_add pe_int (pv 4)) pa_nil))))) (pe_callD G_law_off (hr.mono (by decide)) (by rfl) (pa_cons (pv 0) (pa_cons pe_int pa_nil))) (fun _ _ => rfl)))
      (C8.pss_cut (ps_setLc (i := 6) (own := [("_law_at", 7)]) (g := gName 7) (tt := tYes) rfl sc_law_times.nd rfl rfl (sw_true rfl rfl rfl (by decide +kernel)) (pi_range1 rfl m_range (pa_cons (pv 2) pa_nil)) (blkOk_by (own := [("_law_at", 7)]) (N := ["_law_d", "_law_most", "_law_many", "_law_reading_here", "_law_unit", "_law_shake", "_law_times_here", "_law_at", "_law_k", "_law_time"]) (sc := defScope s_law_times) (by decide +kernel)) (fun _ _ _ _ _ => (pg_name (i := 7) sc_law_times.nd rfl (.inl rfl) (.inr rfl))) (fun _ _ _ _ _ => pts_nil) (fun _ _ _ _ _ => (pe_callB (call_max2 rfl) (by rfl) m_max (by decide +kernel) (pa_cons pe_int (pa_cons (pe_op op_sub (pe_op op_add (pe_op op_mul (pe_ix (ix_listK (K := K) rfl) (pv 3) (pv 7) (fun _ _ => rfl)) (pv 4)) (pe_callD G_law_off (hr.mono (by decide)) (by rfl) (pa_cons (pv 0) (pa_cons (pe_op op_add (pe_op op_mul pe_int (pv 5)) pe_int) pa_nil)))) (pv 5)) pa_nil)))))
      (C8.pss_cut (ps_if (pt_cmpR op_eq (pe_callD G_law_off (hr.mono (by decide)) (by rfl) (pa_cons (pv 0) (pa_cons pe_int pa_nil))) pe_int (nomark _))
      (pss_one (ps_setLc (i := 6) (own := [("_law_at", 7)]) (g := gName 7) (tt := tYes) rfl sc_law_times.nd rfl rfl (sw_true rfl rfl rfl (by decide +kernel)) (pi_range1 rfl m_range (pa_cons (pv 2) pa_nil)) (blkOk_by (own := [("_law_at", 7)]) (N := ["_law_d", "_law_most", "_law_many", "_law_reading_here", "_law_unit", "_law_shake", "_law_times_here", "_law_at", "_law_k", "_law_time"]) (sc := defScope s_law_times) (by decide +kernel)) (fun _ _ _ _ _ => (pg_name (i := 7) sc_law_times.nd rfl (.inl rfl) (.inr rfl))) (fun _ _ _ _ _ => pts_nil) (fun _ _ _ _ _ => (pe_op op_add pe_int (pe_callD G_law_off (hr.mono (by decide)) (by rfl) (pa_cons (pv 0) (pa_cons (pe_ix (ix_listK (K := K) rfl) (pe_lst (pa_cons pe_int (pa_cons pe_int pa_nil))) (pe_callD G_law_off (hr.mono (by decide)) (by rfl) (pa_cons (pv 0) (pa_cons pe_int pa_nil))) (fun _ _ => rfl)) pa_nil)))))))
      pss_nil)
      (C8.pss_cut (ps_if (pt_cmpR op_eq (pe_callD G_law_off (hr.mono (by decide)) (by rfl) (pa_cons (pv 0) (pa_cons pe_int pa_nil))) pe_int (nomark _))
      (pss_cons (ps_set (i := 7) sc_law_times.nd rfl (.inr rfl) (pe_callD G_law_off (hr.mono (by decide)) (by rfl) (pa_cons (pv 0) (pa_cons (pv 2) pa_nil))))
      (pss_one (ps_setLc (i := 6) (own := [("_law_k", 8), ("_law_time", 9)]) (g := gTup K 2 (gCons (gName 8) (gCons (gName 9) gNil))) (tt := tYes) rfl sc_law_times.nd rfl rfl (sw_true rfl rfl rfl (by decide +kernel)) (pi_enumK (K := K) rfl (by rfl) m_enumerate (pa_cons (pv 6) pa_nil)) (blkOk_by (own := [("_law_k", 8), ("_law_time", 9)]) (N := ["_law_d", "_law_most", "_law_many", "_law_reading_here", "_law_unit", "_law_shake", "_law_times_here", "_law_at", "_law_k", "_law_time"]) (sc := defScope s_law_times) (by decide +kernel)) (fun _ _ _ _ _ => (pg_tup rfl (pgs_cons (pg_name (i := 8) sc_law_times.nd rfl (.inl rfl) (.inr rfl)) (pgs_cons (pg_name (i := 9) sc_law_times.nd rfl (.inl rfl) (.inr rfl)) pgs_nil)))) (fun _ _ _ _ _ => pts_nil) (fun _ _ _ _ _ => (pe_ix (ix_listK (K := K) rfl) (pe_lst (pa_cons (pv 9) (pa_cons (pe_op op_add pe_int (pe_op op_mul (pv 9) pe_int)) pa_nil))) (pe_callTy call_int1 (by rfl) m_int (by decide +kernel) (pa_cons (pe_cmpR op_ge (pv 8) (pv 7) (nomark _)) pa_nil)) (fun _ _ => rfl))))))
      pss_nil)
      (pss_one (ps_ret (pe_lc (own := [("_law_time", 9)]) (g := gName 9) (tt := tYes) rfl sc_law_times.nd (pi_listK (K := K) rfl (pv 6)) (blkOk_by (own := [("_law_time", 9)]) (N := ["_law_d", "_law_most", "_law_many", "_law_reading_here", "_law_unit", "_law_shake", "_law_times_here", "_law_at", "_law_k", "_law_time"]) (sc := defScope s_law_times) (by decide +kernel)) (fun _ _ _ _ _ => (pg_name (i := 9) sc_law_times.nd rfl (.inl rfl) (.inr rfl))) (fun _ _ _ _ _ => pts_nil) (fun _ _ _ _ _ => (pe_callB (call_min2 rfl) (by rfl) m_min (by decide +kernel) (pa_cons pe_int (pa_cons (pv 9) pa_nil)))))))))))))), ?_⟩
    -- many
    refine ⟨_, rfl, _, rfl, _, _, rfl, rfl, _, _, rfl, rfl, ⟨by decide, by decide⟩, d, _, rfl, hd, by omega, by omega, fun k H1 k0 k1 d1 p1 => ?_⟩
    refine ⟨_, _, rfl, rfl, .inl ⟨by decide, by decide⟩, _, _, rfl, rfl, ?_⟩
    have n0 : 1 ≤ 1 + 2 * k := by omega
    have n1 : 1 + 2 * k ≤ m := by omega
    have n2 : (1 + 2 * k) % 2 = 1 := by omega
    -- reading_here
    refine ⟨_, rfl, _, rfl, d, _, rfl, d1, by omega, by omega, fun ks pr H2 el rk npr epr d2 p2 => ?_⟩
    have k2 := p1.trans p2
    have npr0 : H pr = none := p1.new d1 npr
    -- unit
    refine ⟨_, rfl, lz (by show 3 ≤ 1000000; decide), fun l nl => ?_⟩
    refine ⟨_, rfl, d, _, rfl, d2.same (sm nl), by decide, by decide, fun r H3 r0 r1 d3 p3 => ?_⟩
    obtain ⟨mm, em, mm0, mm1⟩ : ∃ mm : Int, ([V.int 6, V.int 60, V.int 999] : List V)[r.toNat]? = some (V.int mm) ∧ 0 < mm ∧ mm ≤ 999 := by
      rcases (by omega : r = 0 ∨ r = 1 ∨ r = 2) with rfl | rfl | rfl
      · exact ⟨_, rfl, by decide, by decide⟩
      · exact ⟨_, rfl, by decide, by decide⟩
      · exact ⟨_, rfl, by decide, by decide⟩
    have n3 : l ≠ d := d2.ne nl
    refine ⟨_, _, _, _, rfl, rfl, SqL.of (p3 _ _ n3 upd_same), aI r0 em, d, _, rfl, d3, mm0, by omega, fun u H4 u0 u1 d4 p4 => ?_⟩
    refine ⟨_, _, rfl, rfl, ?_⟩
    have k4 : Kp d H2 H4 := ((Kp.of (sm nl)).trans p3).trans p4
    have v0 : 1 ≤ 1 + u := by omega
    have v1 : 1 + u ≤ 999 := by omega
    -- shake
    refine ⟨_, rfl, _, _, rfl, rfl, ⟨by decide, by decide⟩, _, _, rfl, rfl, _, rfl, _, _, rfl, rfl, lz (by show 4 ≤ 1000000; decide), fun l2 nl2 => ?_⟩
    refine ⟨_, rfl, d, _, rfl, d4.same (sm nl2), by decide, by decide, fun r2 H5 r20 r21 d5 p5 => ?_⟩
    obtain ⟨sh, es, sh0, sh1⟩ : ∃ sh : Int, ([V.int 0, V.int 1, V.int (1 + (1 + u) / 4), V.int (1 + (1 + u))] : List V)[r2.toNat]? = some (V.int sh) ∧ 0 ≤ sh ∧ sh ≤ 1000 := by
      rcases (by omega : r2 = 0 ∨ r2 = 1 ∨ r2 = 2 ∨ r2 = 3) with rfl | rfl | rfl | rfl
      · exact ⟨_, rfl, by decide, by decide⟩
      · exact ⟨_, rfl, by decide, by decide⟩
      · exact ⟨_, rfl, by omega, by omega⟩
      · exact ⟨_, rfl, by omega, by omega⟩
    have n4 : l2 ≠ d := d4.ne nl2
    refine ⟨_, _, _, _, rfl, rfl, SqL.of (p5 _ _ n4 upd_same), aI r20 es, ?_⟩
    have k5 : Kp d H2 H5 := (k4.trans (Kp.of (sm nl2))).trans p5
    have kA : Kp d H H5 := k2.trans k5
    have epr5 : H5 pr = some (.lst (ks.map V.int)) := k5 _ _ (d1.ne npr) epr
    -- times
    refine ⟨fun σ H6 => ∃ (ts : List Int) (p : Addr) (y : Option V), σ = [some (.ref d), some (.int m), some (.int (1 + 2 * k)), some (.ref pr), some (.int (1 + u)), some (.int sh), some (.ref p), y, none, none] ∧
      (ts.length : Int) = 1 + 2 * k ∧ (∀ (i : Nat) (t : Int), ts[i]? = some t → 1 ≤ t ∧ t ≤ 20000) ∧ H p = none ∧ H6 p = some (.lst (ts.map V.int)) ∧ Dice H6 d ∧ Kp d H H6, ?_, ?_⟩
    · refine ⟨_, rfl, 1 + 2 * k, rfl, by omega, by omega, fun D nD => lc_d walk_range (fun i y => ∃ z, y = V.int z ∧ (1 ≤ z ∧ z ≤ 20000)) d5 nD (by omega) (fun _ _ => trivial) ?_ ?_⟩
      · rintro i x H6 H6' acc c hi k6 d6 e6 l6 ⟨rfl, rfl⟩ fin
        obtain ⟨kk, ek, hk⟩ : ∃ kk, ks[i]? = some kk ∧ (kk = 1 ∨ kk = 3 ∨ kk = 7) := by
          have hi2 : i < ks.length := by omega
          exact ⟨_, List.getElem?_eq_getElem hi2, kinds_le (rk i _ (List.getElem?_eq_getElem hi2))⟩
        have ek2 : (ks.map V.int)[(0 + (i : Int)).toNat]? = some (V.int kk) := by
          rw [Int.zero_add, Int.toNat_natCast]
          exact at_int ek
        refine ⟨rfl, _, rfl, _, rfl, _, _, _, _, rfl, rfl, SqL.of (k6 _ _ (d1.ne npr) epr5), aI (by omega) ek2, _, rfl, _, _, rfl, rfl, .inl ⟨by omega, by omega⟩, ?_⟩
        refine ⟨_, rfl, _, rfl, _, _, rfl, rfl, .inl ⟨by decide, by decide⟩, _, _, rfl, rfl, d, _, rfl, d6, by omega, by omega, fun r3 H7 r30 r31 d7 p7 => ?_⟩
        refine ⟨_, _, rfl, rfl, _, rfl, _, _, rfl, rfl, _, _, rfl, fin _ _ (k6.trans p7) d7 (p7 _ _ (d5.ne nD) e6) ⟨_, rfl, ?_⟩⟩
        have b1 : 1 + u ≤ kk * (1 + u) ∧ kk * (1 + u) ≤ 7 * (1 + u) := by
          rcases hk with rfl | rfl | rfl <;> omega
        split <;> omega
      · intro H6 xs k6 d6 e6 l6 p6
        obtain ⟨ns, rfl, l, pn⟩ := ints_of p6
        exact ⟨ns, D, _, rfl, by omega, pn, kA.new d5 nD, e6, d6, kA.trans k6⟩
    · rintro σ H6 ⟨ts, p, y, rfl, tl, tb, np, ep, d6, k6⟩
      -- any times
      refine ⟨fun σ H6 => ∃ (ts : List Int) (p : Addr) (y : Option V), σ = [some (.ref d), some (.int m), some (.int (1 + 2 * k)), some (.ref pr), some (.int (1 + u)), some (.int sh), some (.ref p), y, none, none] ∧
        (ts.length : Int) = 1 + 2 * k ∧ (∀ (i : Nat) (t : Int), ts[i]? = some t → 1 ≤ t ∧ t ≤ 20000) ∧ H p = none ∧ H6 p = some (.lst (ts.map V.int)) ∧ Dice H6 d ∧ Kp d H H6, ?_, ?_⟩
      · refine ⟨_, rfl, d, _, rfl, d6, by decide, by decide, fun r H7 r0 r1 d7 p7 => ?_⟩
        refine ⟨rfl, _, rfl, ite2 (fun _ => ?_) (fun _ => ⟨ts, p, y, rfl, tl, tb, np, p7 _ _ (hd.ne np) ep, d7, k6.trans p7⟩)⟩
        refine ⟨_, rfl, 1 + 2 * k, rfl, by omega, by omega, fun D nD => lc_d walk_range (fun i y => ∃ z, y = V.int z ∧ (1 ≤ z ∧ z ≤ 20000)) d7 nD (by omega) (fun _ _ => trivial) ?_ ?_⟩
        · rintro i x H8 H8' acc c hi k8 d8 e8 l8 ⟨rfl, rfl⟩ fin
          refine ⟨rfl, _, rfl, lz (by show 2 ≤ 1000000; decide), fun l3 nl3 => ?_⟩
          refine ⟨_, rfl, d, _, rfl, d8.same (sm nl3), by decide, by decide, fun r3 H9 r30 r31 d9 p9 => ?_⟩
          obtain ⟨mm, em, mm0, mm1⟩ : ∃ mm : Int, ([V.int 9, V.int 9999] : List V)[r3.toNat]? = some (V.int mm) ∧ 0 < mm ∧ mm ≤ 9999 := by
            rcases (by omega : r3 = 0 ∨ r3 = 1) with rfl | rfl
            · exact ⟨_, rfl, by decide, by decide⟩
            · exact ⟨_, rfl, by decide, by decide⟩
          refine ⟨_, _, _, _, rfl, rfl, SqL.of (p9 _ _ (d8.ne nl3) upd_same), aI r30 em, d, _, rfl, d9, mm0, by omega, fun u H10 u0 u1 d10 p10 => ?_⟩
          refine ⟨_, _, rfl, rfl, fin _ _ (((k8.then (sm nl3)).trans p9).trans p10) d10 (p10 _ _ (d7.ne nD) (p9 _ _ (d7.ne nD) ((sm nl3) _ _ e8))) ⟨_, rfl, by omega, by omega⟩⟩
        · intro H8 xs k8 d8 e8 l8 p8
          obtain ⟨ns, rfl, l, pn⟩ := ints_of p8
          exact ⟨ns, D, _, rfl, by omega, pn, (k6.trans p7).new d7 nD, e8, d8, (k6.trans p7).trans k8⟩
      · clear tl tb np ep d6 k6 y p ts
        rintro σ H6 ⟨ts, p, y, rfl, tl, tb, np, ep, d6, k6⟩
        -- slower by half
        refine ⟨fun σ H6 => ∃ (ts : List Int) (p : Addr) (y : Option V), σ = [some (.ref d), some (.int m), some (.int (1 + 2 * k)), some (.ref pr), some (.int (1 + u)), some (.int sh), some (.ref p), y, none, none] ∧
          (ts.length : Int) = 1 + 2 * k ∧ (∀ (i : Nat) (t : Int), ts[i]? = some t → 1 ≤ t ∧ t ≤ 50000) ∧ H p = none ∧ H6 p = some (.lst (ts.map V.int)) ∧ Dice H6 d ∧ Kp d H H6, ?_, ?_⟩
        · refine ⟨_, rfl, d, _, rfl, d6, by decide, by decide, fun r H7 r0 r1 d7 p7 => ?_⟩
          have ep7 : H7 p = some (.lst (ts.map V.int)) := p7 _ _ (hd.ne np) ep
          refine ⟨rfl, _, rfl, ite2 (fun _ => ?_) (fun _ => ⟨ts, p, y, rfl, tl, fun i t h => ⟨(tb i t h).1, by have := (tb i t h).2; omega⟩, np, ep7, d7, k6.trans p7⟩)⟩
          refine ⟨_, rfl, _, rfl, d, _, rfl, d7, by omega, by omega, fun at_ H8 at0 at1 d8 p8 => ?_⟩
          have ep8 : H8 p = some (.lst (ts.map V.int)) := p8 _ _ (hd.ne np) ep7
          refine ⟨_, rfl, _, _, rfl, SqL.of ep8, fun D nD => lc_d (d := d) walk_enum (fun i y => ∃ z, y = V.int z ∧ (1 ≤ z ∧ z ≤ 50000)) d8 nD (by rw [List.length_map]; omega) (fun H9 k9 => SqL.of (k9 _ _ (hd.ne np) ep8)) ?_ ?_⟩
          · rintro i x H9 H9' acc c hi k9 d9 e9 l9 ⟨T, x1, x2, rfl, nT, rfl, f1, f2⟩ fin
            cases f1
            obtain ⟨t, rfl, et⟩ := int_at f2
            have sT := sm (o := .tup [V.int (i : Nat), V.int t]) nT
            have nDT : D ≠ T := ne_of_none e9 nT
            refine ⟨_, _, rfl, .inl (.inl upd_same), rfl, _, _, rfl, _, _, rfl, rfl, rfl, _, rfl, _, rfl, _, _, rfl, rfl, .inl ⟨by have := (tb i t et).1; omega, by have := (tb i t et).2; omega⟩, ?_⟩
            refine ⟨_, _, rfl, rfl, lz (by show 2 ≤ 1000000; decide), fun l3 nl3 => ?_⟩
            refine ⟨_, rfl, _, rfl, _, _, rfl, rfl, .inr ⟨_, rfl, _, _, _, _, rfl, rfl, SqL.of upd_same, pick2 _ _ _, ?_⟩⟩
            have s3 := sT.trans (sm (o := .lst [V.int t, V.int (1 + t * 2)]) nl3)
            refine fin _ _ (k9.then s3) (d9.same s3) (s3 _ _ e9) ?_
            have b := tb i t et
            cases decide (at_ ≤ (i : Nat)) with
            | false => exact ⟨t, rfl, by omega, by omega⟩
            | true => exact ⟨1 + t * 2, rfl, by omega, by omega⟩
          · intro H9 xs k9 d9 e9 l9 p9
            obtain ⟨ns, rfl, l, pn⟩ := ints_of p9
            simp only [List.length_map] at l9 l
            exact ⟨ns, D, _, rfl, by omega, pn, (k6.trans (p7.trans p8)).new d8 nD, e9, d9, (k6.trans (p7.trans p8)).trans k9⟩
        · clear tl tb np ep d6 k6 y p ts
          rintro σ H6 ⟨ts, p, y, rfl, tl, tb, np, ep, d6, k6⟩
          refine ⟨_, rfl, p, rfl, ⟨_, SqL.of ep⟩, fun D nD => lc_d (d := d) walk_list (fun i y => ∃ z, y = V.int z ∧ (1 ≤ z ∧ z ≤ 9999)) d6 nD (by rw [List.length_map]; omega) (fun H9 k9 => SqL.of (k9 _ _ (hd.ne np) ep)) ?_ ?_⟩
          · rintro i x H9 H9' acc c hi k9 d9 e9 l9 ⟨rfl, hx⟩ fin
            obtain ⟨t, rfl, et⟩ := int_at hx
            have b := tb i t et
            refine ⟨rfl, _, rfl, _, _, rfl, fin _ _ k9 d9 e9 ⟨_, rfl, ?_⟩⟩
            split <;> omega
          · intro H9 xs k9 d9 e9 l9 p9
            obtain ⟨ns, rfl, l, pn⟩ := ints_of p9
            simp only [List.length_map] at l9 l
            exact q ns D H9 ⟨by omega, by omega, pn⟩ (by omega) (k6.new d6 nD) e9 d9 (k6.trans k9)
end
end KT
namespace KT
open PySem PySem.Spec PyProof.Rows L2
section
variable {P : Program} {w : World} {K : PySem.W.Frag} {mg : Str → Option Value} {base : Heap}
theorem ok_law_low (S : Src K mg "_law_low" s_law_low) (m_abs : mg "abs" = none) : KDef P w K mg base CX0 1 "_law_low" ["_law_top", "_law_bottom"] spLow := by
  refine S.ok sc_law_low (fun _ _ _ _ _ _ us hl => match us, hl with | [_, _], _ => rfl) (fun vs H Q E h => ?_) (fun f cdv A outer s H vs Q E hr h => ?_)
  · obtain ⟨t, b, rfl, _⟩ := h
    rfl
  · obtain ⟨t, b, rfl, hb, hb2, q⟩ := h
    refine ⟨_, (pss_cons (ps_set (i := 2) sc_law_low.nd rfl (.inl rfl) (pe_callB call_abs (by rfl) m_abs (by decide +kernel) (pa_cons (pv 0) pa_nil)))
      (pss_cons (ps_set (i := 3) sc_law_low.nd rfl (.inl rfl) (pv 1))
      (pss_cons (ps_while PassesOwn.never (pt_cmpR op_gt (pv 3) pe_int (nomark _))
      (pss_one (ps_par (i := 2) (j := 3) (by rfl) sc_law_low.nd rfl rfl (by decide) rfl rfl (pa_cons (pv 3) (pa_cons (pe_op op_mod (pv 2) (pv 3)) pa_nil)) (by rfl))))
      (pss_one (ps_ret (pe_tup (pa_cons (pe_op op_fdiv (pv 0) (pv 2)) (pa_cons (pe_op op_fdiv (pv 1) (pv 2)) pa_nil)))))))), ?_⟩
    refine ⟨_, rfl, _, rfl, _, rfl, while_by (fun σ H1 => ∃ m n : Nat, σ = [some (.int t), some (.int b), some (.int (m : Int)), some (.int (n : Int))] ∧ Nat.gcd m n = Int.gcd t b ∧ 0 < m + n ∧ H1 = H)
      (fun σ _ => match σ with | [_, _, _, some (.int n)] => n.toNat | _ => 0) ⟨t.natAbs, b.natAbs, ?_, rfl, by omega, rfl⟩ ?_ ?_⟩
    · have e1 : (if t < 0 then -t else t) = (t.natAbs : Int) := by split <;> omega
      have e2 : b = (b.natAbs : Int) := by omega
      show [some (V.int t), some (V.int b), some (V.int (if t < 0 then -t else t)), some (V.int b)] = _
      rw [e1, ← e2]
    · rintro σ H1 ⟨m, n, rfl, eg, hp, rfl⟩
      refine ⟨_, rfl, _, _, rfl, rfl, _, rfl, ite2 (fun e => ?_) (fun e => ?_)⟩
      · have hn : (0 : Int) < (n : Int) := of_decide_eq_true e
        refine ⟨_, rfl, _, rfl, _, rfl, _, _, rfl, rfl, hn, _, _, rfl, ?_, ?_⟩
        · refine ⟨n, m % n, rfl, ?_, by omega, rfl⟩
          rw [← eg, Nat.gcd_comm n (m % n), ← Nat.gcd_rec, Nat.gcd_comm]
        · show ((m : Int) % (n : Int)).toNat < (n : Int).toNat
          have h1 : ((m : Int) % (n : Int)) < n := Int.emod_lt_of_pos _ hn
          omega
      · have hn : n = 0 := by
          have h1 : ¬ ((0 : Int) < (n : Int)) := fun z => e (decide_eq_true z)
          omega
        subst hn
        rw [Nat.gcd_zero_right] at eg
        subst eg
        have g0 : 0 < ((Int.gcd t b : Nat) : Int) := gI_pos hb
        have g1 : ((Int.gcd t b : Nat) : Int) ≤ b := gI_le hb
        refine ⟨_, rfl, _, rfl, _, _, rfl, rfl, ⟨g0, by omega⟩, _, rfl, _, rfl, _, _, rfl, rfl, ⟨g0, by omega⟩, lz (by show 2 ≤ 1000000; decide), fun p np => ?_⟩
        exact q p _ np (sm np) upd_same
    · rintro σ H1 Q1 Q2 hq ⟨v, e, i, j, e1, e2, k, e3, e4⟩
      exact ⟨v, e, i, j, e1, e2, k, e3, hq _ _ e4⟩
end
end KT
namespace KT
open PySem PySem.Spec PyProof.Rows L2
section
variable {P : Program} {w : World} {K : PySem.W.Frag} {mg : Str → Option Value} {base : Heap}
theorem ok_law_less (S : Src K mg "_law_less" s_law_less) : KDef P w K mg base CX0 1 "_law_less" ["_law_one", "_law_other"] (spLess K) := by
  refine S.ok sc_law_less (fun _ _ _ _ _ _ us hl => match us, hl with | [_, _], _ => rfl) (fun vs H Q E h => ?_) (fun f cdv A outer s H vs Q E hr h => ?_)
  · obtain ⟨p, r, f1, g1, rfl, _⟩ := h
    rfl
  · obtain ⟨p, r, f1, g1, rfl, hp, hq, b1, b2, q⟩ := h
    refine ⟨_, (pss_one (ps_ret (pe_cmpR op_lt (pe_op op_mul (pe_ix (ix_tupK (K := K) rfl) (pv 0) pe_int (fun _ _ => rfl)) (pe_ix (ix_tupK (K := K) rfl) (pv 1) pe_int (fun _ _ => rfl))) (pe_op op_mul (pe_ix (ix_tupK (K := K) rfl) (pv 1) pe_int (fun _ _ => rfl)) (pe_ix (ix_tupK (K := K) rfl) (pv 0) pe_int (fun _ _ => rfl))) (nomark _)))), ?_⟩
    refine ⟨_, rfl, _, _, _, _, rfl, rfl, hp, aI (by decide) rfl, _, rfl, _, _, _, _, rfl, rfl, hq, aI (by decide) rfl, _, _, rfl, rfl, .inl b1, ?_⟩
    refine ⟨_, rfl, _, _, _, _, rfl, rfl, hq, aI (by decide) rfl, _, rfl, _, _, _, _, rfl, rfl, hp, aI (by decide) rfl, _, _, rfl, rfl, .inl b2, _, _, rfl, rfl, q⟩
end
end KT
namespace KT
open PySem PySem.Spec PyProof.Rows L2
section
variable {P : Program} {w : World} {K : PySem.W.Frag} {mg : Str → Option Value} {base : Heap}
theorem ok_law_asks (S : Src K mg "_law_asks" s_law_asks) (G_law_low : KDef P w K mg base CX0 1 "_law_low" ["_law_top", "_law_bottom"] spLow) :
    KDef P w K mg base CX0 2 "_law_asks" ["_law_times_here", "_law_reading_here", "_law_one", "_law_other"] (spAsksQ K) := by
  refine S.ok sc_law_asks (fun _ _ _ _ _ _ us hl => match us, hl with | [_, _, _, _], _ => rfl) (fun vs H Q E h => ?_) (fun f cdv A outer s H vs Q E hr h => ?_)
  · obtain ⟨a, b, ts, ks, i, j, rfl, _⟩ := h
    rfl
  · obtain ⟨a, b, ts, ks, i, j, rfl, T, hi, hj, q⟩ := h
    refine ⟨_, (pss_cons (ps_set (i := 4) sc_law_asks.nd rfl (.inl rfl) (pe_op op_mul (pe_ix (ix_listK (K := K) rfl) (pv 0) (pv 2) (fun _ _ => rfl)) (pe_ix (ix_seqK (K := K) rfl) (pv 1) (pv 3) (fun _ _ => rfl))))
      (pss_cons (ps_set (i := 4) sc_law_asks.nd rfl (.inl rfl) (pe_op op_sub (pv 4) (pe_op op_mul (pe_ix (ix_listK (K := K) rfl) (pv 0) (pv 3) (fun _ _ => rfl)) (pe_ix (ix_seqK (K := K) rfl) (pv 1) (pv 2) (fun _ _ => rfl)))))
      (pss_one (ps_ret (pe_callD G_law_low (hr.mono (by decide)) (by rfl) (pa_cons (pv 4) (pa_cons (pe_op op_add (pe_ix (ix_listK (K := K) rfl) (pv 0) (pv 2) (fun _ _ => rfl)) (pe_ix (ix_listK (K := K) rfl) (pv 0) (pv 3) (fun _ _ => rfl))) pa_nil))))))), ?_⟩
    have t1 := at_int (get_at hi)
    have t2 := at_int (get_at hj)
    have k1 := at_int (get_at (l := ks) (i := i) (by rw [T.ok.len]; exact hi))
    have k2 := at_int (get_at (l := ks) (i := j) (by rw [T.ok.len]; exact hj))
    have bt := T.ok.ti hi
    have bt2 := T.ok.ti hj
    have bb := T.ok.bot hi hj
    refine ⟨_, rfl, _, rfl, _, _, _, _, rfl, rfl, T.t, atI_nat t1, _, rfl, _, rfl, T.ix k2 ⟨_, _, rfl, rfl, .inl ⟨by omega, by omega⟩, ?_⟩⟩
    refine ⟨_, rfl, _, rfl, _, rfl, _, _, _, _, rfl, rfl, T.t, atI_nat t2, _, rfl, _, rfl, T.ix k1 ⟨_, _, rfl, rfl, .inl ⟨by omega, by omega⟩, _, _, rfl, rfl, ?_⟩⟩
    refine ⟨_, rfl, _, rfl, _, rfl, _, _, _, _, rfl, rfl, T.t, atI_nat t1, _, rfl, _, rfl, _, _, _, _, rfl, rfl, T.t, atI_nat t2, _, _, rfl, rfl, _, _, rfl, ?_⟩
    exact ⟨bb.1, by have := bb.2; show askB ts i j < _; omega, q⟩
end
end KT
namespace KT
open PySem PySem.Spec PyProof.Rows L2
section
variable {P : Program} {w : World} {K : PySem.W.Frag} {mg : Str → Option Value} {base : Heap}
theorem ok_law_width (S : Src K mg "_law_width" s_law_width) (m_range : mg "range" = none) (m_len : mg "len" = none) (G_law_less : KDef P w K mg base CX0 1 "_law_less" ["_law_one", "_law_other"] (spLess K))
    (G_law_asks : KDef P w K mg base CX0 2 "_law_asks" ["_law_times_here", "_law_reading_here", "_law_one", "_law_other"] (spAsksQ K)) : KDef P w K mg base CX0 3 "_law_width" ["_law_times_here", "_law_reading_here"] (spWidthQ K) := by
  refine S.ok sc_law_width (fun _ _ _ _ _ _ us hl => match us, hl with | [_, _], _ => rfl) (fun vs H Q E h => ?_) (fun f cdv A outer s H vs Q E hr h => ?_)
  · obtain ⟨a, b, ts, ks, rfl, _⟩ := h
    rfl
  · obtain ⟨a, b, ts, ks, rfl, T, hn, q⟩ := h
    refine ⟨_, (pss_cons (ps_set (i := 2) sc_law_width.nd rfl (.inl rfl) (pe_tup (pa_cons (pe_tup (pa_cons pe_int (pa_cons pe_int pa_nil))) (pa_cons (pe_tup (pa_cons pe_int (pa_cons pe_int pa_nil))) pa_nil))))
      (pss_cons (ps_for PassesOwn.never rfl (pi_range1 rfl m_range (pa_cons (pe_callB (call_len_seqK (K := K) rfl) (by rfl) m_len (by decide +kernel) (pa_cons (pv 0) pa_nil)) pa_nil)) (pg_name (i := 3) sc_law_width.nd rfl (.inl rfl))
      (pss_one (ps_for PassesOwn.never rfl (pi_range1 rfl m_range (pa_cons (pe_callB (call_len_seqK (K := K) rfl) (by rfl) m_len (by decide +kernel) (pa_cons (pv 0) pa_nil)) pa_nil)) (pg_name (i := 4) sc_law_width.nd rfl (.inl rfl))
      (pss_one (ps_if (pt_val (pe_callD G_law_less (hr.mono (by decide)) (by rfl) (pa_cons (pe_ix (ix_tupK (K := K) rfl) (pv 2) pe_int (fun _ _ => rfl)) (pa_cons (pe_callD G_law_asks (hr.mono (by decide)) (by rfl) (pa_cons (pv 0) (pa_cons (pv 1) (pa_cons (pv 3) (pa_cons (pv 4) pa_nil))))) pa_nil))))
      (pss_one (ps_set (i := 2) sc_law_width.nd rfl (.inl rfl) (pe_tup (pa_cons (pe_callD G_law_asks (hr.mono (by decide)) (by rfl) (pa_cons (pv 0) (pa_cons (pv 1) (pa_cons (pv 3) (pa_cons (pv 4) pa_nil))))) (pa_cons (pe_tup (pa_cons (pv 3) (pa_cons (pv 4) pa_nil))) pa_nil)))))
      pss_nil)))))
      (pss_one (ps_ret (pv 2))))), ?_⟩
    have tl : (ts.map V.int).length = ts.length := List.length_map ..
    have le := T.ok.le
    refine ⟨lz (by show 2 ≤ 1000000; decide), fun p1 np1 => ⟨lz (by show 2 ≤ 1000000; decide), fun p2 np2 => ⟨lz (by show 2 ≤ 1000000; decide), fun p3 np3 => ?_⟩⟩⟩
    refine ⟨_, rfl, a, _, rfl, .inl ((((sm np1).trans (sm np2)).trans (sm np3)).seq T.t), _, rfl, by omega, by omega, ?_⟩
    refine for_range (lo := 0) (n := ((ts.map V.int).length : Int).toNat) (fun i σ H1 => ∃ (p : Addr) (y3 y4 : Option V), σ = [some (.ref a), some (.ref b), some (.ref p), y3, y4] ∧ Same H H1 ∧ WAt H1 p (lowF (bestTo ts ks i 0).1.1 (bestTo ts ks i 0).1.2, (bestTo ts ks i 0).2)) ?_ ?_ ?_
    · refine ⟨p3, _, _, rfl, ((sm np1).trans (sm np2)).trans (sm np3), p1, p2, ?_, ?_, ?_⟩
      · exact upd_same
      · rw [upd_ne (ne_of_none ((sm np2) _ _ upd_same) np3), upd_ne (ne_of_none upd_same np2), upd_same]
        show some (HO.tup [V.int 0, V.int 1]) = some (HO.tup (frV (lowF 0 1)))
        rw [low_zero]
        rfl
      · rw [upd_ne (ne_of_none upd_same np3), upd_same]
        rfl
    · rintro i σ H1 hi ⟨p, y3, y4, rfl, s1, wa⟩
      have hi' : i < ts.length := by omega
      refine ⟨_, rfl, a, _, rfl, .inl (s1.seq T.t), _, rfl, by omega, by omega, ?_⟩
      refine for_range (lo := 0) (n := ((ts.map V.int).length : Int).toNat) (fun j σ H2 => ∃ (p : Addr) (y4 : Option V), σ = [some (.ref a), some (.ref b), some (.ref p), some (.int (0 + (i : Int))), y4] ∧ Same H H2 ∧ WAt H2 p (lowF (bestTo ts ks i j).1.1 (bestTo ts ks i j).1.2, (bestTo ts ks i j).2)) ?_ ?_ ?_
      · exact ⟨p, _, rfl, s1, wa⟩
      · clear wa p s1
        rintro j σ H2 hj ⟨p, y4, rfl, s2, wa⟩
        have hj' : j < ts.length := by omega
        have ok := bestTo_ok T.ok hn (i := i) (j := j) (by omega) (by omega) (.inl hi')
        have bb := T.ok.bot hi' hj'
        have bt := T.ok.top hi' hj'
        obtain ⟨x, y, e1, e2, e3⟩ := wa.ex
        have ei : (0 + (i : Int)) = (i : Int) := by omega
        have ej : (0 + (j : Int)) = (j : Int) := by omega
        refine ⟨_, rfl, _, _, _, _, rfl, rfl, SqT.of e1, aI (by decide) rfl, _, rfl, _, rfl, _, rfl, _, rfl, a, b, ts, ks, i, j, by rw [ei, ej]; rfl, T.same s2, hi', hj', fun p4 H4 np4 s4 e4 => ?_⟩
        have ab1 := low_top_abs (bestTo ts ks i j).1.1 _ ok.pos
        have ab2 := low_top_abs (askT ts ks i j) _ bb.1
        have o1 := ok.t0
        have o2 := ok.t1
        refine ⟨x, p4, _, _, rfl, SqT.of (s4 _ _ e2), SqT.of e4, ⟨by show _ < (lowF _ _).1; omega, by show (lowF _ _).1 < _; omega⟩, ⟨by omega, by omega⟩, _, rfl, ?_⟩
        have cmp := low_lt (t := (bestTo ts ks i j).1.1) (t' := askT ts ks i j) ok.pos bb.1
        refine ite2 (fun e => ?_) (fun e => ?_)
        · have lt := cmp.mp (of_decide_eq_true e)
          have st : bestTo ts ks i (j + 1) = ((askT ts ks i j, askB ts i j), (i, j)) := by
            rw [bestTo_succ]
            exact if_pos lt
          refine ⟨_, rfl, _, rfl, _, rfl, _, rfl, a, b, ts, ks, i, j, by rw [ei, ej]; rfl, (T.same s2).same s4, hi', hj', fun p5 H5 np5 s5 e5 => ?_⟩
          refine ⟨_, rfl, _, rfl, lz (by show 2 ≤ 1000000; decide), fun p6 np6 => ⟨lz (by show 2 ≤ 1000000; decide), fun p7 np7 => ?_⟩⟩
          refine ⟨p7, _, rfl, (((s2.trans s4).trans s5).trans (sm np6)).trans (sm np7), p5, p6, upd_same, ?_, ?_⟩
          · rw [st]
            exact sm np7 _ _ (sm np6 _ _ e5)
          · rw [st, upd_ne (ne_of_none upd_same np7), upd_same, ei, ej]
            rfl
        · have st : bestTo ts ks i (j + 1) = bestTo ts ks i j := by
            rw [bestTo_succ]
            exact if_neg fun z => e (decide_eq_true (cmp.mpr z))
          refine ⟨p, _, rfl, s2.trans s4, ?_⟩
          rw [st]
          exact wa.same s4
      · rintro σ H2 ⟨p, y4, rfl, s2, wa⟩
        refine ⟨p, _, _, rfl, s2, ?_⟩
        rw [bestTo_row]
        have en : ((ts.map V.int).length : Int).toNat = ts.length := by omega
        rw [en] at wa
        exact wa
    · rintro σ H1 ⟨p, y3, y4, rfl, s1, wa⟩
      have en : ((ts.map V.int).length : Int).toNat = ts.length := by omega
      rw [en, bestTo_all] at wa
      exact ⟨_, rfl, q p H1 s1 wa⟩
end
end KT
namespace KT
open PySem PySem.Spec PyProof.Rows L2
section
variable {P : Program} {w : World} {K : PySem.W.Frag} {mg : Str → Option Value} {base : Heap}
theorem ok_law_some_width (S : Src K mg "_law_some_width" s_law_some_width) (m_int : mg "int" = none) (G_law_off : KDef P w K mg base CX0 1 "_law_off" ["_law_d", "_law_most"] spOff) (G_law_low : KDef P w K mg base CX0 1 "_law_low" ["_law_top", "_law_bottom"] spLow) :
    KDef P w K mg base CX0 2 "_law_some_width" ["_law_d"] spSomeW := by
  refine S.ok sc_law_some_width (fun _ _ _ _ _ _ us hl => match us, hl with | [_], _ => rfl) (fun vs H Q E h => ?_) (fun f cdv A outer s H vs Q E hr h => ?_)
  · obtain ⟨d, rfl, _⟩ := h
    rfl
  · obtain ⟨d, rfl, dd, q⟩ := h
    refine ⟨_, (pss_cons (ps_set (i := 1) sc_law_some_width.nd rfl (.inl rfl) (pe_op op_add pe_int (pe_callD G_law_off (hr.mono (by decide)) (by rfl) (pa_cons (pv 0) (pa_cons (pe_ix (ix_listK (K := K) rfl) (pe_lst (pa_cons pe_int (pa_cons pe_int pa_nil))) (pe_callTy call_int1 (by rfl) m_int (by decide +kernel) (pa_cons (pe_cmpR op_eq (pe_callD G_law_off (hr.mono (by decide)) (by rfl) (pa_cons (pv 0) (pa_cons pe_int pa_nil))) pe_int (nomark _)) pa_nil)) (fun _ _ => rfl)) pa_nil)))))
      (pss_cons (ps_set (i := 2) sc_law_some_width.nd rfl (.inl rfl) (pe_callD G_law_off (hr.mono (by decide)) (by rfl) (pa_cons (pv 0) (pa_cons (pe_ix (ix_listK (K := K) rfl) (pe_lst (pa_cons (pv 1) (pa_cons (pe_op op_add pe_int (pe_op op_fdiv (pv 1) pe_int)) pa_nil))) (pe_callD G_law_off (hr.mono (by decide)) (by rfl) (pa_cons (pv 0) (pa_cons pe_int pa_nil))) (fun _ _ => rfl)) pa_nil))))
      (pss_one (ps_ret (pe_callD G_law_low (hr.mono (by decide)) (by rfl) (pa_cons (pv 2) (pa_cons (pv 1) pa_nil))))))), ?_⟩
    refine ⟨_, rfl, lz (by show 2 ≤ 1000000; decide), fun l nl => ?_⟩
    refine ⟨_, rfl, d, _, rfl, dd.same (sm nl), by decide, by decide, fun r H1 r0 r1 d1 k1 => ?_⟩
    have n1 : l ≠ d := dd.ne nl
    obtain ⟨mm, em, m0, m1⟩ : ∃ mm : Int, atI [V.int 12, V.int 9999] (if decide (V.int r = V.int 0) = true then 1 else 0) = some (V.int mm) ∧ 0 < mm ∧ mm ≤ 9999 := by
      rw [pick2]
      cases decide (V.int r = V.int 0) with
      | false => exact ⟨12, rfl, by decide, by decide⟩
      | true => exact ⟨9999, rfl, by decide, by decide⟩
    refine ⟨rfl, .inr ⟨_, rfl, _, _, _, _, rfl, rfl, SqL.of (k1 _ _ n1 upd_same), em, ?_⟩⟩
    refine ⟨d, mm, rfl, d1, m0, by omega, fun u H2 u0 u1 d2 k2 => ?_⟩
    refine ⟨_, _, rfl, rfl, ?_⟩
    have b0 : 2 ≤ 2 + u := by omega
    have b1 : 2 + u ≤ 10001 := by omega
    refine ⟨_, rfl, _, rfl, _, rfl, _, _, rfl, rfl, ⟨by decide, by decide⟩, _, _, rfl, rfl, lz (by show 2 ≤ 1000000; decide), fun l2 nl2 => ?_⟩
    refine ⟨_, rfl, d, _, rfl, d2.same (sm nl2), by decide, by decide, fun r2 H3 r20 r21 d3 k3 => ?_⟩
    have n2 : l2 ≠ d := d2.ne nl2
    obtain ⟨mt, et, t0, t1⟩ : ∃ mt : Int, ([V.int (2 + u), V.int (1 + (2 + u) / 3)] : List V)[r2.toNat]? = some (V.int mt) ∧ 0 < mt ∧ mt ≤ 2 + u := by
      rcases (by omega : r2 = 0 ∨ r2 = 1) with rfl | rfl
      · exact ⟨_, rfl, by omega, by omega⟩
      · exact ⟨_, rfl, by omega, by omega⟩
    refine ⟨_, _, _, _, rfl, rfl, SqL.of (k3 _ _ n2 upd_same), aI r20 et, d, mt, rfl, d3, t0, by omega, fun tp H4 tp0 tp1 d4 k4 => ?_⟩
    refine ⟨_, rfl, _, rfl, tp, 2 + u, rfl, by omega, by omega, fun p H5 np s5 e5 => ?_⟩
    have kA : Kp d H H4 := ((((Kp.of (sm nl)).trans k1).trans k2).trans (Kp.of (sm nl2))).trans (k3.trans k4)
    exact q _ p H5 (wid_low tp0 (by omega) (by omega)) (by have := low_bot_le (t := tp) (b := 2 + u) (by omega); omega) (kA.new d4 np) e5 (d4.same s5) (kA.then s5)
end
end KT
namespace KT
open PySem PySem.Spec PyProof.Rows L2
section
variable {P : Program} {w : World} {K : PySem.W.Frag} {mg : Str → Option Value} {base : Heap}
/-- a pair of numbers -/
def PrIn (B C : Int) (H : Hp) (y : V) : Prop := ∃ (p : Addr) (u v : Int), y = .ref p ∧ H p = some (.tup [.int u, .int v]) ∧ 0 ≤ u ∧ u ≤ B ∧ 0 ≤ v ∧ v ≤ C
theorem PrIn.same {B C : Int} {H H' : Hp} {y : V} (h : PrIn B C H y) (s : Same H H') : PrIn B C H' y := by
  obtain ⟨p, u, v, e, t, r⟩ := h
  exact ⟨p, u, v, e, s _ _ t, r⟩
theorem PrIn.put {B C : Int} {H : Hp} {y : V} {Z : Addr} {zs zs' : List V} (h : PrIn B C H y) (e : H Z = some (.lst zs)) : PrIn B C (upd H Z (.lst zs')) y := by
  obtain ⟨p, u, v, e1, t, r⟩ := h
  refine ⟨p, u, v, e1, ?_, r⟩
  rw [upd_ne fun z => by rw [z, e] at t; cases t]
  exact t
theorem Rdg.snocB {b : Int} {ks : List Int} {k : Int} (h : Rdg b ks) (hk : k ∈ kinds (b + (ks.length : Int))) : Rdg b (ks ++ [k]) := fun i z e => by
  by_cases c : i < ks.length
  · rw [List.getElem?_append_left c] at e
    exact h i z e
  · have e5 : i = ks.length := by
      have := (List.getElem?_eq_some_iff.mp e).1
      rw [List.length_append] at this
      simp at this
      omega
    subst e5
    rw [List.getElem?_append_right (Nat.le_refl _), Nat.sub_self] at e
    cases e
    exact hk
theorem ok_law_allows (S : Src K mg "_law_allows" s_law_allows) (m_range : mg "range" = none) (m_len : mg "len" = none) (m_abs : mg "abs" = none) (m_min : mg "min" = none) (m_tuple : mg "tuple" = none) (G_law_kinds : KDef P w K mg base CX0 1 "_law_kinds" ["_law_at"] spKinds)
    (G_law_less : KDef P w K mg base CX0 1 "_law_less" ["_law_one", "_law_other"] (spLess K)) (G_law_width : KDef P w K mg base CX0 3 "_law_width" ["_law_times_here", "_law_reading_here"] (spWidthQ K)) : KDef P w K mg base CX0 4 "_law_allows" ["_law_begin", "_law_times_here", "_law_width_here"] (spAllows K) := by
  refine S.ok sc_law_allows (fun _ _ _ _ _ _ us hl => match us, hl with | [_, _, _], _ => rfl) (fun vs H Q E h => ?_) (fun f cdv A outer s H vs Q E hr h => ?_)
  · obtain ⟨b, a, p, ts, w, rfl, _⟩ := h
    rfl
  · obtain ⟨b, a, p, ts, w, rfl, hT, T, pos, hw, W, no, q⟩ := h
    refine ⟨_, (C8.pss_cut (ps_set (i := 3) sc_law_allows.nd rfl (.inl rfl) (pe_op op_cat (pe_lc (own := [("_law_time", 14)]) (g := gName 14) (tt := tYes) rfl sc_law_allows.nd (pi_listK (K := K) rfl (pv 1)) (blkOk_by (own := [("_law_time", 14)]) (N := ["_law_begin", "_law_times_here", "_law_width_here", "_law_marks", "_law_tries", "_law_one", "_law_other", "_law_top", "_law_known", "_law_unit", "_law_row", "_law_at", "_law_kinds_here", "_law_far", "_law_time", "_law_kind"]) (sc := defScope s_law_allows) (by decide +kernel)) (fun _ _ _ _ _ => (pg_name (i := 14) sc_law_allows.nd rfl (.inl rfl) (.inr rfl))) (fun _ _ _ _ _ => pts_nil) (fun _ _ _ _ _ => (pe_tup (pa_cons (pv 14) (pa_cons pe_int pa_nil))))) (pe_lc (own := [("_law_time", 14)]) (g := gName 14) (tt := tYes) rfl sc_law_allows.nd (pi_listK (K := K) rfl (pv 1)) (blkOk_by (own := [("_law_time", 14)]) (N := ["_law_begin", "_law_times_here", "_law_width_here", "_law_marks", "_law_tries", "_law_one", "_law_other", "_law_top", "_law_known", "_law_unit", "_law_row", "_law_at", "_law_kinds_here", "_law_far", "_law_time", "_law_kind"]) (sc := defScope s_law_allows) (by decide +kernel)) (fun _ _ _ _ _ => (pg_name (i := 14) sc_law_allows.nd rfl (.inl rfl) (.inr rfl))) (fun _ _ _ _ _ => pts_nil) (fun _ _ _ _ _ => (pe_tup (pa_cons (pv 14) (pa_cons pe_int pa_nil)))))))
      (pss_cons (ps_set (i := 4) sc_law_allows.nd rfl (.inl rfl) (pe_lst pa_nil))
      (C8.pss_cut (ps_for PassesOwn.never rfl (pi_listK (K := K) rfl (pv 3)) (pg_name (i := 5) sc_law_allows.nd rfl (.inl rfl))
      (C8.pss_cut (ps_set (i := 4) sc_law_allows.nd rfl (.inl rfl) (pe_op op_cat (pv 4) (pe_lst (pa_cons (pe_tup (pa_cons (pe_op op_mul (pe_ix (ix_tupK (K := K) rfl) (pv 5) pe_int (fun _ _ => rfl)) pe_int) (pa_cons (pe_ix (ix_tupK (K := K) rfl) (pv 5) pe_int (fun _ _ => rfl)) pa_nil))) (pa_cons (pe_tup (pa_cons (pe_ix (ix_tupK (K := K) rfl) (pv 5) pe_int (fun _ _ => rfl)) (pa_cons (pe_op op_mul (pe_ix (ix_tupK (K := K) rfl) (pv 5) pe_int (fun _ _ => rfl)) pe_int) pa_nil))) pa_nil)))))
      (pss_one (ps_for PassesOwn.never rfl (pi_listK (K := K) rfl (pv 3)) (pg_name (i := 6) sc_law_allows.nd rfl (.inl rfl))
      (pss_cons (ps_set (i := 7) sc_law_allows.nd rfl (.inl rfl) (pe_op op_add (pe_op op_mul (pe_ix (ix_tupK (K := K) rfl) (pv 5) pe_int (fun _ _ => rfl)) (pe_ix (ix_tupK (K := K) rfl) (pv 6) pe_int (fun _ _ => rfl))) (pe_op op_mul (pe_ix (ix_tupK (K := K) rfl) (pv 6) pe_int (fun _ _ => rfl)) (pe_ix (ix_tupK (K := K) rfl) (pv 5) pe_int (fun _ _ => rfl)))))
      (pss_one (ps_expr (pe_bm PySem.F.plainAttrs_list PySem.F.slot_list_append PySem.F.type_list_append mt_append (pv 4) (pa_cons (pe_tup (pa_cons (pv 7) (pa_cons (pe_op op_mul (pe_op op_mul pe_int (pe_ix (ix_tupK (K := K) rfl) (pv 5) pe_int (fun _ _ => rfl))) (pe_ix (ix_tupK (K := K) rfl) (pv 6) pe_int (fun _ _ => rfl))) pa_nil))) pa_nil)))))))))
      (pss_cons (ps_set (i := 8) sc_law_allows.nd rfl (.inl rfl) pe_dnewT)
      (C8.pss_cut (ps_for PassesOwn.never rfl (pi_listK (K := K) rfl (pv 4)) (pg_name (i := 9) sc_law_allows.nd rfl (.inr rfl))
      (pss_cons (ps_set (i := 10) sc_law_allows.nd rfl (.inl rfl) (pe_lst pa_nil))
      (pss_cons (ps_for PassesOwn.never rfl (pi_range1 rfl m_range (pa_cons (pe_callB (call_len_seqK (K := K) rfl) (by rfl) m_len (by decide +kernel) (pa_cons (pv 1) pa_nil)) pa_nil)) (pg_name (i := 11) sc_law_allows.nd rfl (.inr rfl))
      (pss_cons (ps_set (i := 12) sc_law_allows.nd rfl (.inl rfl) (pe_callD G_law_kinds (hr.mono (by decide)) (by rfl) (pa_cons (pe_op op_add (pv 0) (pv 11)) pa_nil)))
      (C8.pss_cut (ps_setLc (i := 13) (own := [("_law_kind", 15)]) (g := gName 15) (tt := tYes) rfl sc_law_allows.nd rfl rfl (sw_true rfl rfl rfl (by decide +kernel)) (pi_listK (K := K) rfl (pv 12)) (blkOk_by (own := [("_law_kind", 15)]) (N := ["_law_begin", "_law_times_here", "_law_width_here", "_law_marks", "_law_tries", "_law_one", "_law_other", "_law_top", "_law_known", "_law_unit", "_law_row", "_law_at", "_law_kinds_here", "_law_far", "_law_time", "_law_kind"]) (sc := defScope s_law_allows) (by decide +kernel)) (fun _ _ _ _ _ => (pg_name (i := 15) sc_law_allows.nd rfl (.inl rfl) (.inr rfl))) (fun _ _ _ _ _ => pts_nil) (fun _ _ _ _ _ => (pe_callB call_abs (by rfl) m_abs (by decide +kernel) (pa_cons (pe_op op_sub (pe_op op_mul (pe_ix (ix_listK (K := K) rfl) (pv 1) (pv 11) (fun _ _ => rfl)) (pe_ix (ix_tupK (K := K) rfl) (pv 9) pe_int (fun _ _ => rfl))) (pe_op op_mul (pv 15) (pe_ix (ix_tupK (K := K) rfl) (pv 9) pe_int (fun _ _ => rfl)))) pa_nil))))
      (pss_one (ps_expr (pe_bm PySem.F.plainAttrs_list PySem.F.slot_list_append PySem.F.type_list_append mt_append (pv 10) (pa_cons (pe_ix (ix_listK (K := K) rfl) (pv 12) (pe_bm PySem.F.plainAttrs_list PySem.F.slot_list_index PySem.F.type_list_index mt_index (pv 13) (pa_cons (pe_callB (cr_min rfl) (by rfl) m_min (by decide +kernel) (pa_cons (pv 13) pa_nil)) pa_nil)) (fun _ _ => rfl)) pa_nil)))))))
      (pss_one (ps_dput (hu1 hr) (pv 8) (pe_callTy (call_tuple_ofK (K := K) rfl) (by rfl) m_tuple (by decide +kernel) (pa_cons (pv 10) pa_nil)) pe_bl rfl)))))
      (pss_one (ps_ret (pe_cmpR (op_neDK hr.units (K := K) rfl) (pe_lock (pe_lc (own := [("_law_row", 10)]) (g := gName 10) rfl sc_law_allows.nd (pi_keys (pv 8)) (blkOk_by (own := [("_law_row", 10)]) (N := ["_law_begin", "_law_times_here", "_law_width_here", "_law_marks", "_law_tries", "_law_one", "_law_other", "_law_top", "_law_known", "_law_unit", "_law_row", "_law_at", "_law_kinds_here", "_law_far", "_law_time", "_law_kind"]) (sc := defScope s_law_allows) (by decide +kernel)) (fun _ _ _ _ _ => (pg_name (i := 10) sc_law_allows.nd rfl (.inl rfl) (.inr rfl))) (fun _ _ _ _ _ => (pts_one (pt_not (pt_val (pe_callD G_law_less (hr.mono (by decide)) (by rfl) (pa_cons (pv 2) (pa_cons (pe_ix (ix_tupK (K := K) rfl) (pe_callD G_law_width (hr.mono (by decide)) (by rfl) (pa_cons (pv 1) (pa_cons (pv 10) pa_nil))) pe_int (fun _ _ => rfl)) pa_nil))))))) (fun _ _ _ _ _ => (pv 10)))) (pe_lst pa_nil) (nomark _))))))))), ?_⟩
    have le := T.le
    have lT : (ts.map V.int).length = ts.length := List.length_map ..
    have w0 := W.lo
    have w1 := W.lt
    have w2 := W.le
    -- marks
    refine ⟨fun σ H1 => ∃ (M : Addr) (ms : List V), σ = [some (.int (b : Int)), some (.ref a), some (.ref p), some (.ref M), none, none, none, none, none, none, none, none, none, none, none, none] ∧ Same H H1 ∧ H1 M = some (.lst ms) ∧ ms.length ≤ 50 ∧ ∀ y ∈ ms, PrIn 9999 5 H1 y, ?_, ?_⟩
    · refine ⟨_, rfl, a, rfl, ⟨_, hT⟩, fun D nD => ?_⟩
      refine lc_h walk_list (fun i y H => PrIn 9999 5 H y) (fun i v H H' s h => h.same s) nD (by rw [lT]; omega) (fun H1 s1 => s1.seq hT) ?_ ?_
      · rintro i x H1 H1' acc k hi s1 eD lac pe ⟨rfl, hx⟩ fin
        obtain ⟨t, rfl, et⟩ := int_at hx
        have tb := T.all i t et
        refine ⟨rfl, _, rfl, lz (by show 2 ≤ 1000000; decide), fun q1 nq1 => fin _ _ (sm nq1) ⟨q1, t, 2, rfl, hid_new nq1 eD upd_same, by omega, by omega, by decide, by decide⟩⟩
      intro H1 xs s1 eD lx px
      refine ⟨_, rfl, a, rfl, ⟨_, s1.seq hT⟩, fun D2 nD2 => ?_⟩
      refine lc_h walk_list (fun i y H => PrIn 9999 5 H y) (fun i v H H' s h => h.same s) nD2 (by rw [lT]; omega) (fun H2 s2 => (s1.trans s2).seq hT) ?_ ?_
      · rintro i x H2 H2' acc k hi s2 eD2 lac pe ⟨rfl, hx⟩ fin
        obtain ⟨t, rfl, et⟩ := int_at hx
        have tb := T.all i t et
        refine ⟨rfl, _, rfl, lz (by show 2 ≤ 1000000; decide), fun q1 nq1 => fin _ _ (sm nq1) ⟨q1, t, 5, rfl, hid_new nq1 eD2 upd_same, by omega, by omega, by decide, by decide⟩⟩
      intro H2 ys s2 eD2 ly py
      refine ⟨D, D2, xs, ys, rfl, rfl, s2 _ _ eD, eD2, lz (by omega), fun M nM => ?_⟩
      have sM := sm (o := .lst (xs ++ ys)) nM
      refine ⟨M, xs ++ ys, rfl, (s1.trans s2).trans sM, upd_same, by rw [List.length_append]; omega, fun y hy => ?_⟩
      rcases List.mem_append.mp hy with hy | hy
      · obtain ⟨i, hi, ei⟩ := List.getElem_of_mem hy
        exact (((px i y (by rw [List.getElem?_eq_getElem hi, ei])).same hid_same).same s2).same sM
      · obtain ⟨i, hi, ei⟩ := List.getElem_of_mem hy
        exact ((py i y (by rw [List.getElem?_eq_getElem hi, ei])).same hid_same).same sM
    rintro σ H1 ⟨M, ms, rfl, s1, eM, lm, pm⟩
    refine ⟨lz (by show 0 ≤ 1000000; decide), fun T0 nT0 => ?_⟩
    have sT0 := sm (o := .lst []) nT0
    -- tries
    refine ⟨fun σ H2 => ∃ (Z : Addr) (zs : List V) (y5 y6 y7 : Option V), σ = [some (.int (b : Int)), some (.ref a), some (.ref p), some (.ref M), some (.ref Z), y5, y6, y7, none, none, none, none, none, none, none, none] ∧ Same H1 H2 ∧ H2 Z = some (.lst zs) ∧ zs.length ≤ 3000 ∧ ∀ y ∈ zs, PrIn 100000 50 H2 y, ?_, ?_⟩
    · refine ⟨_, rfl, M, rfl, ⟨_, SqL.of (sT0 _ _ eM)⟩, for_it walk_list (fun i σ H2 => ∃ (Z : Addr) (zs : List V) (y5 y6 y7 : Option V), σ = [some (.int (b : Int)), some (.ref a), some (.ref p), some (.ref M), some (.ref Z), y5, y6, y7, none, none, none, none, none, none, none, none] ∧ Same H1 H2 ∧ H1 Z = none ∧ H2 Z = some (.lst zs) ∧ zs.length ≤ i * 60 ∧ ∀ y ∈ zs, PrIn 100000 50 H2 y) ⟨T0, [], none, none, none, rfl, sT0, nT0, upd_same, Nat.le_refl _, fun y hy => absurd hy List.not_mem_nil⟩ (fun i σ H2 _ ⟨_, _, _, _, _, _, s2, _⟩ => SqL.of (s2 _ _ eM)) ?_ ?_⟩
      · rintro i x σ H2 H2' hi ⟨Z, zs, y5, y6, y7, rfl, s2, nZ, eZ, lZ, pz⟩ ⟨rfl, hx⟩
        obtain ⟨qa, u, v, rfl, eq, u0, u1, v0, v1⟩ := (pm x (List.mem_of_getElem? hx)).same s2
        refine ⟨fun σ H3 => ∃ (Z : Addr) (zs : List V), σ = [some (.int (b : Int)), some (.ref a), some (.ref p), some (.ref M), some (.ref Z), some (.ref qa), y6, y7, none, none, none, none, none, none, none, none] ∧ Same H1 H3 ∧ H1 Z = none ∧ H3 Z = some (.lst zs) ∧ zs.length ≤ i * 60 + 2 ∧ (∀ y ∈ zs, PrIn 100000 50 H3 y) ∧ H3 qa = some (.tup [.int u, .int v]), ?_, ?_⟩
        · refine ⟨_, rfl, _, rfl, _, _, _, _, rfl, rfl, SqT.of eq, aI (by decide) rfl, _, _, rfl, rfl, .inl ⟨by omega, by omega⟩, ?_⟩
          refine ⟨_, rfl, _, _, _, _, rfl, rfl, SqT.of eq, aI (by decide) rfl, lz (by show 2 ≤ 1000000; decide), fun t1 nt1 => ?_⟩
          have g1 := sm (o := .tup [.int (u * 2), .int v]) nt1
          refine ⟨_, rfl, _, _, _, _, rfl, rfl, SqT.of (g1 _ _ eq), aI (by decide) rfl, _, rfl, _, _, _, _, rfl, rfl, SqT.of (g1 _ _ eq), aI (by decide) rfl, _, _, rfl, rfl, .inl ⟨by omega, by omega⟩, lz (by show 2 ≤ 1000000; decide), fun t2 nt2 => ?_⟩
          have g2 := sm (o := .tup [.int u, .int (v * 2)]) nt2
          refine ⟨lz (by show 2 ≤ 1000000; decide), fun L nL => ?_⟩
          have g3 := sm (o := .lst [.ref t1, .ref t2]) nL
          have g123 := (g1.trans g2).trans g3
          refine ⟨Z, L, zs, [.ref t1, .ref t2], rfl, rfl, g123 _ _ eZ, upd_same, lz (by show zs.length + 2 ≤ _; omega), fun Z2 nZ2 => ?_⟩
          have g4 := sm (o := .lst (zs ++ [.ref t1, .ref t2])) nZ2
          have s4 := (s2.trans g123).trans g4
          have nZ3 := (s2.trans g123).free nZ2
          refine ⟨Z2, zs ++ [.ref t1, .ref t2], rfl, s4, nZ3, upd_same, by rw [List.length_append]; show zs.length + 2 ≤ _; omega, fun y hy => ?_, g4 _ _ (g123 _ _ eq)⟩
          rcases List.mem_append.mp hy with hy | hy
          · exact (pz y hy).same (g123.trans g4)
          · simp only [List.mem_cons, List.not_mem_nil, or_false] at hy
            rcases hy with rfl | rfl
            · exact ⟨t1, u * 2, v, rfl, g4 _ _ (g3 _ _ (g2 _ _ upd_same)), by omega, by omega, by omega, by omega⟩
            · exact ⟨t2, u, v * 2, rfl, g4 _ _ (g3 _ _ upd_same), by omega, by omega, by omega, by omega⟩
        rintro σ H3 ⟨Z, zs, rfl, s3, nZ, eZ, lZ, pz, eqa⟩
        refine ⟨_, rfl, M, rfl, ⟨_, SqL.of (s3 _ _ eM)⟩, for_it walk_list (fun j σ H4 => ∃ (zs : List V) (y6 y7 : Option V), σ = [some (.int (b : Int)), some (.ref a), some (.ref p), some (.ref M), some (.ref Z), some (.ref qa), y6, y7, none, none, none, none, none, none, none, none] ∧ Same H1 H4 ∧ H4 Z = some (.lst zs) ∧ zs.length ≤ i * 60 + 2 + j ∧ (∀ y ∈ zs, PrIn 100000 50 H4 y) ∧ H4 qa = some (.tup [.int u, .int v])) ⟨zs, y6, y7, rfl, s3, eZ, lZ, pz, eqa⟩ (fun i σ H2 _ ⟨_, _, _, _, s2, _⟩ => SqL.of (s2 _ _ eM)) ?_ ?_⟩
        · rintro j x2 σ H4 H4' hj ⟨zs, y6, y7, rfl, s4, eZ, lZ, pz, eqa⟩ ⟨rfl, hx2⟩
          obtain ⟨qb, u2, v2, rfl, eqb, c0, c1, c2, c3⟩ := (pm x2 (List.mem_of_getElem? hx2)).same s4
          have m1 : u * v2 ≤ 9999 * 5 := Int.mul_le_mul u1 c3 c2 (by decide)
          have m2 : u2 * v ≤ 9999 * 5 := Int.mul_le_mul c1 v1 v0 (by decide)
          have m3 : 0 ≤ u * v2 := Int.mul_nonneg u0 c2
          have m4 : 0 ≤ u2 * v := Int.mul_nonneg c0 v0
          have m5 : 2 * v * v2 ≤ 10 * 5 := Int.mul_le_mul (by omega) c3 c2 (by decide)
          have m6 : 0 ≤ 2 * v * v2 := Int.mul_nonneg (by omega) c2
          refine ⟨_, rfl, _, _, _, _, rfl, rfl, SqT.of eqa, aI (by decide) rfl, _, rfl, _, _, _, _, rfl, rfl, SqT.of eqb, aI (by decide) rfl, _, _, rfl, rfl, .inl ⟨by omega, by omega⟩, ?_⟩
          refine ⟨_, rfl, _, _, _, _, rfl, rfl, SqT.of eqb, aI (by decide) rfl, _, rfl, _, _, _, _, rfl, rfl, SqT.of eqa, aI (by decide) rfl, _, _, rfl, rfl, .inl ⟨by omega, by omega⟩, _, _, rfl, rfl, ?_⟩
          refine ⟨_, rfl, ty_list eZ, _, rfl, _, rfl, _, _, _, _, rfl, rfl, SqT.of eqa, aI (by decide) rfl, _, _, rfl, rfl, .inl ⟨by omega, by omega⟩, ?_⟩
          refine ⟨_, rfl, _, _, _, _, rfl, rfl, SqT.of eqb, aI (by decide) rfl, _, _, rfl, rfl, .inl ⟨by omega, by omega⟩, lz (by show 2 ≤ 1000000; decide), fun t nt => ?_⟩
          have g := sm (o := .tup [.int (u * v2 + u2 * v), .int (2 * v * v2)]) nt
          refine ⟨Z, _, _, rfl, rfl, g _ _ eZ, lz' (by omega), ?_⟩
          have nZt : qa ≠ Z := fun z => by rw [z, eZ] at eqa; cases eqa
          refine ⟨zs ++ [.ref t], _, _, rfl, same_put (s4.trans g) nZ, upd_same, by rw [List.length_append]; show zs.length + 1 ≤ _; omega, fun y hy => ?_, by rw [upd_ne nZt]; exact g _ _ eqa⟩
          rcases List.mem_append.mp hy with hy | hy
          · exact ((pz y hy).same g).put (g _ _ eZ)
          · rw [List.mem_singleton.mp hy]
            exact PrIn.put ⟨t, u * v2 + u2 * v, 2 * v * v2, rfl, upd_same, by omega, by omega, by omega, by omega⟩ (g _ _ eZ)
        · rintro σ H4 ⟨zs, y6, y7, rfl, s4, eZ, lZ, pz, eqa⟩
          exact ⟨Z, zs, _, y6, y7, rfl, s4, nZ, eZ, by omega, pz⟩
      · rintro σ H2 ⟨Z, zs, y5, y6, y7, rfl, s2, nZ, eZ, lZ, pz⟩
        exact ⟨Z, zs, y5, y6, y7, rfl, s2, eZ, by omega, pz⟩
    rintro σ H2 ⟨Z, zs, y5, y6, y7, rfl, s2, eZ, lZ, pz⟩
    have s12 := s1.trans s2
    have hT2 := s12.seq hT
    have hw2 := same_tup s12 hw
    clear s2 s1 eM pm
    intro Kd nKd
    have sK := sm (o := .dT []) nKd
    -- rows
    refine ⟨fun σ H3 => ∃ (kvs : List (List Key × V)) (y9 y10 y11 y12 y13 : Option V), σ = [some (.int (b : Int)), some (.ref a), some (.ref p), some (.ref M), some (.ref Z), y5, y6, y7, some (.ref Kd), y9, y10, y11, y12, y13, none, none] ∧ Same H2 H3 ∧ H3 Kd = some (.dT kvs) ∧ kvs.length ≤ 3000 ∧ ∀ k y, (k, y) ∈ kvs → ∃ ks : List Int, k = ks.map intK ∧ Rdg (b : Int) ks ∧ ks.length = ts.length, ?_, ?_⟩
    · refine ⟨_, rfl, Z, rfl, ⟨_, SqL.of (sK _ _ eZ)⟩, for_it walk_list (fun i σ H3 => ∃ (kvs : List (List Key × V)) (y9 y10 y11 y12 y13 : Option V), σ = [some (.int (b : Int)), some (.ref a), some (.ref p), some (.ref M), some (.ref Z), y5, y6, y7, some (.ref Kd), y9, y10, y11, y12, y13, none, none] ∧ Same H2 H3 ∧ H3 Kd = some (.dT kvs) ∧ kvs.length ≤ i ∧ ∀ k y, (k, y) ∈ kvs → ∃ ks : List Int, k = ks.map intK ∧ Rdg (b : Int) ks ∧ ks.length = ts.length) ⟨[], none, none, none, none, none, rfl, sK, upd_same, Nat.le_refl _, fun k y h => absurd h List.not_mem_nil⟩ (fun i σ H5 _ ⟨_, _, _, _, _, _, _, s5, _⟩ => SqL.of (s5 _ _ eZ)) ?_ ?_⟩
      · rintro i x σ Hx H3 hi ⟨kvs, y9, y10, y11, y12, y13, rfl, s3, eK, lK, pk⟩ ⟨rfl, hx⟩
        obtain ⟨qa, u, v, rfl, eq, u0, u1, v0, v1⟩ := (pz x (List.mem_of_getElem? hx)).same s3
        refine ⟨lz (by show 0 ≤ 1000000; decide), fun R nR => ?_⟩
        have sR := sm (o := .lst []) nR
        have hT3 := s3.seq hT2
        refine ⟨_, rfl, a, _, rfl, .inl (sR.seq hT3), _, rfl, by omega, by omega, for_range (lo := 0) (n := ((ts.map V.int).length : Int).toNat) (fun j σ H6 => ∃ y11 y12 y13 ls, σ = [some (.int (b : Int)), some (.ref a), some (.ref p), some (.ref M), some (.ref Z), y5, y6, y7, some (.ref Kd), some (.ref qa), some (.ref R), y11, y12, y13, none, none] ∧ Same H3 H6 ∧ H6 R = some (.lst (ls.map V.int)) ∧ ls.length = j ∧ Rdg (b : Int) ls) ⟨y11, y12, y13, [], rfl, sR, upd_same, rfl, fun i k e => by simp at e⟩ ?_ ?_⟩
        · rintro j σ H6 hj ⟨y11, y12, y13, ls, rfl, s6, eR, ll, rl⟩
          have hj' : j < ts.length := by omega
          have tb := T.all j _ (get_at hj')
          have hT6 := s6.seq hT3
          have ej : (0 : Int) + (j : Int) = (j : Int) := Int.zero_add _
          refine ⟨_, rfl, _, rfl, _, _, rfl, rfl, _, rfl, fun K1 H7 nK1 s7 eK1 => ?_⟩
          rw [ej] at eK1
          refine ⟨fun σ H8 => ∃ (F : Addr) (fs : List Int), σ = [some (.int (b : Int)), some (.ref a), some (.ref p), some (.ref M), some (.ref Z), y5, y6, y7, some (.ref Kd), some (.ref qa), some (.ref R), some (.int (0 + (j : Int))), some (.ref K1), some (.ref F), none, none] ∧ Same H7 H8 ∧ H8 F = some (.lst (fs.map V.int)) ∧ fs.length = (kinds ((b : Int) + (j : Int))).length, ?_, ?_⟩
          · refine ⟨_, rfl, K1, rfl, ⟨_, SqL.of eK1⟩, fun F nF => ?_⟩
            refine lc_s walk_list (fun _ y => ∃ z, y = V.int z ∧ True) nF (by rw [List.length_map]; have := kinds_len3 ((b : Int) + (j : Int)); omega) (fun H8 s8 => s8.seq (SqL.of eK1)) ?_ ?_
            · rintro c x H8 H8' acc k hc s8 e8 l8 ⟨rfl, hx⟩ fin
              obtain ⟨kk, rfl, ekk⟩ := int_at hx
              have kb := kinds_le (List.mem_of_getElem? ekk)
              have ep8 := s8 _ _ (s7 _ _ (s6 _ _ eq))
              refine ⟨rfl, _, rfl, _, rfl, _, _, _, _, rfl, rfl, s8.seq (s7.seq hT6), aI (by omega) (by rw [ej, Int.toNat_natCast]; exact at_int (get_at hj')), _, rfl, _, _, _, _, rfl, rfl, SqT.of ep8, aI (by decide) rfl, _, _, rfl, rfl, .inl ⟨by omega, by omega⟩, ?_⟩
              refine ⟨_, rfl, _, rfl, _, _, _, _, rfl, rfl, SqT.of ep8, aI (by decide) rfl, _, _, rfl, rfl, .inl ⟨by omega, by omega⟩, _, _, rfl, rfl, _, rfl, fin _ _ s8 e8 ⟨_, rfl, True.intro⟩⟩
            · intro H8 zs s8 e8 l8 p8
              obtain ⟨fs, rfl, lf, _⟩ := ints_of p8
              rw [List.length_map] at l8
              exact ⟨F, fs, rfl, s8, e8, by rw [l8, List.length_map]⟩
          rintro σ H8 ⟨F, fs, rfl, s8, eF, lf⟩
          have eR8 := s8 _ _ (s7 _ _ eR)
          have kp := kinds_pos ((b : Int) + (j : Int))
          refine ⟨_, rfl, ty_list eR8, _, rfl, _, rfl, ty_list eF, _, rfl, F, fs, rfl, SqL.of eF, by omega, fun m hm lm => ?_⟩
          obtain ⟨c, hc, ec, bc⟩ := idx_of hm
          refine ⟨F, _, _, c, _, rfl, rfl, SqL.of eF, rfl, flat_ints fs, ec, int_self m, bc, ?_⟩
          have ekc := get_at (l := kinds ((b : Int) + (j : Int))) (i := c) (by omega)
          refine ⟨_, _, _, _, rfl, rfl, SqL.of (s8 _ _ eK1), atI_nat (at_int ekc), R, _, _, rfl, rfl, eR8, lz' (by rw [List.length_map]; omega), ?_⟩
          refine ⟨_, _, _, ls ++ [at_ (kinds ((b : Int) + (j : Int))) c], rfl, same_put ((s6.trans s7).trans s8) nR, by rw [upd_same, List.map_append]; rfl, by rw [List.length_append, ll]; rfl, rl.snocB ?_⟩
          rw [ll]
          exact List.mem_of_getElem? ekc
        · rintro σ H6 ⟨y11, y12, y13, ls, rfl, s6, eR, ll, rl⟩
          rw [lT, Int.toNat_natCast] at ll
          refine ⟨_, rfl, _, rfl, R, _, rfl, .inl ⟨SqL.of eR, fun l nl => ?_⟩⟩
          have sl := sm (o := .tup (ls.map V.int)) nl
          refine ⟨Kd, _, rfl, DPut.t (k := ls.map intK) (sl _ _ (s6 _ _ eK)) (by rw [upd_same, intK_map]) (show kvs.length < sizeLine from lz' (by omega)), ?_⟩
          refine ⟨_, _, _, _, _, _, rfl, same_put ((s3.trans s6).trans sl) nKd, upd_same, by have := length_putK kvs (ls.map intK) (.bl true); omega, fun k y hk => ?_⟩
          rcases mem_put hk with e | ⟨y, hk⟩
          · exact ⟨ls, e, rl, ll⟩
          · exact pk k y hk
      · rintro σ H3 ⟨kvs, y9, y10, y11, y12, y13, rfl, s3, eK, lK, pk⟩
        exact ⟨kvs, y9, y10, y11, y12, y13, rfl, s3, eK, by omega, pk⟩
    rintro σ H3 ⟨kvs, y9, y10, y11, y12, y13, rfl, s3, eK, lK, pk⟩
    have hT3 := s3.seq hT2
    have hw3 := same_tup s3 hw2
    refine ⟨Kd, .dT kvs, eK, True.intro, fun od => ?_⟩
    have hTf : SqL K (upd H3 Kd (.frz od (.dT kvs))) a (ts.map V.int) := SqL.updT eK hT3
    have hwf : SqT K (upd H3 Kd (.frz od (.dT kvs))) p (frV w) := SqT.updT eK hw3
    refine ⟨_, rfl, Kd, od, rfl, .inr ⟨kvs, upd_same, fun D nD => ?_⟩⟩
    refine lc_it walk_keysT (fun i H4 => Same (upd H3 Kd (.frz od (.dT kvs))) H4 ∧ H4 D = some (.lst [])) ⟨sm nD, upd_same⟩ (fun i H4 _ ⟨s4, _⟩ => s4 _ _ upd_same) ?_ ?_
    · rintro i x H4 H4' hi ⟨s4, eD⟩ ⟨rfl, k, y, qq, hk, rfl, hq⟩
      obtain ⟨ks, rfl, rk, lk⟩ := pk k y (List.mem_of_getElem? hk)
      rw [intK_map] at hq
      refine ⟨rfl, _, rfl, _, rfl, _, rfl, a, qq, ts, ks, rfl, ⟨s4.seq hTf, .inr (SqT.of hq), T.tr rk lk⟩, pos, fun wp H5 s5 wa => ?_⟩
      obtain ⟨x1, y1, e1, e2, e3⟩ := wa.ex
      have TRk := T.tr rk lk
      have ok := width_ok TRk pos
      have o1 := ok.t0
      have o2 := ok.t1
      refine ⟨_, _, _, _, rfl, rfl, SqT.of e1, aI (by decide) rfl, p, x1, w, (widthOf ts ks).1, rfl, same_tup (s4.trans s5) hwf, SqT.of e2, ⟨by omega, by omega⟩, ⟨by omega, by omega⟩, ?_⟩
      have far : w.1 * (widthOf ts ks).1.2 < (widthOf ts ks).1.1 * w.2 := by
        refine Int.not_le.mp fun z => no ks ((allowed_iff T pos W).mpr ⟨rk, lk, z⟩)
      refine ⟨_, rfl, ?_⟩
      rw [decide_eq_true far]
      exact ⟨s4.trans s5, s5 _ _ eD⟩
    · rintro H4 ⟨s4, eD⟩
      have eD2 : (upd H4 Kd (.dT kvs)) D = some (.lst []) := by
        rw [upd_ne (ne_of_none upd_same nD).symm]
        exact eD
      refine ⟨s4 _ _ upd_same, lz (by show 0 ≤ 1000000; decide), fun N nN => ?_⟩
      have sN := sm (o := .lst []) nN
      refine ⟨.list [], .list [], .lst (SqL.of (sN _ _ eD2)) .nil, .lst (SqL.of upd_same) .nil, by simp [SeqAt.shaped, PyData.canLay0, PyData.canLayAll0, PyData.depth, PyData.depthAll], by simp [SeqAt.shaped, PyData.canLay0, PyData.canLayAll0, PyData.depth, PyData.depthAll], ?_⟩
      have : (!PyData.eqv (.list []) (.list [])) = false := by simp [PyData.eqv, PyData.eqvAll]
      rw [this]
      refine q _ ((s12.trans fun c o e => ?_).trans sN)
      have nc : c ≠ Kd := ne_of_none e nKd
      rw [upd_ne nc]
      refine s4 _ _ ?_
      rw [upd_ne nc]
      exact s3 _ _ e
end
end KT
namespace KT
open PySem PySem.Spec PyProof.Rows L2
section
variable {P : Program} {w : World} {K : PySem.W.Frag} {mg : Str → Option Value} {base : Heap}
theorem ok_check_times (S : Src K mg "check_times" scheck_times) (m_len : mg "len" = none) (m_enumerate : mg "enumerate" = none) (c_MOST_TIMES : ∃ t, mg "MOST_TIMES" = some (.int 25 t)) (c_SHORTEST : ∃ t, mg "SHORTEST" = some (.int 1 t)) (c_LONGEST : ∃ t, mg "LONGEST" = some (.int 9999 t)) :
    KDef P w K mg base CX0 1 "check_times" ["times"] (spCheckT K) := by
  refine S.ok sccheck_times (fun _ _ _ _ _ _ us hl => match us, hl with | [_], _ => rfl) (fun vs H Q E h => ?_) (fun f cdv A outer s H vs Q E hr h => ?_)
  · obtain ⟨a, ts, rfl, _⟩ := h
    rfl
  · obtain ⟨a, ts, rfl, hS, T, q⟩ := h
    refine ⟨_, (pss_cons (ps_set (i := 1) sccheck_times.nd rfl (.inl rfl) (pe_callB (call_len_seqK (K := K) rfl) (by rfl) m_len (by decide +kernel) (pa_cons (pv 0) pa_nil)))
      (pss_cons (ps_if (PW.pt (pw_or (pt_cmpR op_gt (pv 1) (pe_gI rfl c_MOST_TIMES) (nomark _)) (pw_or1 (pt_cmpR op_eq (pe_op op_mod (pv 1) pe_int) pe_int (nomark _)))))
      (pss_one ps_never)
      pss_nil)
      (pss_one (ps_for PassesOwn.never rfl (pi_enumK (K := K) rfl (by rfl) m_enumerate (pa_cons (pv 0) pa_nil)) (pg_tup rfl (pgs_cons (pg_name (i := 2) sccheck_times.nd rfl (.inl rfl)) (pgs_cons (pg_name (i := 3) sccheck_times.nd rfl (.inl rfl)) pgs_nil)))
      (pss_one (ps_if (pt_not (pt_chain op_le op_le (pe_gI rfl c_SHORTEST) (pv 3) (pe_gI rfl c_LONGEST)))
      (pss_one ps_never)
      pss_nil)))))), ?_⟩
    have le := T.le
    have odd := T.odd
    refine ⟨_, rfl, a, _, rfl, .inl hS, ?_⟩
    refine ⟨_, rfl, _, _, rfl, rfl, _, rfl, ite2 (fun e => ?_) (fun _ => ?_)⟩
    · have h1 := of_decide_eq_true e
      rw [List.length_map] at h1
      omega
    refine ⟨_, rfl, _, _, rfl, rfl, by show (0 : Int) < 2; decide, rfl, _, rfl, ite2 (fun e => ?_) (fun _ => ?_)⟩
    · have h1 := V.int.inj (of_decide_eq_true e)
      rw [List.length_map] at h1
      omega
    refine ⟨_, rfl, a, _, rfl, hS, for_it walk_enum (fun i σ H1 => ∃ y z : Option V, σ = [some (.ref a), some (.int ((ts.map V.int).length : Int)), y, z] ∧ Same H H1) ⟨none, none, rfl, Same.refl H⟩ (fun i σ H1 _ ⟨_, _, _, s1⟩ => s1.seq hS) ?_ ?_⟩
    · rintro i x σ H1 H1' hi ⟨y, z, rfl, s1⟩ ⟨Tp, x1, x2, rfl, nT, rfl, f1, f2⟩
      cases f1
      obtain ⟨t, rfl, et⟩ := int_at f2
      have b := T.all i t et
      refine ⟨_, _, rfl, .inl (.inl upd_same), rfl, _, _, rfl, _, _, rfl, rfl, ?_⟩
      refine ⟨_, rfl, _, _, rfl, rfl, _, rfl, ?_⟩
      rw [decide_eq_true b.1]
      refine iteT ⟨_, _, rfl, rfl, _, rfl, ?_⟩
      rw [decide_eq_true b.2]
      exact iteF ⟨_, _, rfl, s1.trans (sm nT)⟩
    · rintro σ H1 ⟨y, z, rfl, s1⟩
      exact q H1 s1
end
end KT
namespace KT
open PySem PySem.Spec PyProof.Rows L2
section
variable {P : Program} {w : World} {K : PySem.W.Frag} {mg : Str → Option Value} {base : Heap}
theorem ok_Taps_init {f C : Addr} {fd : FuncData} (F : FunD K "__init__" "Taps.__init__" (defArgs sTaps___init__) (defBody sTaps___init__) (defScope sTaps___init__) [] [] f fd) (cl : Cls K C) (nT : NoAttr K C "_times") (m_list : mg "list" = none)
    (Gcheck_times : KDef P w K mg base CX0 1 "check_times" ["times"] (spCheckT K)) : FnOk P w K mg base CX0 2 f fd ["self", "times"] (spTapsInit K C) := by
  refine F.ok scTaps___init__ (fun vs H Q E h => ?_) (fun cdv A outer s H vs Q E hr h => ?_)
  · obtain ⟨x, a, dx, ts, rfl, _⟩ := h
    rfl
  · obtain ⟨x, a, dx, ts, rfl, hx, hS, T, q⟩ := h
    refine ⟨_, PSs.nox (pss_cons (ps_expr (pe_callD Gcheck_times (hr.mono (by decide)) (by rfl) (pa_cons (pv 1) pa_nil)))
      (pss_one (ps_fldK (K := K) rfl (pv 0) (pe_callTy (call_list_ofK (K := K) rfl) (by rfl) m_list (by decide +kernel) (pa_cons (pv 1) pa_nil)) rfl))), ?_⟩
    refine ⟨_, rfl, a, ts, rfl, hS, T, fun H1 s1 => ?_⟩
    refine ⟨_, rfl, a, _, rfl, .inl (s1.seq hS), fun l nl => ?_⟩
    have nxl : x ≠ l := ne_of_none (s1 _ _ hx) nl
    refine ⟨_, rfl, x, C, dx, [], rfl, by rw [upd_ne nxl]; exact s1 _ _ hx, cl, nT, by show 0 < 1000; decide, ?_⟩
    refine q l _ (s1.free nl) (fun b o nb e => ?_) ⟨⟨dx, upd_same⟩, ?_⟩
    · rw [upd_ne nb, upd_ne (ne_of_none (s1 _ _ e) nl)]
      exact s1 _ _ e
    · rw [upd_ne nxl.symm, upd_same]
end
end KT
namespace KT
open PySem PySem.Spec PyProof.Rows L2
section
variable {P : Program} {w : World} {K : PySem.W.Frag} {mg : Str → Option Value} {base : Heap}
theorem ok_Taps_times {f C : Addr} {fd : FuncData} (F : FunD K "times" "Taps.times" (defArgs sTaps_times) (defBody sTaps_times) (defScope sTaps_times) [] [] f fd) (cl : Cls K C) (nT : NoAttr K C "_times") (m_list : mg "list" = none) :
    FnOk P w K mg base CX0 1 f fd ["self"] (spTapsTimes C) := by
  refine F.ok scTaps_times (fun vs H Q E h => ?_) (fun cdv A outer s H vs Q E hr h => ?_)
  · obtain ⟨x, l, ts, rfl, _⟩ := h
    rfl
  · obtain ⟨x, l, ts, rfl, ⟨⟨dx, e1⟩, e2⟩, le, q⟩ := h
    refine ⟨_, PSs.nox (pss_one (ps_ret (pe_callTy (call_list_ofK (K := K) rfl) (by rfl) m_list (by decide +kernel) (pa_cons (pe_fldK (K := K) rfl (pv 0) rfl) pa_nil)))), ?_⟩
    refine ⟨_, rfl, x, C, dx, _, _, rfl, e1, cl, nT, by unfold tapsF; rw [lookup_putF, if_pos rfl], l, _, rfl, .inl (SqL.of e2), fun p np => ?_⟩
    exact q p _ np (sm np) upd_same
end
end KT
namespace KT
open PySem PySem.Spec PyProof.Rows L2
section
variable {P : Program} {w : World} {K : PySem.W.Frag} {mg : Str → Option Value} {base : Heap}
theorem ok_check_width (S : Src K mg "check_width" scheck_width) (m_gcd : mg "gcd" = some (.builtin "math.gcd")) : KDef P w K mg base CX0 1 "check_width" ["width"] (spCheckW K) := by
  refine S.ok sccheck_width (fun _ _ _ _ _ _ us hl => match us, hl with | [_], _ => rfl) (fun vs H Q E h => ?_) (fun f cdv A outer s H vs Q E hr h => ?_)
  · obtain ⟨p, f, rfl, _⟩ := h
    rfl
  · obtain ⟨p, f, rfl, hp, W, q⟩ := h
    refine ⟨_, (pss_cons (ps_asg (pv 0) (pg_tup rfl (pgs_cons (pg_name (i := 1) sccheck_width.nd rfl (.inl rfl)) (pgs_cons (pg_name (i := 2) sccheck_width.nd rfl (.inl rfl)) pgs_nil))))
      (pss_one (ps_if (PW.pt (pw_or (pt_not (pt_chain op_le op_lt pe_int (pv 1) (pv 2))) (pw_or1 (pt_cmpR op_ne (pe_callBfun cr_gcd (by rfl) m_gcd (pa_cons (pv 1) (pa_cons (pv 2) pa_nil))) pe_int (nomark _)))))
      (pss_one ps_never)
      pss_nil))), ?_⟩
    refine ⟨_, rfl, p, _, rfl, hp, rfl, _, _, rfl, _, _, rfl, rfl, ?_⟩
    refine ⟨_, rfl, _, _, rfl, rfl, _, rfl, ?_⟩
    rw [decide_eq_true W.lo]
    refine iteT ⟨_, rfl, _, _, rfl, rfl, _, rfl, ?_⟩
    rw [decide_eq_true W.lt]
    refine iteF ⟨_, rfl, _, rfl, f.1, f.2, rfl, rfl, _, rfl, iteNS (congrArg (fun n : Nat => V.int (n : Int)) W.low) ?_⟩
    exact q H (Same.refl H)
end
end KT
namespace KT
open PySem PySem.Spec PyProof.Rows L2
section
variable {P : Program} {w : World} {K : PySem.W.Frag} {mg : Str → Option Value} {base : Heap}
theorem ok_lowest (S : Src K mg "lowest" slowest) (m_gcd : mg "gcd" = some (.builtin "math.gcd")) : KDef P w K mg base CX0 1 "lowest" ["ratio"] (spLowest K) := by
  refine S.ok sclowest (fun _ _ _ _ _ _ us hl => match us, hl with | [_], _ => rfl) (fun vs H Q E h => ?_) (fun f cdv A outer s H vs Q E hr h => ?_)
  · obtain ⟨p, f, rfl, _⟩ := h
    rfl
  · obtain ⟨p, f, rfl, hp, b0, b1, q⟩ := h
    refine ⟨_, (pss_cons (ps_asg (pv 0) (pg_tup rfl (pgs_cons (pg_name (i := 1) sclowest.nd rfl (.inl rfl)) (pgs_cons (pg_name (i := 2) sclowest.nd rfl (.inl rfl)) pgs_nil))))
      (pss_cons (ps_set (i := 3) sclowest.nd rfl (.inl rfl) (pe_callBfun cr_gcd (by rfl) m_gcd (pa_cons (pv 1) (pa_cons (pv 2) pa_nil))))
      (pss_one (ps_ret (pe_tup (pa_cons (pe_op op_fdiv (pv 1) (pv 3)) (pa_cons (pe_op op_fdiv (pv 2) (pv 3)) pa_nil))))))), ?_⟩
    have g0 := gI_pos (t := f.1) b0
    have g1 := gI_le (t := f.1) b0
    refine ⟨_, rfl, p, _, rfl, hp, rfl, _, _, rfl, _, _, rfl, rfl, ?_⟩
    refine ⟨_, rfl, _, rfl, f.1, f.2, rfl, ?_⟩
    refine ⟨_, rfl, _, rfl, _, _, rfl, rfl, ⟨g0, by show gI f.1 f.2 < _; omega⟩, _, rfl, _, rfl, _, _, rfl, rfl, ⟨g0, by show gI f.1 f.2 < _; omega⟩, lz (by show 2 ≤ 1000000; decide), fun r nr => ?_⟩
    exact q r _ nr (sm nr) upd_same
end
end KT
namespace KT
open PySem PySem.Spec PyProof.Rows L2
section
variable {P : Program} {w : World} {K : PySem.W.Frag} {mg : Str → Option Value} {base : Heap}
theorem ok_is_above (S : Src K mg "is_above" sis_above) : KDef P w K mg base CX0 1 "is_above" ["one", "other"] (spAbove K) := by
  refine S.ok scis_above (fun _ _ _ _ _ _ us hl => match us, hl with | [_, _], _ => rfl) (fun vs H Q E h => ?_) (fun f cdv A outer s H vs Q E hr h => ?_)
  · obtain ⟨p, r, f1, g1, rfl, _⟩ := h
    rfl
  · obtain ⟨p, r, f1, g1, rfl, hp, hq, b1, b2, q⟩ := h
    refine ⟨_, (pss_one (ps_ret (pe_cmpR op_gt (pe_op op_mul (pe_ix (ix_tupK (K := K) rfl) (pv 0) pe_int (fun _ _ => rfl)) (pe_ix (ix_tupK (K := K) rfl) (pv 1) pe_int (fun _ _ => rfl))) (pe_op op_mul (pe_ix (ix_tupK (K := K) rfl) (pv 1) pe_int (fun _ _ => rfl)) (pe_ix (ix_tupK (K := K) rfl) (pv 0) pe_int (fun _ _ => rfl))) (nomark _)))), ?_⟩
    refine ⟨_, rfl, _, _, _, _, rfl, rfl, hp, aI (by decide) rfl, _, rfl, _, _, _, _, rfl, rfl, hq, aI (by decide) rfl, _, _, rfl, rfl, .inl b1, ?_⟩
    refine ⟨_, rfl, _, _, _, _, rfl, rfl, hq, aI (by decide) rfl, _, rfl, _, _, _, _, rfl, rfl, hp, aI (by decide) rfl, _, _, rfl, rfl, .inl b2, _, _, rfl, rfl, q⟩
end
end KT
namespace KT
open PySem PySem.Spec PyProof.Rows L2
section
variable {P : Program} {w : World} {K : PySem.W.Frag} {mg : Str → Option Value} {base : Heap}
theorem ok_asked (S : Src K mg "asked" sasked) : KDef P w K mg base CX0 1 "asked" ["one", "other"] (spAsked K) := by
  refine S.ok scasked (fun _ _ _ _ _ _ us hl => match us, hl with | [_, _], _ => rfl) (fun vs H Q E h => ?_) (fun f cdv A outer s H vs Q E hr h => ?_)
  · obtain ⟨p, r, t, k, t', k', rfl, _⟩ := h
    rfl
  · obtain ⟨p, r, t, k, t', k', rfl, hp, hr2, b1, b2, q⟩ := h
    refine ⟨_, (pss_cons (ps_asg (pv 0) (pg_tup rfl (pgs_cons (pg_name (i := 2) scasked.nd rfl (.inl rfl)) (pgs_cons (pg_name (i := 3) scasked.nd rfl (.inl rfl)) pgs_nil))))
      (pss_cons (ps_asg (pv 1) (pg_tup rfl (pgs_cons (pg_name (i := 4) scasked.nd rfl (.inl rfl)) (pgs_cons (pg_name (i := 5) scasked.nd rfl (.inl rfl)) pgs_nil))))
      (pss_one (ps_ret (pe_tup (pa_cons (pe_op op_sub (pe_op op_mul (pv 2) (pv 5)) (pe_op op_mul (pv 4) (pv 3))) (pa_cons (pe_op op_add (pv 2) (pv 4)) pa_nil))))))), ?_⟩
    refine ⟨_, rfl, p, _, rfl, hp, rfl, _, _, rfl, _, _, rfl, rfl, _, rfl, r, _, rfl, hr2, rfl, _, _, rfl, _, _, rfl, rfl, ?_⟩
    refine ⟨_, rfl, _, rfl, _, _, rfl, rfl, .inl b1, _, rfl, _, rfl, _, _, rfl, rfl, .inl b2, _, _, rfl, rfl, _, rfl, _, rfl, _, _, rfl, rfl, lz (by show 2 ≤ 1000000; decide), fun l nl => ?_⟩
    exact q l _ nl (sm nl) upd_same
end
end KT
namespace KT
open PySem PySem.Spec PyProof.Rows L2
section
variable {P : Program} {w : World} {K : PySem.W.Frag} {mg : Str → Option Value} {base : Heap}
theorem ok_asked_by_pairs (S : Src K mg "asked_by_pairs" sasked_by_pairs) (m_list : mg "list" = none) (m_zip : mg "zip" = none) (m_enumerate : mg "enumerate" = none) (Gasked : KDef P w K mg base CX0 1 "asked" ["one", "other"] (spAsked K)) :
    KDef P w K mg base CX0 2 "asked_by_pairs" ["times", "reading"] (spPairs K) := by
  refine S.ok scasked_by_pairs (fun _ _ _ _ _ _ us hl => match us, hl with | [_, _], _ => rfl) (fun vs H Q E h => ?_) (fun f cdv A outer s H vs Q E hr h => ?_)
  · obtain ⟨a, b, ts, ks, rfl, _⟩ := h
    rfl
  · obtain ⟨a, b, ts, ks, rfl, T, q⟩ := h
    refine ⟨_, (pss_cons (ps_set (i := 2) scasked_by_pairs.nd rfl (.inr rfl) (pe_listZip (K := K) rfl rfl (by rfl) m_list (by rfl) m_zip (pa_cons (pv 0) (pa_cons (pv 1) pa_nil))))
      (pss_one (ps_ret (pe_lc2 (own := [("at", 3), ("one", 4), ("behind", 5), ("other", 6)]) (vs1 := [5, 6]) (g := gTup K 2 (gCons (gName 3) (gCons (gName 4) gNil))) (g1 := gTup K 2 (gCons (gName 5) (gCons (gName 6) gNil))) (tt := tYes) (tt1 := tYes) rfl scasked_by_pairs.nd (pi_enumK (K := K) rfl (by rfl) m_enumerate (pa_cons (pv 2) pa_nil)) (blkOk_by (own := [("at", 3), ("one", 4), ("behind", 5), ("other", 6)]) (N := ["times", "reading", "read", "at", "one", "behind", "other"]) (sc := defScope sasked_by_pairs) (by decide +kernel)) (by decide) (fun _ _ _ _ _ => (pg_tup rfl (pgs_cons (pg_name (i := 3) scasked_by_pairs.nd rfl (.inl rfl) (.inr rfl)) (pgs_cons (pg_name (i := 4) scasked_by_pairs.nd rfl (.inl rfl) (.inr rfl)) pgs_nil)))) (fun _ _ _ _ _ => pts_nil) (fun _ _ _ _ _ => (pi_enumK (K := K) rfl (by rfl) m_enumerate (pa_cons (pv 2) pa_nil))) (fun _ _ _ _ _ => (pg_tup rfl (pgs_cons (pg_name (i := 5) scasked_by_pairs.nd rfl (.inl rfl) (.inr rfl)) (pgs_cons (pg_name (i := 6) scasked_by_pairs.nd rfl (.inl rfl) (.inr rfl)) pgs_nil)))) (fun _ _ _ _ _ => pts_nil) (fun _ _ _ _ _ => (pe_tup (pa_cons (pe_tup (pa_cons (pv 3) (pa_cons (pv 5) pa_nil))) (pa_cons (pe_callD Gasked (hr.mono (by decide)) (by rfl) (pa_cons (pv 4) (pa_cons (pv 6) pa_nil))) pa_nil)))))))), ?_⟩
    have le := T.ok.le
    refine ⟨_, rfl, _, rfl, a, b, _, _, rfl, T.t, T.k, by rw [List.length_map, List.length_map, T.ok.len], fun p Ts H1 np s1 ep el et => ?_⟩
    rw [List.length_map] at el
    have tl : (Ts.map V.ref).length = ts.length := by rw [List.length_map]; exact el
    -- each time with its number
    have item : ∀ (i : Nat) (v : V), (Ts.map V.ref)[i]? = some v → ∃ T1 : Addr, v = .ref T1 ∧ H1 T1 = some (.tup [.int (at_ ts i), .int (at_ ks i)]) := fun i v e => by
      rw [List.getElem?_map] at e
      cases e2 : Ts[i]? with
      | none =>
        rw [e2] at e
        cases e
      | some T1 =>
        rw [e2] at e
        cases e
        obtain ⟨x, y, g1, g2, g3⟩ := et i T1 e2
        obtain ⟨t, rfl, ht⟩ := int_at g1
        obtain ⟨k, rfl, hk⟩ := int_at g2
        exact ⟨T1, rfl, by rw [at_get ht, at_get hk]; exact g3⟩
    refine ⟨_, rfl, p, _, rfl, SqL.of ep, fun D nD => ?_⟩
    refine lc_outY walk_enum (fun i H2 => ∃ acc, Same H1 H2 ∧ H2 D = some (.lst acc) ∧ PAt ts ks H2 acc (pre ts.length i 0)) ⟨[], sm nD, upd_same, rfl, fun i u e => by simp [pre] at e⟩ (fun i H2 _ ⟨_, s2, _⟩ => s2.seq (SqL.of ep)) ?_ ?_
    · rintro i x H2 H2' hi ⟨acc, s2, eD, pa⟩ ⟨Tp, x1, x2, rfl, nTp, rfl, f1, f2⟩
      cases f1
      have hi' : i < ts.length := by omega
      obtain ⟨T1, rfl, g1⟩ := item i x2 f2
      have nDT : D ≠ Tp := ne_of_none eD nTp
      refine ⟨Tp, _, rfl, .inl (.inl upd_same), rfl, _, _, rfl, _, _, rfl, rfl, rfl, ?_⟩
      refine ⟨_, rfl, p, _, rfl, (s2.trans (sm nTp)).seq (SqL.of ep), ?_⟩
      refine lc_inY walk_enum (fun j H3 => ∃ acc, Same H1 H3 ∧ H3 D = some (.lst acc) ∧ PAt ts ks H3 acc (pre ts.length i j)) ⟨acc, s2.trans (sm nTp), by rw [upd_ne nDT]; exact eD, pa.same fun b xs e => sm nTp _ _ e⟩ (fun j H3 _ ⟨_, s3, _⟩ => s3.seq (SqL.of ep)) ?_ ?_
      · clear pa eD s2 acc
        rintro j y H3 H3' hj ⟨acc, s3, eD, pa⟩ ⟨Tq, y1, y2, rfl, nTq, rfl, k1, k2⟩
        cases k1
        have hj' : j < ts.length := by omega
        obtain ⟨T2, rfl, g2⟩ := item j y2 k2
        refine ⟨Tq, _, rfl, .inl (.inl upd_same), rfl, _, _, rfl, _, _, rfl, rfl, rfl, ?_⟩
        refine ⟨_, rfl, _, rfl, lz (by show 2 ≤ 1000000; decide), fun qa nqa => ?_⟩
        have s4 : Same H3 (upd (upd H3 Tq (.tup [V.int (j : Nat), .ref T2])) qa (.tup [V.int (i : Nat), V.int (j : Nat)])) := (sm nTq).trans (sm nqa)
        have bt := T.ok.ti hi'
        have bt2 := T.ok.ti hj'
        refine ⟨_, rfl, _, rfl, T1, T2, _, _, _, _, rfl, SqT.of (s4 _ _ (s3 _ _ g1)), SqT.of (s4 _ _ (s3 _ _ g2)), ⟨by omega, by omega⟩, ⟨by omega, by omega⟩, fun ra H5 nra s5 era => ?_⟩
        refine ⟨lz (by show 2 ≤ 1000000; decide), fun tp ntp => ?_⟩
        have s6 := (s4.trans s5).trans (sm (o := .tup [.ref qa, .ref ra]) ntp)
        have lacc : acc.length ≤ 1000 := by
          rw [pa.1]
          exact pre_length_le (by omega) (by omega) le
        have ntd : ∀ {b : Addr} {o : HO}, H1 b = some o → b ≠ D := fun e => ne_of_none e nD
        refine ⟨acc, s6 _ _ eD, lz' (by omega), acc ++ [.ref tp], fun b o e => ?_, upd_same, ?_⟩
        · rw [upd_ne (ntd e)]
          exact s6 _ _ (s3 _ _ e)
        · rw [pre_succ]
          have keep : ∀ (b : Addr) (xs : List V), H3 b = some (.tup xs) → (upd (upd H5 tp (.tup [.ref qa, .ref ra])) D (.lst (acc ++ [.ref tp]))) b = some (.tup xs) := fun b xs e => by
            have nb : b ≠ D := fun z => by
              rw [z, eD] at e
              cases e
            rw [upd_ne nb]
            exact s6 _ _ e
          have n1 : tp ≠ D := fun z => by
            have z2 := (s4.trans s5) _ _ eD
            rw [← z, ntp] at z2
            cases z2
          have tupD : ∀ {b : Addr} {xs : List V} {H0 : Hp}, H0 b = some (.tup xs) → H0 D = some (.lst acc) → b ≠ D := fun e e2 z => by
            rw [z, e2] at e
            cases e
          refine (pa.same keep).snoc (p := (i, j)) (T := tp) (q := qa) (r := ra) (by rw [upd_ne n1, upd_same]) ?_ ?_
          · have eq5 := s5 _ _ (upd_same (H := upd H3 Tq (.tup [V.int (j : Nat), .ref T2])) (a := qa) (o := .tup [V.int (i : Nat), V.int (j : Nat)]))
            rw [upd_ne (tupD eq5 ((s4.trans s5) _ _ eD))]
            exact sm ntp _ _ eq5
          · rw [upd_ne (tupD era ((s4.trans s5) _ _ eD))]
            exact sm ntp _ _ era
      · rintro H3 ⟨acc, s3, eD, pa⟩
        rw [tl] at pa
        exact ⟨acc, s3, eD, by rw [pre_row]; exact pa⟩
    · rintro H2 ⟨acc, s2, eD, pa⟩
      rw [tl, pre_all] at pa
      exact q D acc H2 (s1.free nD) (s1.trans s2) eD pa
end
end KT
namespace KT
open PySem PySem.Spec PyProof.Rows L2
section
variable {P : Program} {w : World} {K : PySem.W.Frag} {mg : Str → Option Value} {base : Heap}
theorem ok_least_asked (S : Src K mg "least_asked" sleast_asked) (Gasked_by_pairs : KDef P w K mg base CX0 2 "asked_by_pairs" ["times", "reading"] (spPairs K)) (Gis_above : KDef P w K mg base CX0 1 "is_above" ["one", "other"] (spAbove K)) (Glowest : KDef P w K mg base CX0 1 "lowest" ["ratio"] (spLowest K)) :
    KDef P w K mg base CX0 3 "least_asked" ["times", "reading"] (spWidthL K) := by
  refine S.ok scleast_asked (fun _ _ _ _ _ _ us hl => match us, hl with | [_, _], _ => rfl) (fun vs H Q E h => ?_) (fun f cdv A outer s H vs Q E hr h => ?_)
  · obtain ⟨a, b, ts, ks, rfl, _⟩ := h
    rfl
  · obtain ⟨p, b, ts, ks, rfl, TR0, pos, q⟩ := h
    refine ⟨_, (pss_cons (ps_asg (pe_tup (pa_cons (pe_tup (pa_cons pe_int (pa_cons pe_int pa_nil))) (pa_cons (pe_tup (pa_cons pe_int (pa_cons pe_int pa_nil))) pa_nil))) (pg_tup rfl (pgs_cons (pg_name (i := 2) scleast_asked.nd rfl (.inl rfl)) (pgs_cons (pg_name (i := 3) scleast_asked.nd rfl (.inl rfl)) pgs_nil))))
      (pss_cons (ps_for PassesOwn.never rfl (pi_listK (K := K) rfl (pe_callD Gasked_by_pairs (hr.mono (by decide)) (by rfl) (pa_cons (pv 0) (pa_cons (pv 1) pa_nil)))) (pg_tup rfl (pgs_cons (pg_name (i := 4) scleast_asked.nd rfl (.inl rfl)) (pgs_cons (pg_name (i := 5) scleast_asked.nd rfl (.inl rfl)) pgs_nil)))
      (pss_one (ps_if (pt_val (pe_callD Gis_above (hr.mono (by decide)) (by rfl) (pa_cons (pv 5) (pa_cons (pv 2) pa_nil))))
      (pss_one (ps_par (i := 2) (j := 3) (by rfl) scleast_asked.nd rfl rfl (by decide) rfl rfl (pa_cons (pv 5) (pa_cons (pv 4) pa_nil)) (by rfl)))
      pss_nil)))
      (pss_one (ps_ret (pe_tup (pa_cons (pe_callD Glowest (hr.mono (by decide)) (by rfl) (pa_cons (pv 2) pa_nil)) (pa_cons (pv 3) pa_nil))))))), ?_⟩
    have tr := TR0.ok
    have le := tr.le
    refine ⟨lz (by show 2 ≤ 1000000; decide), fun w0 nw0 => ⟨lz (by show 2 ≤ 1000000; decide), fun a0 na0 => ⟨lz (by show 2 ≤ 1000000; decide), fun t0 nt0 => ⟨t0, _, rfl, SqT.of upd_same, rfl, _, _, rfl, _, _, rfl, rfl, ?_⟩⟩⟩⟩
    have s3 : Same H (upd (upd (upd H w0 (.tup [V.int 0, V.int 1])) a0 (.tup [V.int 0, V.int 0])) t0 (.tup [V.ref w0, V.ref a0])) := ((sm nw0).trans (sm na0)).trans (sm nt0)
    refine ⟨_, rfl, _, rfl, p, b, ts, ks, rfl, TR0.same s3, fun L xs H4 nL s4 eL pa => ?_⟩
    have sAll : Same H H4 := s3.trans s4
    refine ⟨L, rfl, ⟨_, SqL.of eL⟩, for_list (K := K) (a := L) (xs := xs) (fun i σ H5 => ∃ (wp ap : Addr) (y5 y6 : Option V), σ = [some (.ref p), some (.ref b), some (.ref wp), some (.ref ap), y5, y6] ∧ Same H4 H5 ∧
      H5 wp = some (.tup (frV (((pairs ts.length).take i).foldl (stepB ts ks) ((0, 1), (0, 0))).1)) ∧ H5 ap = some (.tup (prV (((pairs ts.length).take i).foldl (stepB ts ks) ((0, 1), (0, 0))).2))) ?_ (fun i σ H5 _ ⟨_, _, _, _, _, s5, _⟩ => s5.seq (SqL.of eL)) ?_ ?_⟩
    · refine ⟨w0, a0, none, none, rfl, Same.refl _, s4 _ _ (sm nt0 _ _ (sm na0 _ _ upd_same)), s4 _ _ (sm nt0 _ _ upd_same)⟩
    · rintro i y σ H5 hi ⟨wp, ap, y5, y6, rfl, s5, ew, ea⟩
      have hil : i < (pairs ts.length).length := by
        rw [← pa.1]
        exact (List.getElem?_eq_some_iff.mp hi).1
      have ep2 : (pairs ts.length)[i]? = some ((pairs ts.length)[i]) := List.getElem?_eq_getElem hil
      obtain ⟨T, q1, r1, g1, g2, g3, g4⟩ := pa.2 i _ ep2
      rw [hi] at g1
      cases g1
      have hm := mem_pairs.mp (List.getElem_mem hil)
      have ok : BestOk ts ks (((pairs ts.length).take i).foldl (stepB ts ks) ((0, 1), (0, 0))) := BestOk.fold tr _ _ (fun p hp => mem_pairs.mp (List.mem_of_mem_take hp)) (BestOk.start pos)
      have st : ((pairs ts.length).take (i + 1)).foldl (stepB ts ks) ((0, 1), (0, 0)) = stepB ts ks (((pairs ts.length).take i).foldl (stepB ts ks) ((0, 1), (0, 0))) ((pairs ts.length)[i]) := by
        rw [List.take_add_one, ep2, List.foldl_append]
        rfl
      rw [st]
      have bb := tr.bot hm.1 hm.2
      have bt := tr.top hm.1 hm.2
      have o1 := ok.t0
      have o2 := ok.t1
      refine ⟨T, _, rfl, SqT.of (s5 _ _ g2), rfl, _, _, rfl, _, _, rfl, rfl, ?_⟩
      refine ⟨_, rfl, _, rfl, r1, wp, _, _, rfl, SqT.of (s5 _ _ g4), SqT.of ew, ⟨by show _ < askT _ _ _ _; omega, by show askT _ _ _ _ < _; omega⟩, ⟨by omega, by omega⟩, _, rfl, ite2 (fun e => ?_) (fun e => ?_)⟩
      · have lt := of_decide_eq_true e
        refine ⟨_, rfl, _, rfl, _, _, rfl, r1, q1, _, _, rfl, s5, ?_, ?_⟩
        · rw [stepB_pos lt]
          exact s5 _ _ g4
        · rw [stepB_pos lt]
          exact s5 _ _ g3
      · have nlt := fun z => e (decide_eq_true z)
        refine ⟨wp, ap, _, _, rfl, s5, ?_, ?_⟩
        · rw [stepB_neg nlt]
          exact ew
        · rw [stepB_neg nlt]
          exact ea
    · rintro σ H5 ⟨wp, ap, y5, y6, rfl, s5, ew, ea⟩
      rw [pa.1, List.take_length] at ew ea
      have ok := best_ok tr pos
      refine ⟨_, rfl, wp, _, rfl, SqT.of ew, ok.pos, by have := ok.b; show (bestOf ts ks).1.2 < _; omega, fun lp H6 nlp s6 elp => ?_⟩
      refine ⟨_, rfl, lz (by show 2 ≤ 1000000; decide), fun tp ntp => ?_⟩
      exact q tp _ (((sAll.trans s5).trans s6).trans (sm ntp)) ⟨lp, ap, upd_same, sm ntp _ _ elp, sm ntp _ _ (s6 _ _ ea)⟩
end
end KT
namespace KT
open PySem PySem.Spec PyProof.Rows L2
section
variable {P : Program} {w : World} {K : PySem.W.Frag} {mg : Str → Option Value} {base : Heap}
theorem ok_parts_between (S : Src K mg "parts_between" sparts_between) (m_range : mg "range" = none) {n0 n1 n2 : Addr} (c_NUMBERS : mg "NUMBERS" = some (.ref n0)) (N0 : ∀ H, SqT K H n0 [.ref n1, .ref n2])
    (N1 : ∀ H, SqT K H n1 [.int 1, .int 3]) (N2 : ∀ H, SqT K H n2 [.int 1, .int 3, .int 7]) : KDef P w K mg base CX0 1 "parts_between" ["times", "begin", "end"] (spParts K) := by
  refine S.ok scparts_between (fun _ _ _ _ _ _ us hl => match us, hl with | [_, _, _], _ => rfl) (fun vs H Q E h => ?_) (fun f cdv A outer s H vs Q E hr h => ?_)
  · obtain ⟨a, ts, b, e, rfl, _⟩ := h
    rfl
  · obtain ⟨a, ts, b, e, rfl, hT, hbe, hel, le, q⟩ := h
    refine ⟨_, (pss_one (ps_ret (pe_lc (own := [("at", 3)]) (g := gName 3) (tt := tYes) rfl scparts_between.nd (pi_range2 rfl m_range (pa_cons (pv 1) (pa_cons (pv 2) pa_nil))) (blkOk_by (own := [("at", 3)]) (N := ["times", "begin", "end", "at"]) (sc := defScope sparts_between) (by decide +kernel)) (fun _ _ _ _ _ => (pg_name (i := 3) scparts_between.nd rfl (.inl rfl) (.inr rfl))) (fun _ _ _ _ _ => pts_nil) (fun _ _ _ _ _ => (pe_tup (pa_cons (pe_ix (ix_listK (K := K) rfl) (pv 0) (pv 3) (fun _ _ => rfl)) (pa_cons (pe_ix (ix_tupK (K := K) rfl) (pe_gR rfl c_NUMBERS) (pe_op op_mod (pv 3) pe_int) (fun _ _ => rfl)) pa_nil))))))), ?_⟩
    refine ⟨_, rfl, _, rfl, _, _, rfl, ⟨by omega, by omega, by omega, by omega⟩, fun D nD => ?_⟩
    have en : ((e : Int) - (b : Int)).toNat = e - b := by omega
    refine lc_h walk_range (fun i v H => PartAt K H v (at_ ts (b + i)) ((b : Int) + (i : Int))) (fun i v H H' s h => h.same s) nD (by omega) (fun _ _ => trivial) ?_ ?_
    · rintro i x H2 H2' acc k hi s2 eD la pe ⟨rfl, rfl⟩ fin
      have hi' : b + i < ts.length := by omega
      refine ⟨rfl, _, rfl, _, rfl, _, _, _, _, rfl, rfl, s2.seq hT, aI (by omega) (by rw [show ((b : Int) + (i : Int)).toNat = b + i from by omega]; exact at_int (get_at hi')), ?_⟩
      refine ⟨_, rfl, _, _, rfl, rfl, by show (0 : Int) < 2; decide, ?_⟩
      rcases par ((b : Int) + (i : Int)) with e1 | e1
      · refine ⟨_, _, _, .ref n1, rfl, rfl, N0 _, by rw [e1]; exact aI (by decide) rfl, lz (by show 2 ≤ 1000000; decide), fun p np => ?_⟩
        exact fin _ _ (sm np) ⟨p, n1, rfl, hid_new np eD upd_same, by rw [kinds_even e1]; exact N1 _⟩
      · refine ⟨_, _, _, .ref n2, rfl, rfl, N0 _, by rw [e1]; exact aI (by decide) rfl, lz (by show 2 ≤ 1000000; decide), fun p np => ?_⟩
        exact fin _ _ (sm np) ⟨p, n2, rfl, hid_new np eD upd_same, by rw [kinds_odd e1]; exact N2 _⟩
    · intro H2 xs s2 eD lx pe
      rw [en] at lx
      refine q D xs H2 nD s2 eD ⟨by rw [lx, slice_len hel hbe], fun i v hv => ?_⟩
      have hi : i < e - b := by
        rw [← lx]
        exact (List.getElem?_eq_some_iff.mp hv).1
      rw [slice_at hi]
      exact (pe i v hv).same hid_same
end
end KT
namespace KT
open PySem PySem.Spec PyProof.Rows L2
section
variable {P : Program} {w : World} {K : PySem.W.Frag} {mg : Str → Option Value} {base : Heap}
theorem ok_number_by (S : Src K mg "number_by" snumber_by) : KDef P w K mg base CX0 1 "number_by" ["part", "unit", "width"] (spNumber K) := by
  refine S.ok scnumber_by (fun _ _ _ _ _ _ us hl => match us, hl with | [_, _, _], _ => rfl) (fun vs H Q E h => ?_) (fun f cdv A outer s H vs Q E hr h => ?_)
  · obtain ⟨v, u, p, t, n, uu, w, rfl, _⟩ := h
    rfl
  · obtain ⟨v, u, p, t, n, uu, w, rfl, ⟨T, nq, rfl, hT, hN⟩, hu, hw, W, t1, t2, ⟨a0, a1, b0, b1⟩, q1, q2⟩ := h
    refine ⟨_, (pss_cons (ps_asg (pv 0) (pg_tup rfl (pgs_cons (pg_name (i := 3) scnumber_by.nd rfl (.inl rfl)) (pgs_cons (pg_name (i := 4) scnumber_by.nd rfl (.inl rfl)) pgs_nil))))
      (pss_cons (ps_asg (pv 1) (pg_tup rfl (pgs_cons (pg_name (i := 5) scnumber_by.nd rfl (.inl rfl)) (pgs_cons (pg_name (i := 6) scnumber_by.nd rfl (.inl rfl)) pgs_nil))))
      (pss_cons (ps_asg (pv 2) (pg_tup rfl (pgs_cons (pg_name (i := 7) scnumber_by.nd rfl (.inl rfl)) (pgs_cons (pg_name (i := 8) scnumber_by.nd rfl (.inl rfl)) pgs_nil))))
      (pss_cons (ps_for PassesOwn.never rfl (pi_tupK (K := K) rfl (pv 4)) (pg_name (i := 9) scnumber_by.nd rfl (.inl rfl))
      (pss_one (ps_if (pt_chain op_le op_le (pe_op op_mul (pe_op op_sub (pe_op op_mul (pv 9) (pv 8)) (pv 7)) (pv 5)) (pe_op op_mul (pe_op op_mul (pv 3) (pv 8)) (pv 6)) (pe_op op_mul (pe_op op_add (pe_op op_mul (pv 9) (pv 8)) (pv 7)) (pv 5)))
      (pss_one (ps_ret (pv 9)))
      pss_nil)))
      (pss_one (ps_ret pe_non)))))), ?_⟩
    have w0 := W.lo
    have w1 := W.lt
    have w2 := W.le
    refine ⟨_, rfl, T, _, rfl, SqT.of hT, rfl, _, _, rfl, _, _, rfl, rfl, ?_⟩
    refine ⟨_, rfl, u, _, rfl, hu, rfl, _, _, rfl, _, _, rfl, rfl, ?_⟩
    refine ⟨_, rfl, p, _, rfl, hw, rfl, _, _, rfl, _, _, rfl, rfl, ?_⟩
    refine ⟨_, rfl, nq, rfl, ⟨_, hN⟩, for_tup (K := K) (a := nq) (xs := (kinds n).map V.int) (fun i σ H1 => ∃ y : Option V, σ = [some (.ref T), some (.ref u), some (.ref p), some (.int t), some (.ref nq), some (.int uu.1), some (.int uu.2), some (.int w.1), some (.int w.2), y] ∧ H1 = H ∧
      ∀ (j : Nat) (k : Int), j < i → (kinds n)[j]? = some k → ¬ fitsU t k uu w) ?_ (fun i σ H1 _ ⟨_, _, e, _⟩ => e ▸ hN) ?_ ?_⟩
    · exact ⟨none, rfl, rfl, fun j k hj => absurd hj (Nat.not_lt_zero j)⟩
    · rintro i x σ H1 hi ⟨y, rfl, rfl, no⟩
      obtain ⟨k, rfl, ek⟩ := int_at hi
      have hk := List.mem_of_getElem? ek
      have kk := kinds_le hk
      have k1 : 0 < k * w.2 - w.1 ∧ k * w.2 - w.1 ≤ 140000000 := by rcases kk with e | e | e <;> rw [e] <;> omega
      have k2 : 0 < k * w.2 + w.1 ∧ k * w.2 + w.1 ≤ 160000000 := by rcases kk with e | e | e <;> rw [e] <;> omega
      have t3 : 0 ≤ t * w.2 ∧ t * w.2 ≤ 199980000000 := by
        have h1 : t * w.2 ≤ 9999 * w.2 := Int.mul_le_mul_of_nonneg_right t2 (by omega)
        exact ⟨Int.mul_nonneg (by omega) (by omega), by omega⟩
      refine ⟨_, rfl, _, rfl, _, _, rfl, rfl, .inl ⟨by omega, by omega⟩, _, rfl, _, _, rfl, rfl, _, rfl, _, _, rfl, rfl, .inl ⟨by omega, by omega⟩, ?_⟩
      refine ⟨_, rfl, _, rfl, _, _, rfl, rfl, .inl ⟨by omega, by omega⟩, _, rfl, _, _, rfl, rfl, .inl ⟨by omega, by omega⟩, _, _, rfl, rfl, _, rfl, ite2 (fun e => ?_) (fun e => ?_)⟩
      · refine ⟨_, rfl, _, rfl, _, _, rfl, rfl, .inl ⟨by omega, by omega⟩, _, rfl, _, _, rfl, rfl, _, rfl, _, _, rfl, rfl, .inl ⟨by omega, by omega⟩, _, _, rfl, rfl, _, rfl, ite2 (fun e' => ?_) (fun e' => ?_)⟩
        · exact ⟨_, rfl, q1 k hk ⟨of_decide_eq_true e, of_decide_eq_true e'⟩ _ (Same.refl _)⟩
        · refine ⟨_, rfl, rfl, fun j l hj hl => ?_⟩
          rcases Nat.lt_succ_iff_lt_or_eq.mp hj with h | rfl
          · exact no j l h hl
          · rw [ek] at hl
            cases hl
            exact fun z => e' (decide_eq_true z.2)
      · refine ⟨_, rfl, iteF ⟨_, rfl, rfl, fun j l hj hl => ?_⟩⟩
        rcases Nat.lt_succ_iff_lt_or_eq.mp hj with h | rfl
        · exact no j l h hl
        · rw [ek] at hl
          cases hl
          exact fun z => e (decide_eq_true z.1)
    · rintro σ H1 ⟨y, rfl, rfl, no⟩
      refine q2 (fun k hk => ?_) _ (Same.refl _)
      obtain ⟨j, hj, ej⟩ := List.getElem_of_mem hk
      exact no j k (by rw [List.length_map]; exact hj) (by rw [List.getElem?_eq_getElem hj, ej])
end
end KT
namespace KT
open PySem PySem.Spec PyProof.Rows L2
section
variable {P : Program} {w : World} {K : PySem.W.Frag} {mg : Str → Option Value} {base : Heap}
theorem ok_reading_by (S : Src K mg "reading_by" sreading_by) (Gnumber_by : KDef P w K mg base CX0 1 "number_by" ["part", "unit", "width"] (spNumber K)) : KDef P w K mg base CX0 2 "reading_by" ["parts", "unit", "width"] (spReadBy K) := by
  refine S.ok screading_by (fun _ _ _ _ _ _ us hl => match us, hl with | [_, _, _], _ => rfl) (fun vs H Q E h => ?_) (fun f cdv A outer s H vs Q E hr h => ?_)
  · obtain ⟨a, u, p, xs, b, ts, uu, w, rfl, _⟩ := h
    rfl
  · obtain ⟨a, u, p, xs, b, ts, uu, w, rfl, hX, PA, T, hu, hw, W, UB, q1, q2⟩ := h
    refine ⟨_, (pss_cons (ps_setLc (i := 3) (own := [("part", 4)]) (g := gName 4) (tt := tYes) rfl screading_by.nd rfl rfl (sw_true rfl rfl rfl (by decide +kernel)) (pi_listK (K := K) rfl (pv 0)) (blkOk_by (own := [("part", 4)]) (N := ["parts", "unit", "width", "reading", "part"]) (sc := defScope sreading_by) (by decide +kernel)) (fun _ _ _ _ _ => (pg_name (i := 4) screading_by.nd rfl (.inl rfl) (.inr rfl))) (fun _ _ _ _ _ => pts_nil) (fun _ _ _ _ _ => (pe_callD Gnumber_by (hr.mono (by decide)) (by rfl) (pa_cons (pv 4) (pa_cons (pv 1) (pa_cons (pv 2) pa_nil))))))
      (pss_cons (ps_if (pt_cmpR (op_in_seqK (K := K) rfl) pe_non (pv 3) (by rfl))
      (pss_one (ps_ret pe_non))
      pss_nil)
      (pss_one (ps_ret (pv 3))))), ?_⟩
    have le := T.le
    have lx := PA.1
    refine ⟨_, rfl, a, rfl, ⟨_, hX⟩, fun D nD => ?_⟩
    refine lc_h walk_list (fun i v H => (∃ k ∈ kinds ((b : Int) + (i : Int)), v = .int k ∧ fitsU (at_ ts i) k uu w) ∨ (v = .non ∧ ∀ k ∈ kinds ((b : Int) + (i : Int)), ¬ fitsU (at_ ts i) k uu w)) (fun i v H H' s h => h) nD (by omega) (fun H1 s1 => s1.seq hX) ?_ ?_
    · rintro i x H2 H2' acc k hi s2 eD la pe ⟨rfl, hx⟩ fin
      have tb := T.all i _ (get_at (by omega))
      refine ⟨rfl, _, rfl, _, rfl, _, rfl, x, u, p, _, _, uu, w, rfl, (PA.2 i x hx).same s2, same_tup s2 hu, same_tup s2 hw, W, tb.1, tb.2, UB, fun l hl fl H3 s3 => ?_, fun no H3 s3 => ?_⟩
      · exact fin _ _ s3 (.inl ⟨l, hl, rfl, fl⟩)
      · exact fin _ _ s3 (.inr ⟨rfl, no⟩)
    · intro H2 ys s2 eD ly pe
      rw [lx] at ly
      have flat : ys.all flatV = true := by
        rw [List.all_eq_true]
        intro y hy
        obtain ⟨i, hi, ei⟩ := List.getElem_of_mem hy
        rcases pe i y (by rw [List.getElem?_eq_getElem hi, ei]) with ⟨k, _, rfl, _⟩ | ⟨rfl, _⟩ <;> rfl
      by_cases hn : V.non ∈ ys
      · refine ⟨_, rfl, D, ys, rfl, .inl (SqL.of eD), rfl, flat, _, rfl, iteP (inN_mem hn) ?_⟩
        obtain ⟨i, hi, ei⟩ := List.getElem_of_mem hn
        have ei' : ys[i]? = some V.non := by rw [List.getElem?_eq_getElem hi, ei]
        refine q2 (fun ks F => ?_) _ s2
        rcases pe i _ ei' with ⟨k, _, z, _⟩ | ⟨_, no⟩
        · cases z
        · exact no _ (F.rd.at (by rw [F.len]; omega)) (F.fit i (by omega))
      · refine ⟨_, rfl, D, ys, rfl, .inl (SqL.of eD), rfl, flat, _, rfl, iteQ (inN_not hn) ?_⟩
        obtain ⟨ks, rfl, lk, hk⟩ := ints_of (Pi := fun i k => k ∈ kinds ((b : Int) + (i : Int)) ∧ fitsU (at_ ts i) k uu w) (xs := ys) (fun i y hy => by
          rcases pe i y hy with ⟨k, hk, rfl, fk⟩ | ⟨rfl, _⟩
          · exact ⟨k, rfl, hk, fk⟩
          · exact absurd (List.mem_of_getElem? hy) hn)
        rw [ly] at lk
        refine ⟨_, rfl, q1 ks ⟨fun i k e => (hk i k e).1, lk, fun i hi => (hk i _ (get_at (by omega))).2⟩ D H2 nD s2 eD⟩
end
end KT
namespace KT
open PySem PySem.Spec PyProof.Rows L2
section
variable {P : Program} {w : World} {K : PySem.W.Frag} {mg : Str → Option Value} {base : Heap}
theorem ok_least_units (S : Src K mg "least_units" sleast_units) : KDef P w K mg base CX0 1 "least_units" ["parts", "width"] (spLeastU K) := by
  refine S.ok scleast_units (fun _ _ _ _ _ _ us hl => match us, hl with | [_, _], _ => rfl) (fun vs H Q E h => ?_) (fun f cdv A outer s H vs Q E hr h => ?_)
  · obtain ⟨a, p, xs, b, ts, w, rfl, _⟩ := h
    rfl
  · obtain ⟨a, p, xs, b, ts, w, rfl, hX, PA, T, hw, W, q⟩ := h
    refine ⟨_, (pss_cons (ps_asg (pv 1) (pg_tup rfl (pgs_cons (pg_name (i := 2) scleast_units.nd rfl (.inr rfl)) (pgs_cons (pg_name (i := 3) scleast_units.nd rfl (.inr rfl)) pgs_nil))))
      (pss_one (ps_ret (pe_lc2 (own := [("time", 4), ("numbers", 5), ("number", 6)]) (vs1 := [6]) (g := gTup K 2 (gCons (gName 4) (gCons (gName 5) gNil))) (g1 := gName 6) (tt := tYes) (tt1 := tYes) rfl scleast_units.nd (pi_listK (K := K) rfl (pv 0)) (blkOk_by (own := [("time", 4), ("numbers", 5), ("number", 6)]) (N := ["parts", "width", "top", "bottom", "time", "numbers", "number"]) (sc := defScope sleast_units) (by decide +kernel)) (by decide) (fun _ _ _ _ _ => (pg_tup rfl (pgs_cons (pg_name (i := 4) scleast_units.nd rfl (.inl rfl) (.inr rfl)) (pgs_cons (pg_name (i := 5) scleast_units.nd rfl (.inl rfl) (.inr rfl)) pgs_nil)))) (fun _ _ _ _ _ => pts_nil) (fun _ _ _ _ _ => (pi_tupK (K := K) rfl (pv 5))) (fun _ _ _ _ _ => (pg_name (i := 6) scleast_units.nd rfl (.inl rfl) (.inr rfl))) (fun _ _ _ _ _ => pts_nil) (fun _ _ _ _ _ => (pe_tup (pa_cons (pe_op op_mul (pv 4) (pv 3)) (pa_cons (pe_op op_add (pe_op op_mul (pv 6) (pv 3)) (pv 2)) pa_nil)))))))), ?_⟩
    have w0 := W.lo
    have w1 := W.lt
    have w2 := W.le
    have le := T.le
    refine ⟨_, rfl, p, _, rfl, hw, rfl, _, _, rfl, _, _, rfl, rfl, ?_⟩
    refine ⟨_, rfl, a, rfl, ⟨_, hX⟩, fun D nD => ?_⟩
    refine lc_outY walk_list (fun i H2 => ∃ acc, Same H H2 ∧ H2 D = some (.lst acc) ∧ FrAt (hid D H2) acc (unitsTo b ts w i)) ⟨[], sm nD, upd_same, rfl, fun i u e => by simp [unitsTo] at e⟩ (fun i H2 _ ⟨_, s2, _⟩ => s2.seq hX) ?_ ?_
    · rintro i x H2 H2' hi ⟨acc, s2, eD, fr⟩ ⟨rfl, hx⟩
      have hi' : i < ts.length := by rw [← PA.1]; exact hi
      have tb := T.all i _ (get_at hi')
      obtain ⟨T1, nq, rfl, hT1, hN⟩ := (PA.2 i x hx).ex
      refine ⟨T1, _, rfl, SqT.of (s2 _ _ hT1), rfl, _, _, rfl, _, _, rfl, rfl, rfl, ?_⟩
      refine ⟨_, rfl, nq, rfl, ⟨_, same_tup s2 hN⟩, ?_⟩
      refine lc_inY walk_tup (fun j H3 => ∃ acc, Same H H3 ∧ H3 D = some (.lst acc) ∧ FrAt (hid D H3) acc (unitsTo b ts w i ++ ((kinds ((b : Int) + (i : Int))).take j).map fun k => (at_ ts i * w.2, k * w.2 + w.1))) ⟨acc, s2, eD, by simpa using fr⟩ (fun j H3 _ ⟨_, s3, _⟩ => same_tup s3 hN) ?_ ?_
      · clear fr eD s2 acc
        rintro j y H3 H3' hj ⟨acc, s3, eD, fr⟩ ⟨rfl, hy⟩
        obtain ⟨k, rfl, ek⟩ := int_at hy
        have kk := kinds_le (List.mem_of_getElem? ek)
        refine ⟨rfl, _, rfl, _, rfl, _, _, rfl, rfl, .inl ⟨by omega, by omega⟩, ?_⟩
        refine ⟨_, rfl, _, rfl, _, _, rfl, rfl, .inl ⟨by omega, by omega⟩, _, rfl, _, _, rfl, rfl, lz (by show 2 ≤ 1000000; decide), fun r nr => ?_⟩
        have lacc : acc.length ≤ 1000 := by
          have := unitsTo_len b ts w i
          have := kinds_len3 ((b : Int) + (i : Int))
          rw [fr.1, List.length_append, List.length_map, List.length_take]
          omega
        refine ⟨acc, sm nr _ _ eD, lz' (by omega), acc ++ [.ref r], same_put (s3.trans (sm nr)) nD, upd_same, ?_⟩
        rw [hid_upd, take_succ ek, List.map_append, ← List.append_assoc]
        exact fr.snoc (fun c xs e => same_hid (sm nr) _ _ e) (hid_new nr eD upd_same)
      · rintro H3 ⟨acc, s3, eD, fr⟩
        rw [List.length_map, List.take_length] at fr
        exact ⟨acc, s3, eD, by rw [unitsTo_succ]; exact fr⟩
    · rintro H2 ⟨acc, s2, eD, fr⟩
      rw [PA.1] at fr
      refine q D acc H2 nD s2 eD (FrAt.same fr hid_same)
end
end KT
namespace KT
open PySem PySem.Spec PyProof.Rows L2
section
variable {P : Program} {w : World} {K : PySem.W.Frag} {mg : Str → Option Value} {base : Heap}
theorem ok_allowed_readings (S : Src K mg "allowed_readings" sallowed_readings) (Gleast_units : KDef P w K mg base CX0 1 "least_units" ["parts", "width"] (spLeastU K)) (Greading_by : KDef P w K mg base CX0 2 "reading_by" ["parts", "unit", "width"] (spReadBy K)) :
    KDef P w K mg base CX0 3 "allowed_readings" ["parts", "width"] (spAllowedR K) := by
  refine S.ok scallowed_readings (fun _ _ _ _ _ _ us hl => match us, hl with | [_, _], _ => rfl) (fun vs H Q E h => ?_) (fun f cdv A outer s H vs Q E hr h => ?_)
  · obtain ⟨a, p, xs, b, ts, w, rfl, _⟩ := h
    rfl
  · obtain ⟨a, p, xs, b, ts, w, rfl, hX, PA, T, pos, hw, W, q⟩ := h
    refine ⟨_, (pss_cons (ps_set (i := 2) scallowed_readings.nd rfl (.inl rfl) (pe_lst pa_nil))
      (pss_cons (ps_for PassesOwn.never rfl (pi_listK (K := K) rfl (pe_callD Gleast_units (hr.mono (by decide)) (by rfl) (pa_cons (pv 0) (pa_cons (pv 1) pa_nil)))) (pg_name (i := 3) scallowed_readings.nd rfl (.inl rfl))
      (pss_cons (ps_set (i := 4) scallowed_readings.nd rfl (.inl rfl) (pe_callD Greading_by (hr.mono (by decide)) (by rfl) (pa_cons (pv 0) (pa_cons (pv 3) (pa_cons (pv 1) pa_nil)))))
      (pss_one (ps_if (PW.pt (pw_and (pt_cmpR op_notN (pv 4) pe_non (nomark _)) (pw_and1 (pt_cmpR (op_notInDK (room65 hr) (K := K) rfl) (pv 4) (pv 2) (by rfl)))))
      (pss_one (ps_expr (pe_bm PySem.F.plainAttrs_list PySem.F.slot_list_append PySem.F.type_list_append mt_append (pv 2) (pa_cons (pv 4) pa_nil))))
      pss_nil))))
      (pss_one (ps_ret (pv 2))))), ?_⟩
    have le := T.le
    have lu := units_len b ts w
    refine ⟨lz (by show 0 ≤ 1000000; decide), fun D nD => ?_⟩
    have sD := sm (o := .lst []) nD
    refine ⟨_, rfl, _, rfl, a, p, xs, b, ts, w, rfl, sD.seq hX, PA.same sD, T, same_tup sD hw, W, fun L us H1 nL s1 eL fr => ?_⟩
    have s01 := sD.trans s1
    refine ⟨L, rfl, ⟨_, SqL.of eL⟩, for_list (K := K) (a := L) (xs := us) (fun i σ H2 => ∃ (ys : List V) (rs : List (List Int)) (y3 y4 : Option V), σ = [some (.ref a), some (.ref p), some (.ref D), y3, y4] ∧ Same H H2 ∧ H2 L = some (.lst us) ∧ FrAt H2 us (unitsOf b ts w) ∧ H2 D = some (.lst ys) ∧ RowsN H (hid D H2) ys rs ∧
      FoundBy b ts w ((unitsOf b ts w).take i) rs) ?_ (fun i σ H2 _ ⟨_, _, _, _, _, _, e, _⟩ => SqL.of e) ?_ ?_⟩
    · exact ⟨[], [], none, none, rfl, s01, eL, fr, s1 _ _ upd_same, RowsN.nil _ _, FoundBy.nil b ts w⟩
    · rintro i x σ H2 hi ⟨ys, rs, y3, y4, rfl, s2, eL2, fr2, eD, rn, fb⟩
      have hil : i < (unitsOf b ts w).length := by
        rw [← fr.1]
        exact (List.getElem?_eq_some_iff.mp hi).1
      have eu := List.getElem?_eq_getElem hil
      obtain ⟨u, g1, g2⟩ := fr2.2 i _ eu
      rw [hi] at g1
      cases g1
      have UB := unit_b T W (List.getElem_mem hil)
      have lrs : rs.length ≤ 75 := by
        have := fb.le
        rw [List.length_take] at this
        omega
      have nDL : D ≠ L := fun z => by
        have := s1 _ _ (upd_same (H := H) (a := D) (o := .lst []))
        rw [z] at this
        exact absurd nL (by rw [← z, upd_same]; exact fun z => by cases z)
      refine ⟨_, rfl, _, rfl, _, rfl, a, u, p, xs, b, ts, _, w, rfl, s2.seq hX, PA.same s2, T, SqT.of g2, same_tup s2 hw, W, UB, fun ks F r H3 nr s3 er => ?_, fun no H3 s3 => ?_⟩
      · have eD3 := s3 _ _ eD
        have rn3 := rn.same (same_hid s3)
        have er' : hid D H3 r = some (.lst (ks.map V.int)) := hid_new nr eD er
        refine ⟨_, rfl, rfl, _, rfl, ite2 (fun _ => ?_) (fun e => absurd rfl e)⟩
        refine ⟨_, rfl, _, rfl, rowD ks, rs.map rowD, dp_ints (SqL.of er), .lst (SqL.of eD3) (RowsN.dp (rn3.same hid_same)), row_shaped ks, rows_shaped rs, _, rfl, ?_⟩
        rw [rows_any]
        by_cases m : ks ∈ rs
        · rw [decide_eq_true m]
          refine iteF ⟨ys, rs, _, _, rfl, s2.trans s3, s3 _ _ eL2, fr2.same s3, eD3, rn3, ?_⟩
          rw [take_succ eu]
          exact fb.old W UB.a0 F m
        · rw [decide_eq_false m]
          refine iteT ⟨_, rfl, ty_list eD3, _, rfl, D, ys, _, rfl, rfl, eD3, lz' (by rw [rn.1]; omega), ?_⟩
          have keep : ∀ {c : Addr} {o : HO}, c ≠ D → H3 c = some o → (upd H3 D (.lst (ys ++ [.ref r]))) c = some o := fun n e => by
            rw [upd_ne n]
            exact e
          refine ⟨ys ++ [.ref r], rs ++ [ks], _, _, rfl, fun c o e => keep (ne_of_none e nD) (s3 _ _ (s2 _ _ e)), keep nDL.symm (s3 _ _ eL2), ⟨fr2.1, fun j f ef => ?_⟩, upd_same, ?_, ?_⟩
          · obtain ⟨r', k1, k2⟩ := fr2.2 j f ef
            exact ⟨r', k1, keep (fun z => by rw [z, eD] at k2; cases k2) (s3 _ _ k2)⟩
          · rw [hid_upd]
            exact rn3.snoc (s2.free nr) er'
          · rw [take_succ eu]
            exact fb.new W UB.a0 F m
      · refine ⟨_, rfl, rfl, _, rfl, iteF ?_⟩
        refine iteF ⟨ys, rs, _, _, rfl, s2.trans s3, s3 _ _ eL2, fr2.same s3, s3 _ _ eD, rn.same (same_hid s3), ?_⟩
        rw [take_succ eu]
        exact fb.none no
    · rintro σ H2 ⟨ys, rs, y3, y4, rfl, s2, eL2, fr2, eD, rn, fb⟩
      rw [fr.1, List.take_length] at fb
      exact ⟨_, rfl, q D ys rs H2 nD s2 eD (rn.same hid_same) (fb.all T pos W)⟩
end
end KT
namespace KT
open PySem PySem.Spec PyProof.Rows L2
section
variable {P : Program} {w : World} {K : PySem.W.Frag} {mg : Str → Option Value} {base : Heap}
theorem ok_common_bottom (S : Src K mg "common_bottom" scommon_bottom) (m_lcm : mg "lcm" = some (.builtin "math.lcm")) : KDef P w K mg base CX0 1 "common_bottom" ["widths"] spCommon := by
  refine S.ok sccommon_bottom (fun _ _ _ _ _ _ us hl => match us, hl with | [_], _ => rfl) (fun vs H Q E h => ?_) (fun f cdv A outer s H vs Q E hr h => ?_)
  · obtain ⟨a, xs, ws, rfl, _⟩ := h
    rfl
  · obtain ⟨a, xs, ws, rfl, hX, fr, bd, le, q⟩ := h
    refine ⟨_, (pss_cons (ps_set (i := 1) sccommon_bottom.nd rfl (.inl rfl) pe_int)
      (pss_cons (ps_for PassesOwn.never rfl (pi_listK (K := K) rfl (pv 0)) (pg_tup rfl (pgs_cons (pg_name (i := 2) sccommon_bottom.nd rfl (.inl rfl)) (pgs_cons (pg_name (i := 3) sccommon_bottom.nd rfl (.inl rfl)) pgs_nil)))
      (pss_one (ps_set (i := 1) sccommon_bottom.nd rfl (.inl rfl) (pe_callBfun cr_lcm (by rfl) m_lcm (pa_cons (pv 1) (pa_cons (pv 3) pa_nil))))))
      (pss_one (ps_ret (pv 1))))), ?_⟩
    refine ⟨_, rfl, a, rfl, ⟨_, SqL.of hX⟩, for_list (K := K) (a := a) (xs := xs) (fun i σ H2 => ∃ (c : Int) (y2 y3 : Option V), σ = [some (.ref a), some (.int c), y2, y3] ∧ H2 = H ∧ 0 < c ∧ c.natAbs ≤ 2 ^ (15 * i) ∧ ∀ f ∈ ws.take i, f.2 ∣ c) ?_ (fun i σ H2 _ ⟨_, _, _, _, e, _⟩ => e ▸ SqL.of hX) ?_ ?_⟩
    · exact ⟨1, none, none, rfl, rfl, by decide, by decide, fun f hf => by simp at hf⟩
    · rintro i x σ H2 hi ⟨c, y2, y3, rfl, rfl, c0, c1, cd⟩
      have hil : i < ws.length := by
        rw [← fr.1]
        exact (List.getElem?_eq_some_iff.mp hi).1
      have eu := List.getElem?_eq_getElem hil
      obtain ⟨u, g1, g2⟩ := fr.2 i _ eu
      rw [hi] at g1
      cases g1
      have bb := bd _ (List.getElem_mem hil)
      have p1 : 2 ^ (15 * i) < 2 ^ 2000 := Nat.pow_lt_pow_right (by decide) (by omega)
      refine ⟨u, _, rfl, SqT.of g2, rfl, _, _, rfl, _, _, rfl, rfl, ?_⟩
      refine ⟨_, rfl, _, rfl, c, _, rfl, by omega, by omega, ?_⟩
      refine ⟨_, _, _, rfl, rfl, ?_, ?_, fun f hf => ?_⟩
      · have := Nat.lcm_pos (m := c.natAbs) (n := (ws[i]).2.natAbs) (by omega) (by omega)
        omega
      · rw [Int.natAbs_natCast]
        have l1 : c.natAbs.lcm (ws[i]).2.natAbs ≤ c.natAbs * (ws[i]).2.natAbs := Nat.div_le_self _ _
        have l2 : (ws[i]).2.natAbs ≤ 2 ^ 15 := by omega
        refine Nat.le_trans l1 ?_
        rw [Nat.mul_succ, Nat.pow_add]
        exact Nat.mul_le_mul c1 l2
      · rw [take_succ eu] at hf
        rcases List.mem_append.mp hf with hf | hf
        · exact Int.dvd_trans (cd f hf) (Int.natAbs_dvd_natAbs.mp (by rw [Int.natAbs_natCast]; exact Nat.dvd_lcm_left _ _))
        · rw [List.mem_singleton.mp hf]
          exact Int.natAbs_dvd_natAbs.mp (by rw [Int.natAbs_natCast]; exact Nat.dvd_lcm_right _ _)
    · rintro σ H2 ⟨c, y2, y3, rfl, rfl, c0, c1, cd⟩
      rw [fr.1, List.take_length] at cd
      rw [fr.1] at c1
      refine ⟨_, rfl, q c _ c0 ?_ cd (Same.refl _)⟩
      exact Nat.lt_of_le_of_lt c1 (Nat.pow_lt_pow_right (by decide) (by omega))
end
end KT
namespace KT
open PySem PySem.Spec PyProof.Rows L2
section
variable {P : Program} {w : World} {K : PySem.W.Frag} {mg : Str → Option Value} {base : Heap}
theorem ok_in_order (S : Src K mg "in_order" sin_order) (m_sorted : mg "sorted" = none) (m_zip : mg "zip" = none) (Gallowed_readings : KDef P w K mg base CX0 3 "allowed_readings" ["parts", "width"] (spAllowedR K)) (Gleast_asked : KDef P w K mg base CX0 3 "least_asked" ["times", "reading"] (spWidthL K))
    (Gcommon_bottom : KDef P w K mg base CX0 1 "common_bottom" ["widths"] spCommon) : KDef P w K mg base CX0 4 "in_order" ["parts", "width"] (spInOrder K) := by
  refine S.ok scin_order (fun _ _ _ _ _ _ us hl => match us, hl with | [_, _], _ => rfl) (fun vs H Q E h => ?_) (fun f cdv A outer s H vs Q E hr h => ?_)
  · obtain ⟨a, p, xs, b, ts, w, rfl, _⟩ := h
    rfl
  · obtain ⟨a, p, xs, b, ts, w, rfl, hX, PA, T, pos, hw, W, q⟩ := h
    refine ⟨_, (C8.pss_cut (ps_set (i := 2) scin_order.nd rfl (.inr rfl) (pe_lc (own := [("time", 7), ("_", 8)]) (g := gTup K 2 (gCons (gName 7) (gCons (gName 8) gNil))) (tt := tYes) rfl scin_order.nd (pi_listK (K := K) rfl (pv 0)) (blkOk_by (own := [("time", 7), ("_", 8)]) (N := ["parts", "width", "times", "found", "widths", "common", "ranked", "time", "_", "reading", "top", "bottom", "least"]) (sc := defScope sin_order) (by decide +kernel)) (fun _ _ _ _ _ => (pg_tup rfl (pgs_cons (pg_name (i := 7) scin_order.nd rfl (.inl rfl) (.inr rfl)) (pgs_cons (pg_name (i := 8) scin_order.nd rfl (.inl rfl) (.inr rfl)) pgs_nil)))) (fun _ _ _ _ _ => pts_nil) (fun _ _ _ _ _ => (pv 7))))
      (pss_cons (ps_set (i := 3) scin_order.nd rfl (.inl rfl) (pe_callD Gallowed_readings (hr.mono (by decide)) (by rfl) (pa_cons (pv 0) (pa_cons (pv 1) pa_nil))))
      (C8.pss_cut (ps_setLc (i := 4) (own := [("reading", 9)]) (g := gName 9) (tt := tYes) rfl scin_order.nd rfl rfl (sw_true rfl rfl rfl (by decide +kernel)) (pi_listK (K := K) rfl (pv 3)) (blkOk_by (own := [("reading", 9)]) (N := ["parts", "width", "times", "found", "widths", "common", "ranked", "time", "_", "reading", "top", "bottom", "least"]) (sc := defScope sin_order) (by decide +kernel)) (fun _ _ _ _ _ => (pg_name (i := 9) scin_order.nd rfl (.inl rfl) (.inr rfl))) (fun _ _ _ _ _ => pts_nil) (fun _ _ _ _ _ => (pe_ix (ix_tupK (K := K) rfl) (pe_callD Gleast_asked (hr.mono (by decide)) (by rfl) (pa_cons (pv 2) (pa_cons (pv 9) pa_nil))) pe_int (fun _ _ => rfl))))
      (pss_cons (ps_set (i := 5) scin_order.nd rfl (.inr rfl) (pe_callD Gcommon_bottom (hr.mono (by decide)) (by rfl) (pa_cons (pv 4) pa_nil)))
      (C8.pss_cut (ps_setLc (i := 6) (own := [("reading", 9), ("top", 10), ("bottom", 11)]) (g := gTup K 2 (gCons (gName 9) (gCons (gTup K 2 (gCons (gName 10) (gCons (gName 11) gNil))) gNil))) (tt := tYes) rfl scin_order.nd rfl rfl (sw_true rfl rfl rfl (by decide +kernel)) (pi_zip (by rfl) m_zip (pa_cons (pv 3) (pa_cons (pv 4) pa_nil))) (blkOk_by (own := [("reading", 9), ("top", 10), ("bottom", 11)]) (N := ["parts", "width", "times", "found", "widths", "common", "ranked", "time", "_", "reading", "top", "bottom", "least"]) (sc := defScope sin_order) (by decide +kernel)) (fun _ _ _ _ _ => (pg_tup rfl (pgs_cons (pg_name (i := 9) scin_order.nd rfl (.inl rfl) (.inr rfl)) (pgs_cons (pg_tup rfl (pgs_cons (pg_name (i := 10) scin_order.nd rfl (.inl rfl) (.inr rfl)) (pgs_cons (pg_name (i := 11) scin_order.nd rfl (.inl rfl) (.inr rfl)) pgs_nil))) pgs_nil)))) (fun _ _ _ _ _ => pts_nil) (fun _ _ _ _ _ => (pe_tup (pa_cons (pe_op op_mul (pv 10) (pe_op op_fdiv (pv 5) (pv 11))) (pa_cons (pv 9) (pa_cons (pe_tup (pa_cons (pv 10) (pa_cons (pv 11) pa_nil))) pa_nil))))))
      (pss_one (ps_ret (pe_lc (own := [("_", 8), ("reading", 9), ("least", 12)]) (g := gTup K 3 (gCons (gName 8) (gCons (gName 9) (gCons (gName 12) gNil)))) (tt := tYes) rfl scin_order.nd (pi_listK (K := K) rfl (pe_callB (cr_sortedE (hu20 hr) (K := K) rfl) (by rfl) m_sorted (by decide +kernel) (pa_cons (pv 6) pa_nil))) (blkOk_by (own := [("_", 8), ("reading", 9), ("least", 12)]) (N := ["parts", "width", "times", "found", "widths", "common", "ranked", "time", "_", "reading", "top", "bottom", "least"]) (sc := defScope sin_order) (by decide +kernel)) (fun _ _ _ _ _ => (pg_tup rfl (pgs_cons (pg_name (i := 8) scin_order.nd rfl (.inl rfl) (.inr rfl)) (pgs_cons (pg_name (i := 9) scin_order.nd rfl (.inl rfl) (.inr rfl)) (pgs_cons (pg_name (i := 12) scin_order.nd rfl (.inl rfl) (.inr rfl)) pgs_nil))))) (fun _ _ _ _ _ => pts_nil) (fun _ _ _ _ _ => (pe_tup (pa_cons (pv 9) (pa_cons (pv 12) pa_nil)))))))))))), ?_⟩
    have le := T.le
    have lx := PA.1
    refine ⟨fun σ H1 => ∃ D1 : Addr, σ = [some (.ref a), some (.ref p), some (.ref D1), none, none, none, none, none, none, none, none, none, none] ∧ Same H H1 ∧ H1 D1 = some (.lst (ts.map V.int)), ?_, ?_⟩
    · refine ⟨_, rfl, a, rfl, ⟨_, hX⟩, fun D1 nD1 => ?_⟩
      refine lc_h walk_list (fun i v _ => v = .int (at_ ts i)) (fun i v H H' s h => h) nD1 (by omega) (fun H1 s1 => s1.seq hX) ?_ ?_
      · rintro i x H2 H2' acc k hi s2 eD la pe ⟨rfl, hx⟩ fin
        obtain ⟨T1, q1, rfl, g1, g2⟩ := (PA.2 i x hx).ex
        exact ⟨T1, _, rfl, SqT.of (s2 _ _ g1), rfl, _, _, rfl, _, _, rfl, rfl, rfl, _, rfl, fin _ _ (Same.refl _) rfl⟩
      intro H1 ys1 s1 eD1 ly1 pe1
      obtain rfl := ints_eq (ly1.trans lx) pe1
      exact ⟨D1, rfl, s1, eD1⟩
    rintro σ1 H1 ⟨D1, rfl, s1, eD1⟩
    refine ⟨_, rfl, _, rfl, a, p, xs, b, ts, w, rfl, s1.seq hX, PA.same s1, T, pos, same_tup s1 hw, W, fun F ys rs H2 nF s2 eF rn ab => ?_⟩
    have trs : ∀ ks ∈ rs, TR ts ks := fun ks h => T.tr ((ab.iff ks).mp h).rd ((ab.iff ks).mp h).len
    have lr := ab.le
    refine ⟨fun σ H3 => ∃ (D3 : Addr) (zs : List V), σ = [some (.ref a), some (.ref p), some (.ref D1), some (.ref F), some (.ref D3), none, none, none, none, none, none, none, none] ∧ Same H2 H3 ∧ H3 D3 = some (.lst zs) ∧ zs.length = rs.length ∧ FrAt H3 zs (rs.map fun ks => (widthOf ts ks).1), ?_, ?_⟩
    · refine ⟨_, rfl, F, rfl, ⟨_, SqL.of eF⟩, fun D3 nD3 => ?_⟩
      refine lc_h walk_list (fun i v H => ∀ ks, rs[i]? = some ks → ∃ r : Addr, v = .ref r ∧ H r = some (.tup (frV (widthOf ts ks).1))) (fun i v H H' s h ks e => by
        obtain ⟨r, g1, g2⟩ := h ks e
        exact ⟨r, g1, s _ _ g2⟩) nD3 (by rw [rn.1]; omega) (fun H1 s1 => s1.seq (SqL.of eF)) ?_ ?_
      · rintro i x H3 H3' acc k hi s3 eD la pe ⟨rfl, hx⟩ fin
        have er := List.getElem?_eq_getElem (show i < rs.length by rw [← rn.1]; exact hi)
        obtain ⟨r, g1, gn, g2⟩ := rn.2 i _ er
        rw [hx] at g1
        cases g1
        have tr := trs _ (List.getElem_mem (show i < rs.length by rw [← rn.1]; exact hi))
        refine ⟨rfl, _, rfl, _, rfl, D1, r, ts, _, rfl, ⟨s3.seq (s2.seq (SqL.of eD1)), s3.seq (SqL.of g2), tr⟩, pos, fun pw H4 s4 wa => ?_⟩
        obtain ⟨q1, q2, w1, w2, w3⟩ := wa.ex
        refine ⟨_, _, _, _, rfl, rfl, SqT.of w1, aI (by decide) rfl, fin _ _ s4 fun ks e => ?_⟩
        rw [er] at e
        cases e
        exact ⟨q1, rfl, hid_tup (s4 _ _ eD) w2⟩
      intro H3 zs s3 eD3 lz3 pe3
      rw [rn.1] at lz3
      refine ⟨D3, zs, rfl, s3, eD3, lz3, by rw [List.length_map]; exact lz3, fun i f e => ?_⟩
      rw [List.getElem?_map] at e
      have hi : i < rs.length := by
        rcases Nat.lt_or_ge i rs.length with h | h
        · exact h
        · rw [List.getElem?_eq_none h] at e
          cases e
      have er := List.getElem?_eq_getElem hi
      rw [er] at e
      cases e
      have ez := List.getElem?_eq_getElem (show i < zs.length by omega)
      obtain ⟨r, g1, g2⟩ := pe3 i _ ez _ er
      exact ⟨r, by rw [ez, g1], (hid_some g2).2⟩
    rintro σ3 H3 ⟨D3, zs, rfl, s3, eD3, lz3, fr⟩
    refine ⟨_, rfl, D3, zs, _, rfl, eD3, fr, fun f hf => ?_, by rw [List.length_map]; exact lr, fun c H4 c0 c1 cd s4 => ?_⟩
    · obtain ⟨ks, hk, rfl⟩ := List.mem_map.mp hf
      have o := width_ok (trs ks hk) pos
      exact ⟨o.b0, o.b1⟩
    clear c1
    have cd' : ∀ ks ∈ rs, (widthOf ts ks).1.2 ∣ c := fun ks h => cd _ (List.mem_map.mpr ⟨ks, h, rfl⟩)
    have s24 := s3.trans s4
    refine ⟨fun σ H5 => ∃ (D5 : Addr) (us : List V), σ = [some (.ref a), some (.ref p), some (.ref D1), some (.ref F), some (.ref D3), some (.int c), some (.ref D5), none, none, none, none, none, none] ∧ Same H4 H5 ∧ H5 D5 = some (.lst us) ∧ us.length = rs.length ∧
      ∀ (i : Nat) (v : V) (ks : List Int), us[i]? = some v → rs[i]? = some ks → ∃ T r q, EntF H ts c H5 v ks T r q, ?_, ?_⟩
    · refine ⟨_, rfl, _, rfl, F, D3, ys, zs, rfl, SqL.of (s24 _ _ eF), SqL.of (s4 _ _ eD3), fun D5 nD5 => ?_⟩
      refine lc_h (walk_zip (n := rs.length) (by rw [rn.1, lz3, Nat.min_self])) (fun i v H5 => ∀ ks, rs[i]? = some ks → ∃ T r q, EntF H ts c H5 v ks T r q) (fun i v H H' s h ks e => by
        obtain ⟨T, r, q, E⟩ := h ks e
        exact ⟨T, r, q, E.same s⟩) nD5 (by omega) (fun H5 s5 => ⟨s5.seq (SqL.of (s24 _ _ eF)), s5.seq (SqL.of (s4 _ _ eD3))⟩) ?_ ?_
      · rintro i x H5 H5' acc k hi s5 eD la pe ⟨Tz, x1, x2, rfl, nT, rfl, f1, f2⟩ fin
        have f1 : ys[i]? = some x1 := f1
        have f2 : zs[i]? = some x2 := f2
        have er := List.getElem?_eq_getElem hi
        obtain ⟨r, g1, gn, g2⟩ := rn.2 i _ er
        rw [f1] at g1
        cases g1
        have hm := List.getElem_mem hi
        obtain ⟨qf, k1, k2⟩ := fr.2 i (widthOf ts rs[i]).1 (by rw [List.getElem?_map, er]; rfl)
        rw [f2] at k1
        cases k1
        have o := width_ok (trs _ hm) pos
        have o1 := o.t0
        have o2 := o.t1
        have o3 := o.b0
        have o4 := o.b1
        have sT := sm (o := .tup [.ref r, .ref qf]) nT
        refine ⟨Tz, _, rfl, .inl (.inl upd_same), rfl, _, _, rfl, _, _, rfl, qf, _, rfl, SqT.of (sT _ _ (s5 _ _ (s4 _ _ k2))), rfl, _, _, rfl, _, _, rfl, rfl, rfl, rfl, ?_⟩
        refine ⟨_, rfl, _, rfl, _, rfl, _, _, rfl, rfl, ⟨by omega, by omega⟩, _, _, rfl, rfl, .inl ⟨by omega, by omega⟩, _, rfl, _, rfl, _, rfl, lz (by show 2 ≤ 1000000; decide), fun q1 nq1 => ⟨lz (by show 3 ≤ 1000000; decide), fun t1 nt1 => ?_⟩⟩
        have eD' := sT _ _ eD
        have sq := sm (o := .tup (frV (widthOf ts rs[i]).1)) nq1
        have st := sm (o := .tup [.int (rankOf c (widthOf ts rs[i]).1), .ref r, .ref q1]) nt1
        refine fin _ _ (sT.trans (sq.trans st)) fun ks e => ?_
        rw [er] at e
        cases e
        refine ⟨t1, r, q1, rfl, hid_new nt1 (sq _ _ eD') upd_same, s1.free gn, ?_, ?_⟩
        · have h5 := s5 _ _ (s24 _ _ g2)
          have nrD : r ≠ D5 := ne_of_none (s24 _ _ g2) nD5
          rw [hid_ne nrD]
          exact st _ _ (sq _ _ (sT _ _ h5))
        · exact same_hid st _ _ (hid_new nq1 eD' upd_same)
      intro H5 us s5 eD5 lu5 pe5
      exact ⟨D5, us, rfl, s5, eD5, lu5, fun i v ks e1 e2 => by
        obtain ⟨T, r, q, E⟩ := pe5 i v e1 ks e2
        exact ⟨T, r, q, E.same hid_same⟩⟩
    rintro σ5 H5 ⟨D5, us, rfl, s5, eD5, lu5, ents⟩
    have each : ∀ v ∈ us, ∃ (i : Nat) (ks : List Int) (T r q : Addr), us[i]? = some v ∧ rs[i]? = some ks ∧ EntF H ts c H5 v ks T r q := fun v hv => by
      obtain ⟨i, hi, ei⟩ := List.getElem_of_mem hv
      have e1 : us[i]? = some v := by rw [List.getElem?_eq_getElem hi, ei]
      have e2 := List.getElem?_eq_getElem (show i < rs.length by omega)
      obtain ⟨T, r, q, E⟩ := ents i v _ e1 e2
      exact ⟨i, _, T, r, q, e1, e2, E⟩
    refine ⟨_, rfl, D5, us, keyOf H5, rfl, SqL.of eD5, fun x hx => ?_, fun x hx y hy e => ?_, fun ws pS ordS permS npS => ?_⟩
    · obtain ⟨i, ks, T1, r, q1, e1, e2, E⟩ := each x hx
      rw [E.key]
      exact ⟨T1, r, q1, E.v, SqT.of E.t, SqL.of E.r⟩
    · obtain ⟨i, ks, T1, r, q1, e1, e2, E⟩ := each x hx
      obtain ⟨j, ls, T2, r2, q2, e3, e4, E2⟩ := each y hy
      rw [E.key, E2.key] at e
      have ek : ks = ls := congrArg Prod.snd e
      subst ek
      have ij : i = j := by
        have h1 := (List.getElem?_eq_some_iff.mp e2)
        have h2 := (List.getElem?_eq_some_iff.mp e4)
        exact nodup_at ab.nd h1.1 h2.1 (h1.2.trans h2.2.symm)
      subst ij
      rw [e1] at e3
      exact Option.some.inj e3
    obtain ⟨ob, ew⟩ := ord_of T pos c0 cd' ab lu5 ents permS ordS
    have sS := sm (o := .lst ws) npS
    refine ⟨pS, rfl, ⟨_, SqL.of upd_same⟩, fun D6 nD6 => ?_⟩
    have lw : ws.length ≤ 75 := by rw [permS.length_eq, lu5]; exact lr
    refine lc_h walk_list (fun i v H6 => ∀ y, ws[i]? = some y → ∃ T r q : Addr, v = .ref T ∧ H r = none ∧ H6 T = some (.tup [.ref r, .ref q]) ∧ H6 r = some (.lst ((keyOf H5 y).2.map V.int)) ∧ H6 q = some (.tup (frV (widthOf ts (keyOf H5 y).2).1))) (fun i v H H' s h y e => by
      obtain ⟨T, r, q, g1, g0, g2, g3, g4⟩ := h y e
      exact ⟨T, r, q, g1, g0, s _ _ g2, s _ _ g3, s _ _ g4⟩) nD6 (by omega) (fun H6 s6 => s6.seq (SqL.of upd_same)) ?_ ?_
    · rintro i x H6 H6' acc k hi s6 eD la pe ⟨rfl, hx⟩ fin
      obtain ⟨ks, T1, r, q1, E, m⟩ := ew x (List.mem_of_getElem? hx)
      have ev := E.v
      subst ev
      have E6 := E.same (sS.trans s6)
      have n6 : ∀ {c : Addr} {o : HO}, H5 c = some o → c ≠ D6 := fun e => ne_of_none (sS _ _ e) nD6
      refine ⟨T1, _, rfl, SqT.of E6.t, rfl, _, _, rfl, _, _, rfl, _, _, rfl, rfl, rfl, ?_⟩
      refine ⟨_, rfl, _, rfl, lz (by show 2 ≤ 1000000; decide), fun t nt => fin _ _ (sm nt) fun y ey => ?_⟩
      rw [hx] at ey
      cases ey
      rw [E.key]
      exact ⟨t, r, q1, rfl, E.n, hid_new nt eD upd_same, by rw [hid_ne (n6 E.r)]; exact sm nt _ _ E6.r, by rw [hid_ne (n6 E.q)]; exact sm nt _ _ E6.q⟩
    · intro H6 os s6 eD6 lo pe6
      have s05 := ((s1.trans s2).trans s24).trans s5
      have sAll : Same H H6 := (s05.trans sS).trans s6
      refine q D6 os _ H6 ((s05.trans sS).free nD6) sAll eD6 ⟨by rw [List.length_map]; exact lo, fun i e he => ?_⟩ ob
      rw [List.getElem?_map] at he
      have hi : i < ws.length := by
        rcases Nat.lt_or_ge i ws.length with h | h
        · exact h
        · rw [List.getElem?_eq_none h] at he
          cases he
      have ew' := List.getElem?_eq_getElem hi
      rw [ew'] at he
      cases he
      have eo := List.getElem?_eq_getElem (show i < os.length by omega)
      obtain ⟨T1, r, q1, g1, g0, g2, g3, g4⟩ := pe6 i _ eo _ ew'
      exact ⟨T1, r, q1, by rw [eo, g1], g0, (hid_some g2).2, (hid_some g3).2, (hid_some g4).2⟩
end
end KT
namespace KT
open PySem PySem.Spec PyProof.Rows L2
section
variable {P : Program} {w : World} {K : PySem.W.Frag} {mg : Str → Option Value} {base : Heap}
theorem ok_piece_end (S : Src K mg "piece_end" spiece_end) (m_len : mg "len" = none) (Gparts_between : KDef P w K mg base CX0 1 "parts_between" ["times", "begin", "end"] (spParts K)) (Gallowed_readings : KDef P w K mg base CX0 3 "allowed_readings" ["parts", "width"] (spAllowedR K)) :
    KDef P w K mg base CX0 4 "piece_end" ["times", "begin", "width"] (spPieceEnd K) := by
  refine S.ok scpiece_end (fun _ _ _ _ _ _ us hl => match us, hl with | [_, _, _], _ => rfl) (fun vs H Q E h => ?_) (fun f cdv A outer s H vs Q E hr h => ?_)
  · obtain ⟨a, p, ts, b, w, rfl, _⟩ := h
    rfl
  · obtain ⟨a, p, ts, b, w, rfl, hT, T, hb, hw, W, q⟩ := h
    refine ⟨_, (pss_cons (ps_set (i := 3) scpiece_end.nd rfl (.inl rfl) (pe_op op_add (pv 1) pe_int))
      (pss_cons (ps_while PassesOwn.never (pt_cut (PW.pt (pw_and (pt_cmpR op_lt (pv 3) (pe_callB (call_len_seqK (K := K) rfl) (by rfl) m_len (by decide +kernel) (pa_cons (pv 0) pa_nil)) (nomark _)) (pw_and1 (pt_truth (pe_callD Gallowed_readings (hr.mono (by decide)) (by rfl) (pa_cons (pe_callD Gparts_between (hr.mono (by decide)) (by rfl) (pa_cons (pv 0) (pa_cons (pv 1) (pa_cons (pe_op op_add (pv 3) pe_int) pa_nil)))) (pa_cons (pv 2) pa_nil))) (by intro _; rfl))))))
      (pss_one (ps_aug (i := 3) scpiece_end.nd rfl (.inl rfl) pe_int ip_add)))
      (pss_one (ps_ret (pv 3))))), ?_⟩
    have le := T.le
    refine ⟨_, rfl, _, _, rfl, rfl, ?_⟩
    have one : ∃ ks, Allowed b (slice ts b (b + 1)) w ks := ⟨_, one_allowed (T.slice b (b + 1)) W (by rw [slice_len hb (by omega)]; omega)⟩
    refine while_by (fun σ H1 => ∃ e : Nat, σ = [some (.ref a), some (.int (b : Int)), some (.ref p), some (.int (e : Int))] ∧ b < e ∧ e ≤ ts.length ∧ (∃ ks, Allowed b (slice ts b e) w ks) ∧ Same H H1) (fun σ _ => leftAt 3 ts.length σ) ?_ ?_ ?_
    · exact ⟨b + 1, rfl, by omega, hb, one, Same.refl _⟩
    · rintro σ H1 ⟨e, rfl, e1, e2, al, s1⟩
      refine ⟨fun c H2 => Same H H2 ∧ (c = true → e < ts.length ∧ ∃ ks, Allowed b (slice ts b (e + 1)) w ks) ∧ (c = false → e < ts.length → ∀ ks, ¬ Allowed b (slice ts b (e + 1)) w ks), ?_, ?_⟩
      · refine ⟨_, rfl, _, rfl, a, _, rfl, .inl (s1.seq hT), _, _, rfl, rfl, _, rfl, ite2 (fun c => ?_) (fun c => ?_)⟩
        · have c := of_decide_eq_true c
          rw [List.length_map] at c
          have c' : e + 1 ≤ ts.length := by omega
          refine ⟨_, rfl, _, rfl, _, rfl, _, _, rfl, rfl, a, ts, b, e + 1, rfl, s1.seq hT, by omega, c', le, fun pp xs H2 np s2 ep PA => ?_⟩
          refine ⟨_, rfl, pp, p, xs, b, _, w, rfl, SqL.of ep, PA, T.slice b (e + 1), by rw [slice_len c' (by omega)]; omega, same_tup (s1.trans s2) hw, W, fun r ys rs H3 nr s3 er rn ab => ?_⟩
          refine ⟨_, .inl ⟨ys, SqL.of er, rfl⟩, (s1.trans s2).trans s3, fun z => ⟨by omega, ?_⟩, fun z _ ks al' => ?_⟩
          · cases rs with
            | nil =>
              rw [List.length_eq_zero_iff.mp rn.1] at z
              cases z
            | cons k rs => exact ⟨k, (ab.iff k).mp List.mem_cons_self⟩
          · have m := (ab.iff ks).mpr al'
            cases rs with
            | nil => cases m
            | cons k rs =>
              cases ys with
              | nil => cases rn.1
              | cons y ys => cases z
        · refine ⟨s1, ⟨fun z => Bool.noConfusion z, fun _ z => absurd (decide_eq_true ?_) c⟩⟩
          rw [List.length_map]
          omega
      · rintro c H2 ⟨s2, t1, t2⟩
        cases c with
        | true =>
          obtain ⟨z1, z2⟩ := t1 rfl
          refine iteT ⟨_, rfl, _, _, rfl, rfl, ⟨e + 1, rfl, by omega, z1, z2, s2⟩, ?_⟩
          rw [leftAt_of (k := e + 1) rfl, leftAt_of (k := e) rfl]
          omega
        | false => exact iteF ⟨_, rfl, q e H2 e1 e2 al (t2 rfl) s2⟩
    · rintro σ H1 Q1 Q2 hq ⟨M, h1, h2⟩
      exact ⟨M, h1, fun c H2 m => hq c H2 (h2 c H2 m)⟩
end
end KT
namespace KT
open PySem PySem.Spec PyProof.Rows L2
section
variable {P : Program} {w : World} {K : PySem.W.Frag} {mg : Str → Option Value} {base : Heap}
theorem ok_pieces (S : Src K mg "pieces" spieces) {C : Addr} (m_len : mg "len" = none) (GTaps_times : KMeth P w K mg base CX0 C 1 "times" ["self"] (spTapsTimes C)) (Gcheck_width : KDef P w K mg base CX0 1 "check_width" ["width"] (spCheckW K))
    (Gparts_between : KDef P w K mg base CX0 1 "parts_between" ["times", "begin", "end"] (spParts K)) (Gin_order : KDef P w K mg base CX0 4 "in_order" ["parts", "width"] (spInOrder K)) (Gpiece_end : KDef P w K mg base CX0 4 "piece_end" ["times", "begin", "width"] (spPieceEnd K)) :
    KDef P w K mg base CX0 5 "pieces" ["taps", "width"] (spPieces K C) := by
  refine S.ok scpieces (fun _ _ _ _ _ _ us hl => match us, hl with | [_, _], _ => rfl) (fun vs H Q E h => ?_) (fun f cdv A outer s H vs Q E hr h => ?_)
  · obtain ⟨x, p, la, ts, w, rfl, _⟩ := h
    rfl
  · obtain ⟨x, p, la, ts, w, rfl, TA, TP, hw, W, q⟩ := h
    refine ⟨_, (pss_cons (ps_expr (pe_callD Gcheck_width (hr.mono (by decide)) (by rfl) (pa_cons (pv 1) pa_nil)))
      (pss_cons (ps_set (i := 2) scpieces.nd rfl (.inl rfl) (pe_meth0D (pv 0) GTaps_times (hr.mono (by decide))))
      (pss_cons (ps_set (i := 3) scpieces.nd rfl (.inl rfl) (pe_lst pa_nil))
      (C8.pss_cut (ps_set (i := 4) scpieces.nd rfl (.inl rfl) pe_int)
      (pss_cons (ps_while PassesOwn.never (pt_cut (pt_cmpR op_lt (pv 4) (pe_callB (call_len_seqK (K := K) rfl) (by rfl) m_len (by decide +kernel) (pa_cons (pv 2) pa_nil)) (nomark _)))
      (pss_cons (ps_set (i := 5) scpieces.nd rfl (.inl rfl) (pe_callD Gpiece_end (hr.mono (by decide)) (by rfl) (pa_cons (pv 2) (pa_cons (pv 4) (pa_cons (pv 1) pa_nil)))))
      (pss_cons (ps_asg (pe_ix (ix_listK (K := K) rfl) (pe_callD Gin_order (hr.mono (by decide)) (by rfl) (pa_cons (pe_callD Gparts_between (hr.mono (by decide)) (by rfl) (pa_cons (pv 2) (pa_cons (pv 4) (pa_cons (pv 5) pa_nil)))) (pa_cons (pv 1) pa_nil))) pe_int (fun _ _ => rfl)) (pg_tup rfl (pgs_cons (pg_name (i := 6) scpieces.nd rfl (.inl rfl)) (pgs_cons (pg_name (i := 7) scpieces.nd rfl (.inl rfl)) pgs_nil))))
      (pss_cons (ps_expr (pe_bm PySem.F.plainAttrs_list PySem.F.slot_list_append PySem.F.type_list_append mt_append (pv 3) (pa_cons (pe_tup (pa_cons (pv 4) (pa_cons (pv 5) (pa_cons (pv 6) pa_nil)))) pa_nil)))
      (pss_one (ps_set (i := 4) scpieces.nd rfl (.inl rfl) (pv 5)))))))
      (pss_one (ps_ret (pv 3)))))))), ?_⟩
    have le := TP.le
    have T := TP.tms
    refine ⟨_, rfl, p, w, rfl, hw, W, fun H1 s1 => ?_⟩
    have TA1 := TA.same s1
    obtain ⟨⟨dx, e1⟩, e2⟩ := id TA1
    refine ⟨_, rfl, x, dx, _, rfl, e1, by unfold tapsF; rw [lookup_putF, if_neg (by decide +kernel)]; rfl, x, la, ts, rfl, TA1, by omega, fun l H2 nl s2 el => ?_⟩
    have s12 := s1.trans s2
    refine ⟨lz (by show 0 ≤ 1000000; decide), fun D nD => ?_⟩
    have sD := sm (o := .lst []) nD
    have nDl : D ≠ l := (ne_of_none el nD).symm
    refine ⟨fun σ H3 => σ = [some (.ref x), some (.ref p), some (.ref l), some (.ref D), some (.int 0), none, none, none] ∧ H3 = upd H2 D (.lst []), ⟨rfl, rfl⟩, ?_⟩
    rintro σ H3 ⟨rfl, rfl⟩
    refine while_by (fun σ H3 => ∃ (b : Nat) (ys : List V) (L : List (Nat × Nat × List Int)) (y5 y6 y7 : Option V), σ = [some (.ref x), some (.ref p), some (.ref l), some (.ref D), some (.int (b : Int)), y5, y6, y7] ∧ b ≤ ts.length ∧ Same H H3 ∧ H3 l = some (.lst (ts.map V.int)) ∧ H3 D = some (.lst ys) ∧ PcsN H (hid D H3) ys L ∧ L.length ≤ b ∧ PiecesTo ts w L b) (fun σ _ => leftAt 4 ts.length σ) ?_ ?_ ?_
    · exact ⟨0, [], [], none, none, none, rfl, Nat.zero_le _, s12.trans sD, sD _ _ el, upd_same, ⟨rfl, fun i e h => by simp at h⟩, Nat.le_refl _, .nil⟩
    · rintro σ H3 ⟨b, ys, L, y5, y6, y7, rfl, hb, s3, el3, eD, pn, lL, pt⟩
      refine ⟨fun c H4 => H4 = H3 ∧ c = decide ((b : Int) < (((ts.map V.int).length : Nat) : Int)), ⟨_, rfl, _, rfl, l, _, rfl, .inl (SqL.of el3), _, _, rfl, rfl, _, rfl, rfl, rfl⟩, ?_⟩
      rintro c H4 ⟨rfl, rfl⟩
      refine ite2 (fun c => ?_) (fun c => ?_)
      · have c := of_decide_eq_true c
        rw [List.length_map] at c
        have c' : b < ts.length := by omega
        refine ⟨_, rfl, _, rfl, _, rfl, l, p, ts, b, w, rfl, SqL.of el3, T, c', same_tup s3 hw, W, fun e H4 be ee al mx s4 => ?_⟩
        refine ⟨_, rfl, _, rfl, _, rfl, l, ts, b, e, rfl, SqL.of (s4 _ _ el3), by omega, ee, le, fun pp xs H5 np s5 ep PA => ?_⟩
        have s45 := s4.trans s5
        refine ⟨_, rfl, pp, p, xs, b, _, w, rfl, SqL.of ep, PA, T.slice b e, by rw [slice_len ee (by omega)]; omega, same_tup (s3.trans s45) hw, W, fun r zs lo H6 nr s6 er en ob => ?_⟩
        have s46 := s45.trans s6
        obtain ⟨ks0, al0⟩ := al
        obtain ⟨el0, lo', rfl⟩ : ∃ e0 l', lo = e0 :: l' := by
          cases lo with
          | nil => exact absurd ((ob.iff ((widthOf (slice ts b e) ks0).1, ks0)).mpr ⟨al0, rfl⟩) List.not_mem_nil
          | cons e0 l' => exact ⟨e0, l', rfl⟩
        obtain ⟨T1, r1, q1, g1, g0, g2, g3, g4⟩ := en.2 0 _ rfl
        refine ⟨_, _, _, _, rfl, rfl, SqL.of er, aI (by decide) g1, T1, _, rfl, SqT.of g2, rfl, _, _, rfl, _, _, rfl, rfl, ?_⟩
        have eD6 := s46 _ _ eD
        refine ⟨_, rfl, ty_list eD6, _, rfl, _, rfl, _, rfl, lz (by show 3 ≤ 1000000; decide), fun t nt => ⟨D, ys, _, rfl, rfl, sm nt _ _ eD6, lz' (by rw [pn.1]; omega), ?_⟩⟩
        have st := sm (o := .tup [.int (b : Int), .int (e : Int), .ref r1]) nt
        have s4t := s46.trans st
        have nD0 : H D = none := s12.free nD
        refine ⟨_, rfl, ⟨e, _, L ++ [(b, e, el0.2)], _, _, _, rfl, ee, same_put (s3.trans s4t) nD0, by rw [upd_ne nDl.symm]; exact s4t _ _ el3, upd_same, ?_, by rw [List.length_append]; show L.length + 1 ≤ e; omega, .snoc pt ⟨be, ee, mx, el0.1, lo', ob⟩⟩, ?_⟩
        · rw [hid_upd]
          refine ⟨by rw [List.length_append, List.length_append, pn.1]; rfl, fun i u hu => ?_⟩
          by_cases hi : i < L.length
          · rw [List.getElem?_append_left hi] at hu
            obtain ⟨T2, r2, k1, k0, k2, k3⟩ := pn.2 i u hu
            exact ⟨T2, r2, by rw [List.getElem?_append_left (by rw [pn.1]; exact hi)]; exact k1, k0, same_hid s4t _ _ k2, same_hid s4t _ _ k3⟩
          · have e5 : i = L.length := by
              have := (List.getElem?_eq_some_iff.mp hu).1
              rw [List.length_append] at this
              simp at this
              omega
            subst e5
            rw [List.getElem?_append_right (Nat.le_refl _), Nat.sub_self] at hu
            cases hu
            refine ⟨t, r1, by rw [← pn.1, List.getElem?_append_right (Nat.le_refl _), Nat.sub_self]; rfl, (s3.trans s45).free g0, hid_new nt eD6 upd_same, ?_⟩
            exact hid_new g0 (s45 _ _ eD) (st _ _ g3)
        · rw [leftAt_of (k := e) rfl, leftAt_of (k := b) rfl]
          omega
      · have c : ¬ ((b : Int) < _) := fun z => c (decide_eq_true z)
        rw [List.length_map] at c
        have eb : b = ts.length := by omega
        subst eb
        exact ⟨_, rfl, q D ys L H4 (s12.free nD) s3 eD ⟨pn.1, fun i e h => by
          obtain ⟨T2, r2, k1, k0, k2, k3⟩ := pn.2 i e h
          exact ⟨T2, r2, k1, k0, (hid_some k2).2, (hid_some k3).2⟩⟩ pt⟩
    · rintro σ H1 Q1 Q2 hq ⟨M, h1, h2⟩
      exact ⟨M, h1, fun c H2 m => hq c H2 (h2 c H2 m)⟩
end
end KT
namespace KT
open PySem PySem.Spec PyProof.Rows L2
section
variable {P : Program} {w : World} {K : PySem.W.Frag} {mg : Str → Option Value} {base : Heap}
theorem Allowed.wider {b : Int} {ts ks : List Int} {v w : Fr} (T : Tms ts) (pos : 0 < ts.length) (V : Wid v) (W : Wid w) (le : leF v w) (a : Allowed b ts v ks) : Allowed b ts w ks := by
  obtain ⟨hr, hl, hw⟩ := (allowed_iff T pos V).mp a
  exact (allowed_iff T pos W).mpr ⟨hr, hl, leF.trans (width_ok (T.tr hr hl) pos).b0 V.pos W.pos hw le⟩
theorem Cut.wider {ts : List Int} {v w : Fr} (T : Tms ts) (V : Wid v) (W : Wid w) (le : leF v w) {k e : Nat} (c : Cut ts v k e) : Cut ts w k e := by
  induction c with
  | zero => exact .zero
  | step c h1 h2 h3 ih =>
    obtain ⟨ks, a⟩ := h3
    exact .step ih h1 h2 ⟨ks, a.wider (T.slice _ _) (by rw [slice_len h2 (Nat.le_of_lt h1)]; omega) V W le⟩
theorem PiecesTo.least {ts : List Int} {w : Fr} {L : List (Nat × Nat × List Int)} {k : Nat} (h : PiecesTo ts w L ts.length) (c : Cut ts w k ts.length) : L.length ≤ k := by
  rcases Nat.lt_or_ge k L.length with g | g
  · generalize ts.length = n at h c
    cases h with
    | nil => exact absurd g (by simp)
    | snoc h p =>
      rw [List.length_append] at g
      have := h.far c (by simp at g; omega)
      have := p.lt
      omega
  · exact g
theorem PiecesTo.nth {ts : List Int} {w : Fr} {L : List (Nat × Nat × List Int)} {n : Nat} (h : PiecesTo ts w L n) : ∀ i, i < L.length → ∃ (b e : Nat) (ks : List Int), L[i]? = some (b, e, ks) ∧ Piece ts w b e ks ∧ PiecesTo ts w (L.take i) b ∧ PiecesTo ts w (L.take (i + 1)) e := by
  induction h with
  | nil => exact fun i hi => absurd hi (by simp)
  | @snoc l b e ks h p ih =>
    intro i hi
    rw [List.length_append] at hi
    by_cases c : i < l.length
    · obtain ⟨b1, e1, k1, g1, g2, g3, g4⟩ := ih i c
      refine ⟨b1, e1, k1, by rw [List.getElem?_append_left c]; exact g1, g2, ?_, ?_⟩
      · rw [List.take_append_of_le_length (by omega)]
        exact g3
      · rw [List.take_append_of_le_length (by omega)]
        exact g4
    · have ei : i = l.length := by
        simp at hi
        omega
      subst ei
      refine ⟨b, e, ks, by rw [List.getElem?_append_right (Nat.le_refl _), Nat.sub_self]; rfl, p, ?_, ?_⟩
      · rw [List.take_append_of_le_length (Nat.le_refl _), List.take_length]
        exact h
      · rw [List.take_of_length_le (by rw [List.length_append]; simp)]
        exact .snoc h p
theorem inI_mem {k : Int} {ns : List Int} (h : k ∈ ns) : inV (.int k) (ns.map V.int) = true := by
  unfold inV
  rw [List.any_eq_true]
  refine ⟨.int k, List.mem_map.mpr ⟨k, h, rfl⟩, ?_⟩
  show (k == k) = true
  simp
theorem PcsN.hidN {H6 H7 H8 : Hp} {D : Addr} {acc : List V} {vs : List V} {l : List (Nat × Nat × List Int)} (en : PcsN H7 H8 vs l) (s7 : Same H6 H7) (s8 : Same H7 H8) (eD : H7 D = some (.lst acc)) : PcsN H6 (KT.hid D H8) vs l := ⟨en.1, fun j e he => by
  obtain ⟨T1, r1, g1, g0, g2, g3⟩ := en.2 j e he
  exact ⟨T1, r1, g1, s7.free g0, hid_tup (s8 _ _ eD) g2, hid_new g0 eD g3⟩⟩
theorem PcsN.sameN {H H1 H2 : Hp} {vs : List V} {l : List (Nat × Nat × List Int)} (en : PcsN H H1 vs l) (s : Same H1 H2) : PcsN H H2 vs l := ⟨en.1, fun j e he => by
  obtain ⟨T1, r1, g1, g0, g2, g3⟩ := en.2 j e he
  exact ⟨T1, r1, g1, g0, s _ _ g2, s _ _ g3⟩⟩
theorem ok_law {f C : Addr} {fd : FuncData} (F : FunD K "law" "law" (defArgs slaw) (defBody slaw) (defScope slaw) [] [] f fd)
    (G_law_dice : KDef P w K mg base CX0 1 "_law_dice" ["_law_script", "_law_k"] (spDice K)) (G_law_off : KDef P w K mg base CX0 1 "_law_off" ["_law_d", "_law_most"] spOff) (G_law_times : KDef P w K mg base CX0 3 "_law_times" ["_law_d", "_law_most"] spTimes)
    (G_law_kinds : KDef P w K mg base CX0 1 "_law_kinds" ["_law_at"] spKinds) (G_law_width : KDef P w K mg base CX0 3 "_law_width" ["_law_times_here", "_law_reading_here"] (spWidthQ K))
    (GTaps : KMake P w K mg base CX0 C 2 "Taps" ["self", "times"] (spTapsInit K C)) (G_law_some_width : KDef P w K mg base CX0 2 "_law_some_width" ["_law_d"] spSomeW) (G_law_less : KDef P w K mg base CX0 1 "_law_less" ["_law_one", "_law_other"] (spLess K))
    (Gpieces : KDef P w K mg base CX0 5 "pieces" ["taps", "width"] (spPieces K C)) (G_law_allows : KDef P w K mg base CX0 4 "_law_allows" ["_law_begin", "_law_times_here", "_law_width_here"] (spAllows K))
    (m_len : mg "len" = none) (m_range : mg "range" = none) (m_int : mg "int" = none) (m_isinstance : mg "isinstance" = none) (m_tuple : mg "tuple" = none) :
    FnOk P w K mg base CX0 6 f fd ["_law_script"] (spLaw K) := by
  refine F.ok sclaw (fun vs H Q E h => ?_) (fun cdv A outer s H vs Q E hr h => ?_)
  · obtain ⟨a, ns, rfl, _⟩ := h
    rfl
  · obtain ⟨a, ns, rfl, hS, hl, q⟩ := h
    refine ⟨_, PSs.nox (pss_cons (ps_set (i := 1) sclaw.nd rfl (.inl rfl) (pe_callD G_law_dice (hr.mono (by decide)) (by rfl) (pa_cons (pv 0) (pa_cons pe_int pa_nil))))
      (C8.pss_cut (ps_set (i := 2) sclaw.nd rfl (.inr rfl) (pe_callD G_law_times (hr.mono (by decide)) (by rfl) (pa_cons (pv 1) (pa_cons (pe_ix (ix_listK (K := K) rfl) (pe_lst (pa_cons pe_int (pa_cons pe_int pa_nil))) (pe_callTy call_int1 (by rfl) m_int (by decide +kernel) (pa_cons (pe_cmpR op_eq (pe_callD G_law_off (hr.mono (by decide)) (by rfl) (pa_cons (pv 1) (pa_cons pe_int pa_nil))) pe_int (nomark _)) pa_nil)) (fun _ _ => rfl)) pa_nil))))
      (C8.pss_cut (ps_set (i := 3) sclaw.nd rfl (.inl rfl) (pe_lst (pa_cons (pe_callD G_law_some_width (hr.mono (by decide)) (by rfl) (pa_cons (pv 1) pa_nil)) (pa_cons (pe_callD G_law_some_width (hr.mono (by decide)) (by rfl) (pa_cons (pv 1) pa_nil)) pa_nil))))
      (C8.pss_cut (ps_if (pt_val (pe_callD G_law_less (hr.mono (by decide)) (by rfl) (pa_cons (pe_ix (ix_listK (K := K) rfl) (pv 3) pe_int (fun _ _ => rfl)) (pa_cons (pe_ix (ix_listK (K := K) rfl) (pv 3) pe_int (fun _ _ => rfl)) pa_nil))))
      (pss_one (ps_set (i := 3) sclaw.nd rfl (.inl rfl) (pe_revLK (K := K) rfl (pv 3))))
      pss_nil)
      (C8.pss_cut (ps_asg (pe_lc (own := [("_law_width_here", 9)]) (g := gName 9) (tt := tYes) rfl sclaw.nd (pi_listK (K := K) rfl (pv 3)) (blkOk_by (own := [("_law_width_here", 9)]) (N := ["_law_script", "_law_d", "_law_times_here", "_law_widths", "_law_few", "_law_more", "_law_begin", "_law_piece", "_law_row", "_law_width_here", "_law_k"]) (sc := defScope slaw) (by decide +kernel)) (fun _ _ _ _ _ => (pg_name (i := 9) sclaw.nd rfl (.inl rfl) (.inr rfl))) (fun _ _ _ _ _ => pts_nil) (fun _ _ _ _ _ => (pe_callD Gpieces (hr.mono (by decide)) (by rfl) (pa_cons (pe_makeD GTaps (hr.mono (by decide)) (by rfl) (pa_cons (pv 2) pa_nil)) (pa_cons (pv 9) pa_nil))))) (pg_lstK (K := K) rfl rfl (pgs_cons (pg_name (i := 4) sclaw.nd rfl (.inl rfl)) (pgs_cons (pg_name (i := 5) sclaw.nd rfl (.inl rfl)) pgs_nil))))
      (C8.pss_cut (ps_if (pt_cmpR op_gt (pe_callB (call_len_seqK (K := K) rfl) (by rfl) m_len (by decide +kernel) (pa_cons (pv 5) pa_nil)) (pe_callB (call_len_seqK (K := K) rfl) (by rfl) m_len (by decide +kernel) (pa_cons (pv 4) pa_nil)) (nomark _))
      (pss_one (ps_ret pe_bl))
      pss_nil)
      (pss_cons (ps_set (i := 6) sclaw.nd rfl (.inr rfl) pe_int)
      (C8.pss_cut (ps_for PassesOwn.never rfl (pi_listK (K := K) rfl (pv 4)) (pg_name (i := 7) sclaw.nd rfl (.inl rfl))
      (C8.pss_cut (ps_if (PW.pt (pw_or (pt_not (pt_val (pe_callB (call_isiK (K := K) rfl) (by rfl) m_isinstance (by decide +kernel) (pa_cons (pv 7) (pa_cons (pe_bltn (v := .ty "tuple") (u := .type "tuple") (by rfl) m_tuple (by decide +kernel) rfl) pa_nil))))) (pw_or1 (pt_cmpR op_ne (pe_callB (call_len_seqK (K := K) rfl) (by rfl) m_len (by decide +kernel) (pa_cons (pv 7) pa_nil)) pe_int (nomark _)))))
      (pss_one (ps_ret pe_bl))
      pss_nil)
      (C8.pss_cut (ps_if (PW.pt (pw_or (pt_cmpR op_ne (pe_ix (ix_tupK (K := K) rfl) (pv 7) pe_int (fun _ _ => rfl)) (pv 6) (nomark _)) (pw_or1 (pt_not (pt_chain op_lt op_le (pv 6) (pe_ix (ix_tupK (K := K) rfl) (pv 7) pe_int (fun _ _ => rfl)) (pe_callB (call_len_seqK (K := K) rfl) (by rfl) m_len (by decide +kernel) (pa_cons (pv 2) pa_nil)))))))
      (pss_one (ps_ret pe_bl))
      pss_nil)
      (pss_cons (ps_set (i := 8) sclaw.nd rfl (.inr rfl) (pe_ix (ix_tupK (K := K) rfl) (pv 7) pe_int (fun _ _ => rfl)))
      (C8.pss_cut (ps_if (pt_cmpR op_ne (pe_callB (call_len_seqK (K := K) rfl) (by rfl) m_len (by decide +kernel) (pa_cons (pv 8) pa_nil)) (pe_op op_sub (pe_ix (ix_tupK (K := K) rfl) (pv 7) pe_int (fun _ _ => rfl)) (pv 6)) (nomark _))
      (pss_one (ps_ret pe_bl))
      pss_nil)
      (C8.pss_cut (ps_if (pt_cmpR (op_neDK hr.units (K := K) rfl) (pe_lc (own := [("_law_k", 10)]) (g := gName 10) rfl sclaw.nd (pi_range1 rfl m_range (pa_cons (pe_callB (call_len_seqK (K := K) rfl) (by rfl) m_len (by decide +kernel) (pa_cons (pv 8) pa_nil)) pa_nil)) (blkOk_by (own := [("_law_k", 10)]) (N := ["_law_script", "_law_d", "_law_times_here", "_law_widths", "_law_few", "_law_more", "_law_begin", "_law_piece", "_law_row", "_law_width_here", "_law_k"]) (sc := defScope slaw) (by decide +kernel)) (fun _ _ _ _ _ => (pg_name (i := 10) sclaw.nd rfl (.inl rfl) (.inr rfl))) (fun _ _ _ _ _ => (pts_one (pt_cmpR (op_notIn_seqK (K := K) rfl) (pe_ix (ix_listK (K := K) rfl) (pv 8) (pv 10) (fun _ _ => rfl)) (pe_callD G_law_kinds (hr.mono (by decide)) (by rfl) (pa_cons (pe_op op_add (pv 6) (pv 10)) pa_nil)) (by rfl)))) (fun _ _ _ _ _ => (pv 10))) (pe_lst pa_nil) (nomark _))
      (pss_one (ps_ret pe_bl))
      pss_nil)
      (C8.pss_cut (ps_if (pt_val (pe_callD G_law_less (hr.mono (by decide)) (by rfl) (pa_cons (pe_ix (ix_listK (K := K) rfl) (pv 3) pe_int (fun _ _ => rfl)) (pa_cons (pe_ix (ix_tupK (K := K) rfl) (pe_callD G_law_width (hr.mono (by decide)) (by rfl) (pa_cons (pe_slice (sl_listK (K := K) rfl) (pv 2) (po_some (pv 6)) (po_some (pe_ix (ix_tupK (K := K) rfl) (pv 7) pe_int (fun _ _ => rfl)))) (pa_cons (pv 8) pa_nil))) pe_int (fun _ _ => rfl)) pa_nil))))
      (pss_one (ps_ret pe_bl))
      pss_nil)
      (C8.pss_cut (ps_if (PW.pt (pw_and (pt_cmpR op_lt (pe_ix (ix_tupK (K := K) rfl) (pv 7) pe_int (fun _ _ => rfl)) (pe_callB (call_len_seqK (K := K) rfl) (by rfl) m_len (by decide +kernel) (pa_cons (pv 2) pa_nil)) (nomark _)) (pw_and1 (pt_val (pe_callD G_law_allows (hr.mono (by decide)) (by rfl) (pa_cons (pv 6) (pa_cons (pe_slice (sl_listK (K := K) rfl) (pv 2) (po_some (pv 6)) (po_some (pe_op op_add (pe_ix (ix_tupK (K := K) rfl) (pv 7) pe_int (fun _ _ => rfl)) pe_int))) (pa_cons (pe_ix (ix_listK (K := K) rfl) (pv 3) pe_int (fun _ _ => rfl)) pa_nil))))))))
      (pss_one (ps_ret pe_bl))
      pss_nil)
      (pss_one (ps_set (i := 6) sclaw.nd rfl (.inr rfl) (pe_ix (ix_tupK (K := K) rfl) (pv 7) pe_int (fun _ _ => rfl))))))))))))
      (pss_one (ps_ret (pe_cmpR op_eq (pv 6) (pe_callB (call_len_seqK (K := K) rfl) (by rfl) m_len (by decide +kernel) (pa_cons (pv 2) pa_nil)) (nomark _)))))))))))), ?_⟩
    refine ⟨_, rfl, a, ns, rfl, hS, hl, fun d H1 nd s1 dd => ?_⟩
    refine ⟨fun σ H3 => ∃ (ts : List Int) (pt : Addr), σ = [some (.ref a), some (.ref d), some (.ref pt), none, none, none, none, none, none, none, none] ∧ Tps ts ∧ H3 pt = some (.lst (ts.map V.int)) ∧ Dice H3 d ∧ pt ≠ d, ?_, ?_⟩
    · refine ⟨_, rfl, lz (by show 2 ≤ 1000000; decide), fun l nl => ?_⟩
      refine ⟨_, rfl, d, _, rfl, dd.same (sm nl), by decide, by decide, fun r H2 r0 r1 d2 k2 => ?_⟩
      have n1 : l ≠ d := dd.ne nl
      obtain ⟨mm, em, m0, m1⟩ : ∃ mm : Int, atI [V.int 9, V.int 25] (if decide (V.int r = V.int 0) = true then 1 else 0) = some (V.int mm) ∧ 1 ≤ mm ∧ mm ≤ 25 := by
        rw [pick2]
        cases decide (V.int r = V.int 0) with
        | false => exact ⟨9, rfl, by decide, by decide⟩
        | true => exact ⟨25, rfl, by decide, by decide⟩
      refine ⟨rfl, .inr ⟨_, rfl, _, _, _, _, rfl, rfl, SqL.of (k2 _ _ n1 upd_same), em, ?_⟩⟩
      exact ⟨d, mm, rfl, d2, m0, m1, fun ts pt H3 T tl npt ept d3 k3 => ⟨ts, pt, rfl, T, ept, d3, d2.ne npt⟩⟩
    rintro σ H3 ⟨ts, pt, rfl, T, ept, d3, nptd⟩
    clear dd s1 nd
    have le := T.le
    have pos := T.pos
    have TM := T.tms
    -- two widths
    refine ⟨fun σ H5 => ∃ (L p1 p2 : Addr) (f1 f2 : Fr), σ = [some (.ref a), some (.ref d), some (.ref pt), some (.ref L), none, none, none, none, none, none, none] ∧ H5 L = some (.lst [.ref p1, .ref p2]) ∧ H5 p1 = some (.tup (frV f1)) ∧ H5 p2 = some (.tup (frV f2)) ∧ Wid f1 ∧ Wid f2 ∧ H5 pt = some (.lst (ts.map V.int)), ?_, ?_⟩
    · refine ⟨_, rfl, d, rfl, d3, fun f1 p1 H5 W1 _ np1 ep1 d5 k5 => ⟨_, rfl, d, rfl, d5, fun f2 p2 H6 W2 _ np2 ep2 d6 k6 => ⟨lz (Nat.le_of_ble_eq_true rfl), fun L nL => ?_⟩⟩⟩
      have sL := sm (o := .lst [.ref p1, .ref p2]) nL
      exact ⟨L, p1, p2, f1, f2, rfl, upd_same, sL _ _ (k6 _ _ (d3.ne np1) ep1), sL _ _ ep2, W1, W2, sL _ _ (k6 _ _ nptd (k5 _ _ nptd ept))⟩
    rintro σ H5 ⟨L0, p10, p20, f10, f20, rfl, eL0, e10, e20, W10, W20, ept5⟩
    refine ⟨fun σ H6 => ∃ (L p1 p2 : Addr) (f1 f2 : Fr), σ = [some (.ref a), some (.ref d), some (.ref pt), some (.ref L), none, none, none, none, none, none, none] ∧ H6 L = some (.lst [.ref p1, .ref p2]) ∧ H6 p1 = some (.tup (frV f1)) ∧ H6 p2 = some (.tup (frV f2)) ∧ Wid f1 ∧ Wid f2 ∧ H6 pt = some (.lst (ts.map V.int)) ∧ leF f1 f2, ?_, ?_⟩
    · have a1 := W10.lo
      have a2 := W10.lt
      have a3 := W10.le
      have b1 := W20.lo
      have b2 := W20.lt
      have b3 := W20.le
      refine ⟨_, rfl, _, _, _, _, rfl, rfl, SqL.of eL0, aI (by decide) rfl, _, rfl, _, _, _, _, rfl, rfl, SqL.of eL0, aI (by decide) rfl, p20, p10, f20, f10, rfl, SqT.of e20, SqT.of e10, ⟨by omega, by omega⟩, ⟨by omega, by omega⟩, _, rfl, ite2 (fun z => ?_) (fun z => ?_)⟩
      · have z := of_decide_eq_true z
        refine ⟨_, rfl, L0, _, rfl, SqL.of eL0, fun L nL => ?_⟩
        have sL := sm (o := .lst [.ref p20, .ref p10]) nL
        exact ⟨L, p20, p10, f20, f10, rfl, upd_same, sL _ _ e20, sL _ _ e10, W20, W10, sL _ _ ept5, Int.le_of_lt z⟩
      · exact ⟨L0, p10, p20, f10, f20, rfl, eL0, e10, e20, W10, W20, ept5, Int.not_lt.mp fun h => z (decide_eq_true h)⟩
    clear W10 W20 ept5 eL0 e10 e20
    rintro σ H6 ⟨L, p1, p2, f1, f2, rfl, eL, e1, e2, W1, W2, ept6, le12⟩
    -- few, more
    refine ⟨fun σ H7 => ∃ (r1 r2 : Addr) (y1 y2 : List V) (l1 l2 : List (Nat × Nat × List Int)), σ = [some (.ref a), some (.ref d), some (.ref pt), some (.ref L), some (.ref r1), some (.ref r2), none, none, none, none, none] ∧ Same H6 H7 ∧ H7 r1 = some (.lst y1) ∧ PcsN H6 H7 y1 l1 ∧ PiecesTo ts f1 l1 ts.length ∧ H7 r2 = some (.lst y2) ∧ y2.length = l2.length ∧ PiecesTo ts f2 l2 ts.length, ?_, ?_⟩
    · refine ⟨_, rfl, L, rfl, ⟨_, SqL.of eL⟩, fun D nD => ?_⟩
      refine lc_h walk_list (fun i v H => ∃ (r : Addr) (ys : List V) (l : List (Nat × Nat × List Int)), v = .ref r ∧ H r = some (.lst ys) ∧ PcsN H6 H ys l ∧ ((i = 0 → PiecesTo ts f1 l ts.length) ∧ (i = 1 → PiecesTo ts f2 l ts.length))) (fun i v H H' s h => by
        obtain ⟨r, ys, l, g1, g3, g4, g5⟩ := h
        exact ⟨r, ys, l, g1, s _ _ g3, g4.sameN s, g5⟩) nD (Nat.le_of_ble_eq_true rfl) (fun H1 s1 => s1.seq (SqL.of eL)) ?_ ?_
      · rintro i y H7x H7 acc k hi s7 eD lac pe ⟨rfl, hy⟩ fin
        have ey : ∃ (p : Addr) (f : Fr), y = .ref p ∧ H7 p = some (.tup (frV f)) ∧ Wid f ∧ (i = 0 → f = f1) ∧ (i = 1 → f = f2) := by
          match i, hi, hy with
          | 0, _, hy =>
            cases hy
            exact ⟨p1, f1, rfl, s7 _ _ e1, W1, fun _ => rfl, fun h => absurd h (by decide)⟩
          | 1, _, hy =>
            cases hy
            exact ⟨p2, f2, rfl, s7 _ _ e2, W2, fun h => absurd h (by decide), fun _ => rfl⟩
          | i + 2, hi, _ => exact absurd hi (by simp)
        obtain ⟨p, f, rfl, ep, W, f0, f1'⟩ := ey
        refine ⟨rfl, _, rfl, fun x dx nx ndx ne => ?_⟩
        have sB : Same H7 (upd (upd H7 dx (.own x)) x (.ins C dx [])) := (sm (o := .own x) ndx).trans (sm (o := .ins C dx []) (by rw [upd_ne ne.symm]; exact nx))
        refine ⟨x, pt, dx, ts, rfl, upd_same, SqL.of (sB _ _ (s7 _ _ ept6)), T, fun la H8 nl keep tat => ?_⟩
        have s8 : Same H7 H8 := fun b o e => keep b o (ne_of_none e nx) (sB _ _ e)
        refine ⟨rfl, _, rfl, x, p, la, ts, f, rfl, tat, T, SqT.of (s8 _ _ ep), W, fun r ys l H9 nr s9 er en pt9 => ?_⟩
        have s79 := s8.trans s9
        refine fin _ _ s79 ⟨r, ys, l, rfl, hid_new (s8.free nr) eD er, ?_, fun h => by rw [← f0 h]; exact pt9, fun h => by rw [← f1' h]; exact pt9⟩
        exact PcsN.hidN en (s7.trans s8) s9 (s8 _ _ eD)
      · intro H7 zs s7 eD lzs pe
        match zs, lzs with
        | [z1, z2], _ =>
          obtain ⟨r1, y1, l1, rfl, e1, en1, ob1, _⟩ := pe 0 _ rfl
          obtain ⟨r2, y2, l2, rfl, e2, en2, _, ob2⟩ := pe 1 _ rfl
          exact ⟨D, _, rfl, SqL.of eD, rfl, _, _, rfl, _, _, rfl, rfl, r1, r2, y1, y2, l1, l2, rfl, s7, (hid_some e1).2, en1.sameN hid_same, ob1 rfl, (hid_some e2).2, en2.1, ob2 rfl⟩
    rintro σ H7 ⟨r1, r2, y1, y2, l1, l2, rfl, s7, er1, en1, ob1, er2, ly2, ob2⟩
    have ly1 := en1.1
    have few := ob2.least (ob1.cut.wider TM W1 W2 le12)
    have many := ob1.lens.1
    have eL7 := s7 _ _ eL
    have e17 := s7 _ _ e1
    have ept7 := s7 _ _ ept6
    clear eL e1 e2 ob2 ept6
    have lo := W1.lo
    have hi := W1.lt
    have hh := W1.le
    refine ⟨fun σ H8 => σ = [some (.ref a), some (.ref d), some (.ref pt), some (.ref L), some (.ref r1), some (.ref r2), none, none, none, none, none] ∧ H8 = H7, ?_, ?_⟩
    · refine ⟨_, rfl, r2, _, rfl, .inl (SqL.of er2), _, rfl, r1, _, rfl, .inl (SqL.of er1), _, _, rfl, rfl, _, rfl, ite2 (fun z => ?_) (fun _ => ⟨rfl, rfl⟩)⟩
      have := of_decide_eq_true z
      omega
    rintro σ H8 ⟨rfl, rfl⟩
    -- the pieces
    refine ⟨fun σ H9 => ∃ (y7 y8 : Option V), σ = [some (.ref a), some (.ref d), some (.ref pt), some (.ref L), some (.ref r1), some (.ref r2), some (.int (ts.length : Int)), y7, y8, none, none] ∧ Same H8 H9, ?_, ?_⟩
    · refine ⟨_, rfl, r1, rfl, ⟨_, SqL.of er1⟩, for_it walk_list (fun i σ H9 => ∃ (bg : Nat) (y7 y8 : Option V), σ = [some (.ref a), some (.ref d), some (.ref pt), some (.ref L), some (.ref r1), some (.ref r2), some (.int (bg : Int)), y7, y8, none, none] ∧ Same H8 H9 ∧ PiecesTo ts f1 (l1.take i) bg) ⟨0, none, none, rfl, Same.refl _, .nil⟩ (fun i σ H9 _ ⟨_, _, _, _, s9, _⟩ => SqL.of (s9 _ _ er1)) ?_ ?_⟩
      · rintro i y σ Hx H9 hi ⟨bg, y7, y8, rfl, s9, pg⟩ ⟨rfl, hy⟩
        obtain ⟨b, e, ks, hl, pc, pb, pe⟩ := ob1.nth i (by omega)
        obtain ⟨-, rfl⟩ := pb.at pg rfl
        obtain ⟨T1, r, g1, g0, g2, g3⟩ := en1.2 i _ hl
        rw [hy] at g1
        cases g1
        have eT : H9 T1 = some (.tup [.int (bg : Int), .int (e : Int), .ref r]) := s9 _ _ g2
        have blt := pc.lt
        have ble := pc.le
        have al := pc.al
        have lks : ks.length = e - bg := by rw [al.len, slice_len ble (Nat.le_of_lt blt)]
        refine ⟨fun σ H10 => σ = [some (.ref a), some (.ref d), some (.ref pt), some (.ref L), some (.ref r1), some (.ref r2), some (.int (bg : Int)), some (.ref T1), y8, none, none] ∧ H9 = H10, ?_, ?_⟩
        · refine ⟨_, rfl, _, _, _, _, _, rfl, .ty _, tyx_tup (SqT.of eT), kit_ty (r := true) (by decide +kernel), _, rfl, iteF ?_⟩
          exact ⟨_, rfl, T1, _, rfl, .inr (SqT.of eT), rfl, _, rfl, iteF ⟨rfl, rfl⟩⟩
        rintro σ H10 ⟨rfl, rfl⟩
        refine ⟨fun σ H10 => σ = [some (.ref a), some (.ref d), some (.ref pt), some (.ref L), some (.ref r1), some (.ref r2), some (.int (bg : Int)), some (.ref T1), y8, none, none] ∧ H9 = H10, ?_, ?_⟩
        · refine ⟨_, rfl, _, _, _, _, rfl, rfl, SqT.of eT, aI (by decide) rfl, _, rfl, rfl, _, rfl, iteNS rfl ?_⟩
          refine ⟨_, rfl, _, rfl, _, _, _, _, rfl, rfl, SqT.of eT, aI (by decide) rfl, _, _, rfl, rfl, ?_⟩
          refine ⟨_, rfl, iteP (decide_eq_true (show (bg : Int) < (e : Int) by omega)) ?_⟩
          refine ⟨_, rfl, pt, _, rfl, .inl (SqL.of (s9 _ _ ept7)), _, _, rfl, rfl, _, rfl, ?_⟩
          refine iteQ ?_ ⟨rfl, rfl⟩
          rw [decide_eq_true (show (e : Int) ≤ ((ts.map V.int).length : Int) by rw [List.length_map]; omega)]
          rfl
        rintro σ H10 ⟨rfl, rfl⟩
        refine ⟨_, rfl, _, _, _, _, rfl, rfl, SqT.of eT, aI (by decide) rfl, ?_⟩
        have er : H9 r = some (.lst (ks.map V.int)) := s9 _ _ g3
        refine ⟨fun σ H10 => σ = [some (.ref a), some (.ref d), some (.ref pt), some (.ref L), some (.ref r1), some (.ref r2), some (.int (bg : Int)), some (.ref T1), some (.ref r), none, none] ∧ H9 = H10, ?_, ?_⟩
        · refine ⟨_, rfl, r, _, rfl, .inl (SqL.of er), _, rfl, _, _, _, _, rfl, rfl, SqT.of eT, aI (by decide) rfl, _, rfl, _, _, rfl, rfl, rfl, _, rfl, ?_⟩
          refine iteNS ?_ ⟨rfl, rfl⟩
          show V.int ((ks.map V.int).length : Int) = V.int ((e : Int) - (bg : Int))
          rw [List.length_map, lks, Int.ofNat_sub (Nat.le_of_lt blt)]
        rintro σ H10 ⟨rfl, rfl⟩
        refine ⟨fun σ H10 => σ = [some (.ref a), some (.ref d), some (.ref pt), some (.ref L), some (.ref r1), some (.ref r2), some (.int (bg : Int)), some (.ref T1), some (.ref r), none, none] ∧ Same H9 H10, ?_, ?_⟩
        · refine ⟨_, rfl, r, _, rfl, .inl (SqL.of er), _, rfl, by omega, by rw [List.length_map]; omega, fun D nD => ?_⟩
          refine lc_it walk_range (fun i H11 => Same H9 H11 ∧ H11 D = some (.lst [])) ⟨sm nD, upd_same⟩ (fun _ _ _ _ => trivial) ?_ ?_
          · rintro k x H11 H11' hk ⟨s11, eD⟩ ⟨rfl, rfl⟩
            rw [List.length_map] at hk
            have hk' : k < ks.length := by omega
            have kk := get_at hk'
            have rk := al.rd k _ kk
            refine ⟨rfl, _, rfl, _, rfl, _, _, _, _, rfl, rfl, SqL.of (s11 _ _ er), aI (by omega) (by rw [Int.zero_add, Int.toNat_natCast]; exact at_int kk), _, rfl, _, rfl, _, _, rfl, rfl, _, rfl, fun K1 H12 nK1 s12 eK1 => ?_⟩
            refine ⟨K1, _, rfl, .inl (SqL.of eK1), rfl, flat_ints _, _, rfl, iteQ ?_ ⟨s11.trans s12, s12 _ _ eD⟩⟩
            rw [Int.zero_add, inI_mem rk]
            rfl
          · rintro H11 ⟨s11, eD⟩
            refine ⟨lz (by show 0 ≤ 1000000; decide), fun N nN => ?_⟩
            have sN := sm (o := .lst []) nN
            refine ⟨.list [], .list [], .lst (SqL.of (sN _ _ eD)) .nil, .lst (SqL.of upd_same) .nil, by simp [SeqAt.shaped, PyData.canLay0, PyData.canLayAll0, PyData.depth, PyData.depthAll], by simp [SeqAt.shaped, PyData.canLay0, PyData.canLayAll0, PyData.depth, PyData.depthAll], _, rfl, iteQ ?_ ⟨rfl, s11.trans sN⟩⟩
            simp [PyData.eqv, PyData.eqvAll]
        rintro σ H10 ⟨rfl, s10⟩
        refine ⟨fun σ H10 => σ = [some (.ref a), some (.ref d), some (.ref pt), some (.ref L), some (.ref r1), some (.ref r2), some (.int (bg : Int)), some (.ref T1), some (.ref r), none, none] ∧ Same H9 H10, ?_, ?_⟩
        · refine ⟨_, rfl, _, _, _, _, rfl, rfl, SqL.of (s10 _ _ (s9 _ _ eL7)), aI (by decide) rfl, ?_⟩
          refine ⟨_, rfl, _, rfl, _, rfl, _, rfl, _, _, _, _, rfl, rfl, SqT.of (s10 _ _ eT), aI (by decide) rfl, _, rfl, pt, _, rfl, SqL.of (s10 _ _ (s9 _ _ ept7)), fun pl npl => ?_⟩
          rw [cut_slice ts (Nat.le_of_lt blt) ble]
          have spl := sm (o := .lst ((slice ts bg e).map V.int)) npl
          have TS := TM.slice bg e
          have lS : (slice ts bg e).length = e - bg := slice_len ble (Nat.le_of_lt blt)
          have tr := TS.tr al.rd al.len
          have posS : 0 < (slice ts bg e).length := by omega
          refine ⟨_, rfl, pl, r, slice ts bg e, ks, rfl, ⟨SqL.of upd_same, .inl (SqL.of (spl _ _ (s10 _ _ er))), tr⟩, posS, fun wp H11 s11 wa => ?_⟩
          obtain ⟨x1, x2, w1, w2, w3⟩ := wa.ex
          have ok := width_ok tr posS
          have o1 := ok.t0
          have o2 := ok.t1
          have s911 := (s10.trans spl).trans s11
          have near := al.width TS posS W1
          refine ⟨_, _, _, _, rfl, rfl, SqT.of w1, aI (by decide) rfl, p1, x1, f1, (widthOf (slice ts bg e) ks).1, rfl, SqT.of (s911 _ _ (s9 _ _ e17)), SqT.of w2, ⟨by omega, by omega⟩, ⟨by omega, by omega⟩, _, rfl, iteQ (decide_eq_false (Int.not_lt.mpr near)) ⟨rfl, s911⟩⟩
        rintro σ H11 ⟨rfl, s11⟩
        refine ⟨fun σ H10 => σ = [some (.ref a), some (.ref d), some (.ref pt), some (.ref L), some (.ref r1), some (.ref r2), some (.int (bg : Int)), some (.ref T1), some (.ref r), none, none] ∧ Same H9 H10, ?_, ?_⟩
        · refine ⟨_, rfl, _, _, _, _, rfl, rfl, SqT.of (s11 _ _ eT), aI (by decide) rfl, _, rfl, pt, _, rfl, .inl (SqL.of (s11 _ _ (s9 _ _ ept7))), _, _, rfl, rfl, _, rfl, ite2 (fun z => ?_) (fun _ => ⟨rfl, s11⟩)⟩
          have z := of_decide_eq_true z
          rw [List.length_map] at z
          have hlt : e < ts.length := by omega
          refine ⟨_, rfl, _, rfl, _, rfl, _, rfl, _, rfl, _, _, _, _, rfl, rfl, SqT.of (s11 _ _ eT), aI (by decide) rfl, _, _, rfl, rfl, _, rfl, pt, _, rfl, SqL.of (s11 _ _ (s9 _ _ ept7)), fun pl npl => ?_⟩
          have e1 : ((e : Int) + 1) = ((e + 1 : Nat) : Int) := by omega
          rw [e1, cut_slice ts (by omega) hlt]
          have spl := sm (o := .lst ((slice ts bg (e + 1)).map V.int)) npl
          have s10' := s11.trans spl
          refine ⟨_, rfl, _, _, _, _, rfl, rfl, SqL.of (s10' _ _ (s9 _ _ eL7)), aI (by decide) rfl, ?_⟩
          exact ⟨bg, pl, p1, slice ts bg (e + 1), f1, rfl, SqL.of upd_same, TM.slice bg (e + 1), by rw [slice_len hlt (by omega)]; omega, SqT.of (s10' _ _ (s9 _ _ e17)), W1, pc.max hlt, fun H12 s12 => ⟨_, rfl, iteQ rfl ⟨rfl, s10'.trans s12⟩⟩⟩
        rintro σ H12 ⟨rfl, s12⟩
        exact ⟨_, rfl, _, _, _, _, rfl, rfl, SqT.of (s12 _ _ eT), aI (by decide) rfl, e, _, _, rfl, s9.trans s12, pe⟩
      · rintro σ H9 ⟨bg, y7, y8, rfl, s9, pg⟩
        have e : l1.take y1.length = l1 := List.take_of_length_le (by omega)
        rw [e] at pg
        obtain ⟨-, rfl⟩ := ob1.at pg rfl
        exact ⟨_, _, rfl, s9⟩
    rintro σ H9 ⟨y7, y8, rfl, s9⟩
    refine ⟨_, rfl, _, rfl, pt, _, rfl, .inl (SqL.of (s9 _ _ ept7)), rfl, ?_⟩
    have : decide (V.int (ts.length : Int) = V.int ((ts.map V.int).length : Int)) = true := decide_eq_true (by rw [List.length_map])
    rw [this]
    exact q _
end
end KT
namespace KT
open PySem PySem.Spec PyProof.Rows L2
/-! ### the head -/
def fnL : List He.DefD := [dfn "_law_dice" s_law_dice, dfn "_law_off" s_law_off, dfn "_law_kinds" s_law_kinds, dfn "_law_reading" s_law_reading, dfn "_law_times" s_law_times, dfn "_law_low" s_law_low, dfn "_law_less" s_law_less, dfn "_law_asks" s_law_asks, dfn "_law_width" s_law_width, dfn "_law_some_width" s_law_some_width, dfn "_law_allows" s_law_allows, dfn "check_times" scheck_times, dfn "check_width" scheck_width, dfn "lowest" slowest, dfn "is_above" sis_above, dfn "asked" sasked, dfn "asked_by_pairs" sasked_by_pairs, dfn "least_asked" sleast_asked, dfn "parts_between" sparts_between, dfn "number_by" snumber_by, dfn "reading_by" sreading_by, dfn "least_units" sleast_units, dfn "allowed_readings" sallowed_readings, dfn "common_bottom" scommon_bottom, dfn "in_order" sin_order, dfn "piece_end" spiece_end, dfn "pieces" spieces, dfn "law" slaw, dfm "Taps" "__init__" "Taps.__init__" sTaps___init__, dfm "Taps" "times" "Taps.times" sTaps_times]
def faL : List He.Fa := [.glo "_law_dice", .glo "_law_off", .glo "_law_kinds", .glo "_law_reading", .glo "_law_times", .glo "_law_low", .glo "_law_less", .glo "_law_asks", .glo "_law_width", .glo "_law_some_width", .glo "_law_allows", .glo "check_times", .glo "check_width", .glo "lowest", .glo "is_above", .glo "asked", .glo "asked_by_pairs", .glo "least_asked", .glo "parts_between", .glo "number_by", .glo "reading_by", .glo "least_units", .glo "allowed_readings", .glo "common_bottom", .glo "in_order", .glo "piece_end", .glo "pieces", .glo "law", .free "abs", .free "enumerate", .free "int", .free "isinstance", .free "len", .free "list", .free "max", .free "min", .free "range", .free "sorted", .free "tuple", .free "zip", .int "LONGEST" 9999, .int "MOST_TIMES" 25, .int "SHORTEST" 1, .glo "NUMBERS", .glo "Taps", .cls "Taps", .noat "Taps" "_times", .mkr "Taps", .meth "Taps" "times"]
def exL (K : PySem.W.Frag) : Bool := He.eqO (PySem.W.nsIn K mainGlobals "gcd") (some (some (.builtin "math.gcd"))) && (He.eqO (PySem.W.nsIn K mainGlobals "lcm") (some (some (.builtin "math.lcm"))) && (tupAt K (He.ga K "NUMBERS") [.ref (itemAt K (He.ga K "NUMBERS") 0), .ref (itemAt K (He.ga K "NUMBERS") 1)] && (tupAt K (itemAt K (He.ga K "NUMBERS") 0) [.int 1, .int 3] && (tupAt K (itemAt K (He.ga K "NUMBERS") 1) [.int 1, .int 3, .int 7]))))
abbrev RL : PySem.W.OpenRow := PySem.W.OpenLaw.row PySem.Challenge.rw_keyedtime_k11_whole_fewest_pieces
abbrev hkL : PySem.W.Hook := He.hookX 6 faL fnL [] [] exL
def obL (s : PySem.W.SharedT) : He.AlX := He.obsX 6 faL fnL [] [] exL (HandSHeadRun.getT s)
theorem obL_eq (s : PySem.W.SharedT) : obL s = hkL.obs s.abs := He.obsX_eq (HandSHeadRun.getT_eq s)
def looseL : List Str := ("gcd" : Str) :: ("lcm" : Str) :: ("TapError" : Str) :: ("BadTaps" : Str) :: ("BadWidth" : Str) :: ("NUMBERS" : Str) :: ("check_width" : Str) :: ("lowest" : Str) :: ("is_above" : Str) :: ("asked" : Str) :: ("asked_by_pairs" : Str) :: ("least_asked" : Str) :: ("parts_between" : Str) :: ("number_by" : Str) :: ("reading_by" : Str) :: ("least_units" : Str) :: ("allowed_readings" : Str) :: ("common_bottom" : Str) :: ("in_order" : Str) :: ("piece_end" : Str) :: ("pieces" : Str) :: ("MOST_TIMES" : Str) :: ("SHORTEST" : Str) :: ("LONGEST" : Str) :: ("check_times" : Str) :: ("Taps" : Str) :: ("_law_dice" : Str) :: ("_law_off" : Str) :: ("_law_low" : Str) :: ("_law_less" : Str) :: ("_law_kinds" : Str) :: ("_law_reading" : Str) :: ("_law_some_width" : Str) :: ("_law_times" : Str) :: ("_law_asks" : Str) :: ("_law_width" : Str) :: ("_law_allows" : Str) :: []
theorem runL (w : World) : HandSHeadRun.RunEqI RL (PySem.W.view RL.prog [43]) hkL obL 4000 looseL w := by
  unfold HandSHeadRun.RunEqI
  kernel_rfl
theorem factsL {P : Program} {w : World} {K : PySem.W.Frag} {h : Heap} {mg : Str → Option Value} {f : Addr} (X : K.In h) (G : h.Ns mainGlobals mg) (hfa : mg ("law" : Str) = some (.ref f)) (d : He.SaysX faL fnL [] [] exL w h K) :
    ∃ fd : FuncData, (∀ (s : Shared) (v : Value), BindsTo s fd ⟨[v], []⟩ [("_law_script", v)]) ∧ ∀ base : Heap, K.In base → base.Ns mainGlobals mg → FnOk P w K mg base CX0 6 f fd ["_law_script"] (spLaw K) := by
  have c : He.SaysD faL fnL K := d.t.d
  have z := d.more
  unfold exL at z
  simp only [Bool.and_eq_true] at z
  obtain ⟨zgcd, zlcm, z0, z1, z2⟩ := z
  have m_gcd : mg "gcd" = some (.builtin "math.gcd") := bi_of X G zgcd
  have m_lcm : mg "lcm" = some (.builtin "math.lcm") := bi_of X G zlcm
  have m_abs : mg "abs" = none := He.free_ok X G (c.fact 28 (f := .free "abs") rfl)
  have m_enumerate : mg "enumerate" = none := He.free_ok X G (c.fact 29 (f := .free "enumerate") rfl)
  have m_int : mg "int" = none := He.free_ok X G (c.fact 30 (f := .free "int") rfl)
  have m_isinstance : mg "isinstance" = none := He.free_ok X G (c.fact 31 (f := .free "isinstance") rfl)
  have m_len : mg "len" = none := He.free_ok X G (c.fact 32 (f := .free "len") rfl)
  have m_list : mg "list" = none := He.free_ok X G (c.fact 33 (f := .free "list") rfl)
  have m_max : mg "max" = none := He.free_ok X G (c.fact 34 (f := .free "max") rfl)
  have m_min : mg "min" = none := He.free_ok X G (c.fact 35 (f := .free "min") rfl)
  have m_range : mg "range" = none := He.free_ok X G (c.fact 36 (f := .free "range") rfl)
  have m_sorted : mg "sorted" = none := He.free_ok X G (c.fact 37 (f := .free "sorted") rfl)
  have m_tuple : mg "tuple" = none := He.free_ok X G (c.fact 38 (f := .free "tuple") rfl)
  have m_zip : mg "zip" = none := He.free_ok X G (c.fact 39 (f := .free "zip") rfl)
  have c_LONGEST : ∃ t, mg "LONGEST" = some (.int 9999 t) := He.int_ok X G (c.fact 40 (f := .int "LONGEST" 9999) rfl)
  have c_MOST_TIMES : ∃ t, mg "MOST_TIMES" = some (.int 25 t) := He.int_ok X G (c.fact 41 (f := .int "MOST_TIMES" 25) rfl)
  have c_SHORTEST : ∃ t, mg "SHORTEST" = some (.int 1 t) := He.int_ok X G (c.fact 42 (f := .int "SHORTEST" 1) rfl)
  have c_NUMBERS : mg "NUMBERS" = some (.ref (He.ga K "NUMBERS")) := He.glo_ok X G (c.fact 43 (f := .glo "NUMBERS") rfl)
  have N0 := fun H => tupAt_ok z0 H
  have N1 := fun H => tupAt_ok z1 H
  have N2 := fun H => tupAt_ok z2 H
  obtain ⟨fd, F⟩ := c.def_ 27 (d := dfn "law" slaw) rfl
  have e := hfa.symm.trans (He.glo_ok X G (c.fact 27 (f := .glo "law") rfl))
  cases e
  have b := FunD.bindsA (ps := ["_law_script"]) F fun _ _ _ _ _ _ us hl => match us, hl with | [_], _ => rfl
  refine ⟨fd, fun s v => b s [v] rfl, fun base _ _ => ?_⟩
  obtain ⟨fdI, FI⟩ := c.def_ 28 (d := dfm "Taps" "__init__" "Taps.__init__" sTaps___init__) rfl
  have cl := He.cls_ok (c.fact 45 (f := .cls "Taps") rfl)
  have nT := He.noat_ok (c.fact 46 (f := .noat "Taps" "_times") rfl)
  obtain ⟨fdT, FT⟩ := c.def_ 29 (d := dfm "Taps" "times" "Taps.times" sTaps_times) rfl
  have G_law_dice := ok_law_dice (P := P) (w := w) (base := base) (src_of X G c 0 0 rfl rfl) m_abs
  have G_law_off := ok_law_off (P := P) (w := w) (base := base) (src_of X G c 1 1 rfl rfl) m_len
  have G_law_kinds := ok_law_kinds (P := P) (w := w) (base := base) (src_of X G c 2 2 rfl rfl)
  have G_law_reading := ok_law_reading (P := P) (w := w) (base := base) (src_of X G c 3 3 rfl rfl) m_range G_law_kinds G_law_off
  have G_law_times := ok_law_times (P := P) (w := w) (base := base) (src_of X G c 4 4 rfl rfl) m_range m_enumerate m_max m_min m_int G_law_reading G_law_off
  have G_law_low := ok_law_low (P := P) (w := w) (base := base) (src_of X G c 5 5 rfl rfl) m_abs
  have G_law_less := ok_law_less (P := P) (w := w) (base := base) (src_of X G c 6 6 rfl rfl)
  have G_law_asks := ok_law_asks (P := P) (w := w) (base := base) (src_of X G c 7 7 rfl rfl) G_law_low
  have G_law_width := ok_law_width (P := P) (w := w) (base := base) (src_of X G c 8 8 rfl rfl) m_range m_len G_law_less G_law_asks
  have G_law_some_width := ok_law_some_width (P := P) (w := w) (base := base) (src_of X G c 9 9 rfl rfl) m_int G_law_off G_law_low
  have G_law_allows := ok_law_allows (P := P) (w := w) (base := base) (src_of X G c 10 10 rfl rfl) m_range m_len m_abs m_min m_tuple G_law_kinds G_law_less G_law_width
  have Gcheck_times := ok_check_times (P := P) (w := w) (base := base) (src_of X G c 11 11 rfl rfl) m_len m_enumerate c_MOST_TIMES c_SHORTEST c_LONGEST
  have GTaps : KMake P w K mg base CX0 (He.ga K "Taps") 2 "Taps" ["self", "times"] (spTapsInit K (He.ga K "Taps")) := ⟨_, fdI, He.glo_ok X G (c.fact 44 (f := .glo "Taps") rfl), He.mkr_ok (c.fact 47 (f := .mkr "Taps") rfl), FI.bindsN fun _ _ _ _ _ _ us hl => match us, hl with | [_, _], _ => rfl, ok_Taps_init FI cl nT m_list Gcheck_times⟩
  have GTaps_times : KMeth P w K mg base CX0 (He.ga K "Taps") 1 "times" ["self"] (spTapsTimes (He.ga K "Taps")) := ⟨cl, _, fdT, He.meth_ok (c.fact 48 (f := .meth "Taps" "times") rfl), FT.bindsN fun _ _ _ _ _ _ us hl => match us, hl with | [_], _ => rfl, ok_Taps_times FT cl nT m_list⟩
  have Gcheck_width := ok_check_width (P := P) (w := w) (base := base) (src_of X G c 12 12 rfl rfl) m_gcd
  have Glowest := ok_lowest (P := P) (w := w) (base := base) (src_of X G c 13 13 rfl rfl) m_gcd
  have Gis_above := ok_is_above (P := P) (w := w) (base := base) (src_of X G c 14 14 rfl rfl)
  have Gasked := ok_asked (P := P) (w := w) (base := base) (src_of X G c 15 15 rfl rfl)
  have Gasked_by_pairs := ok_asked_by_pairs (P := P) (w := w) (base := base) (src_of X G c 16 16 rfl rfl) m_list m_zip m_enumerate Gasked
  have Gleast_asked := ok_least_asked (P := P) (w := w) (base := base) (src_of X G c 17 17 rfl rfl) Gasked_by_pairs Gis_above Glowest
  have Gparts_between := ok_parts_between (P := P) (w := w) (base := base) (src_of X G c 18 18 rfl rfl) m_range c_NUMBERS N0 N1 N2
  have Gnumber_by := ok_number_by (P := P) (w := w) (base := base) (src_of X G c 19 19 rfl rfl)
  have Greading_by := ok_reading_by (P := P) (w := w) (base := base) (src_of X G c 20 20 rfl rfl) Gnumber_by
  have Gleast_units := ok_least_units (P := P) (w := w) (base := base) (src_of X G c 21 21 rfl rfl)
  have Gallowed_readings := ok_allowed_readings (P := P) (w := w) (base := base) (src_of X G c 22 22 rfl rfl) Gleast_units Greading_by
  have Gcommon_bottom := ok_common_bottom (P := P) (w := w) (base := base) (src_of X G c 23 23 rfl rfl) m_lcm
  have Gin_order := ok_in_order (P := P) (w := w) (base := base) (src_of X G c 24 24 rfl rfl) m_sorted m_zip Gallowed_readings Gleast_asked Gcommon_bottom
  have Gpiece_end := ok_piece_end (P := P) (w := w) (base := base) (src_of X G c 25 25 rfl rfl) m_len Gparts_between Gallowed_readings
  have Gpieces := ok_pieces (P := P) (w := w) (base := base) (src_of X G c 26 26 rfl rfl) m_len GTaps_times Gcheck_width Gparts_between Gin_order Gpiece_end
  exact ok_law F G_law_dice G_law_off G_law_times G_law_kinds G_law_width GTaps G_law_some_width G_law_less Gpieces G_law_allows m_len m_range m_int m_isinstance m_tuple
end KT
open PySem PySem.W PySem.Calls PyProof.Rows
theorem PySem.Challenge.cw_keyedtime_k11_whole_fewest_pieces_holds : PySem.Challenge.rw_keyedtime_k11_whole_fewest_pieces.Holds := by
  w_on; o_law
  refine HandSHeadRun.head_imp (r := OpenLaw.row PySem.Challenge.rw_keyedtime_k11_whole_fewest_pieces) (q := view (OpenLaw.row PySem.Challenge.rw_keyedtime_k11_whole_fewest_pieces).prog [43]) (H := KT.hkL) (ob := KT.obL) (M := 4000) (loose := KT.looseL) (d := HandSHeadRun.topDef (OpenLaw.row PySem.Challenge.rw_keyedtime_k11_whole_fewest_pieces).prog 43) (kwd := []) KT.obL_eq
    KT.runL (by kernel_rfl) (by kernel_rfl) (by kernel_rfl) (by rfl) (by first | assumption | decide +kernel) (by decide +kernel) ⟨rfl, rfl, rfl, rfl, rfl, by decide +kernel⟩ ?hw ?hc
  case hw => w_witness2
  case hc =>
    refine L2.walk_ofE (l := PySem.Challenge.rw_keyedtime_k11_whole_fewest_pieces) (n := 63) (k := 6) (x := "_law_script") (CX := L2.CX0) rfl (by decide) (by kernel_rfl) ⟨rfl, by decide, by decide⟩ ?F (fun _ _ _ _ z => z)
    intro w mg fa h Y G hmg0
    obtain ⟨K, KX, c⟩ := Y
    have hmg : mg ("law" : PySem.Str) = some (.ref fa) := by
      have e : (HandSHeadRun.topDef (OpenLaw.row PySem.Challenge.rw_keyedtime_k11_whole_fewest_pieces).prog 43).name = ("law" : PySem.Str) := by kernel_rfl
      rw [← e]
      exact hmg0
    obtain ⟨fd, hb, hF⟩ := KT.factsL (P := (PySem.Challenge.rw_keyedtime_k11_whole_fewest_pieces).prog) (w := w) KX G hmg c
    exact ⟨K, fd, KT.spLaw K, KX, hb, fun H a ns hl _ hS => ⟨a, ns, rfl, hS, hl, fun _ => rfl⟩, hF⟩
