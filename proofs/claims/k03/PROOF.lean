import PyProof.Rows.All
import Wide.All
import OpenK.AllK
import Wide.FinOn
import HandS.Base
import HandS.Call
import HandS.List
import HandS.Comp
import HandS.Ends
import HandS.Dict
import HandS.Iter
import HandS.Text
import HandS.Words
import HandS.Conv
import HandS.Codes
import HandS.Defaults
import HandS.Walk
import HandS.WordsList
import HandS.IsInst
import HandS.Gcd
import HandS.Flow
import HandS.Style
import KE.KDictZip
import KE.KStateDown
import Lean
import HandS.More
import HandS.WordsExc
import HandS.Head0
import HandS.Head1
import HandS.Head2
import HandS.Head3
import HandS.Head4
import HandS.HeadEnd
import HandS.HeadHook1
import HandS.HeadHook2
import HandS.HeadHook3
import HandS.HeadHook4
import PySem.Challenge.RW_keyedtime_k03_least_widths
set_option Elab.async false
set_option linter.all false
set_option maxRecDepth 100000
set_option maxHeartbeats 0
/-! Own words over the layer, for every law of Keyedtime. -/
namespace KT
open PySem PySem.Spec PyProof.Rows L2

/-! ### defs, classes, methods as callers know them -/
/-- the def x keeps sp -/
structure KDef (P : Program) (w : World) (K : PySem.W.Frag) (mg : Str → Option Value) (base : Heap) (C : CXT) (k : Nat) (x : Str) (ps : List Str) (sp : Sp) : Prop where
  ex : ∃ (f : Addr) (fd : FuncData), mg x = some (.ref f) ∧ PySem.W.keepIn K (.ref f) = true ∧ Binds K fd ps [] ∧ FnOk P w K mg base C k f fd ps sp
/-- making an instance of the class x, at C, keeps sp -/
structure KMake (P : Program) (w : World) (K : PySem.W.Frag) (mg : Str → Option Value) (base : Heap) (X : CXT) (C : Addr) (k : Nat) (x : Str) (ps : List Str) (sp : Sp) : Prop where
  ex : ∃ (f : Addr) (fd : FuncData), mg x = some (.ref C) ∧ Mk K C f ∧ Binds K fd ps [] ∧ FnOk P w K mg base X k f fd ps sp
/-- the method m of the class at C keeps sp -/
structure KMeth (P : Program) (w : World) (K : PySem.W.Frag) (mg : Str → Option Value) (base : Heap) (X : CXT) (C : Addr) (k : Nat) (m : Str) (ps : List Str) (sp : Sp) : Prop where
  cls : Cls K C
  ex : ∃ (f : Addr) (fd : FuncData), Meth K C m f ∧ Binds K fd ps [] ∧ FnOk P w K mg base X k f fd ps sp
section
variable {X : Cx} {k : Nat} {C : Addr} {x m : Str} {ps : List Str} {sp : Sp} {e o : Expr} {es : List Expr} {t : TA} {ta : TE} {p pos apos : Pos}
theorem pe_callD (D : KDef X.prog X.w X.K X.mg X.base CX0 k x ps sp) (hr : Room k X.A) (hg : Gl X x) (ha : PA X (e :: es) t) (hdb : (x == ("__debug__" : Str)) = false := by decide)
    (he : starEach (e :: es) X.env = (false, eval e X.env) :: starEach es X.env := by rfl) (hpl : (backTo pos (starEach es X.env)).any (·.1) = false := by rfl) :
    PE X (.Call (.Name x p) (e :: es) [] pos) (tCall sp [] E0 t) := by
  obtain ⟨f, fd, hm, hk, hb, F⟩ := D.ex
  exact pe_call F hr hg hm hk hb .nil pass0 ha hdb he hpl
theorem pe_makeD (D : KMake X.prog X.w X.K X.mg X.base CX0 C k x ps sp) (hr : Room (k + 1) X.A) (hg : Gl X x) (ha : PA X (e :: es) t) (hdb : (x == ("__debug__" : Str)) = false := by decide)
    (he : starEach (e :: es) X.env = (false, eval e X.env) :: starEach es X.env := by rfl) (hpl : (backTo pos (starEach es X.env)).any (·.1) = false := by rfl) :
    PE X (.Call (.Name x p) (e :: es) [] pos) (tMake C sp [] E0 t) := by
  obtain ⟨f, fd, hm, M, hb, F⟩ := D.ex
  exact pe_make M F hr hg hm hb .nil pass0 ha hdb he hpl
theorem pe_meth0D {pl : Sem Bool} (he : PE X o ta) (D : KMeth X.prog X.w X.K X.mg X.base CX0 C k m ps sp) (hr : Room k X.A)
    (ht : eval (.Call (.Attribute o m apos) [] [] pos) X.env = (do
      let ov ← eval o X.env
      standAt apos.atName
      let (f, first) ← holding [ov] (getMethod ov m pl)
      callWith pos f first (backTo pos (starEach [] X.env)) (backToKw pos (keywordEach [] X.env))) := by rfl) :
    PE X (.Call (.Attribute o m apos) [] [] pos) (tMeth C m sp [] E0 ta tNil) := by
  obtain ⟨f, fd, hm, hb, F⟩ := D.ex
  exact pe_meth0 he D.cls hm F hr hb .nil pass0 ht
end
/-- the def stands behind the top -/
structure Src (K : PySem.W.Frag) (mg : Str → Option Value) (x : Str) (st : Stmt) : Prop where
  ex : ∃ (f : Addr) (fd : FuncData), mg x = some (.ref f) ∧ FunD K x x (defArgs st) (defBody st) (defScope st) [] [] f fd
section
variable {P : Program} {w : World} {K : PySem.W.Frag} {mg : Str → Option Value} {base : Heap} {x : Str} {st : Stmt} {N ps : List Str} {k : Nat} {sp : Sp}
/-- a def that lets nothing out -/
theorem Src.ok (S : Src K mg x st) (sc : FnScope N ps (defScope st))
    (hb : ∀ (kV doc pm : Value) (an : Option Addr) (cdv ct : Value) (us : List Value), us.length = ps.length → bindArgs (PySem.W.fnOf x x (defArgs st) (defBody st) (defScope st) .none kV doc pm an cdv ct) ⟨us, []⟩ = pure (ps.zip us))
    (len : ∀ vs H Q E, sp vs H Q E → vs.length = ps.length)
    (hbody : ∀ (f : Addr) (cdv : Value) (A : Around) (outer : List Env) (s : Shared) (H : Hp) (vs : List V) (Q : VK) (E : XK), Room k (A.deeper (envOfC x (defScope st) s.heap.objs.size f cdv)) → sp vs H Q E →
      ∃ t, PSs (cxOf CX0 P w K mg base N x (defScope st) f cdv A outer s H E).nox (defBody st) t ∧ t { nx := fun _ H' => Q .non H', rt := Q } (start N vs) H) : KDef P w K mg base CX0 (k + 1) x ps sp := by
  obtain ⟨f, fd, hm, F⟩ := S.ex
  refine ⟨f, fd, hm, F.kp, F.bindsN hb, F.ok sc len fun cdv A outer s H vs Q E hr h => ?_⟩
  obtain ⟨t, ht, q⟩ := hbody f cdv A outer s H vs Q E hr h
  exact ⟨t, ht.nox, q⟩
end

/-! ### heaps -/
/-- what stood stands, but at d -/
def Kp (d : Addr) (H H' : Hp) : Prop := ∀ b o, b ≠ d → H b = some o → H' b = some o
theorem Kp.refl (d : Addr) (H : Hp) : Kp d H H := fun _ _ _ h => h
theorem Kp.of {d : Addr} {H H' : Hp} (s : Same H H') : Kp d H H' := fun b o _ h => s b o h
theorem Kp.trans {d : Addr} {H H1 H2 : Hp} (a : Kp d H H1) (b : Kp d H1 H2) : Kp d H H2 := fun c o n h => b c o n (a c o n h)
theorem Kp.then {d : Addr} {H H1 H2 : Hp} (a : Kp d H H1) (b : Same H1 H2) : Kp d H H2 := a.trans (.of b)
theorem Kp.at {d : Addr} {H H1 : Hp} {o : HO} : Kp d H (upd H d o) := fun b u n h => by rw [upd_ne n]; exact h
theorem Kp.free {d : Addr} {H H1 : Hp} {o : HO} (a : Kp d H H1) (hd : H d = some o) {p : Addr} (h : H1 p = none) (hd1 : H1 d ≠ none) : H p = none := by
  cases e : H p with
  | none => rfl
  | some u =>
    by_cases n : p = d
    · subst n
      exact absurd h hd1
    · rw [a p u n e] at h
      cases h
theorem Kp.seq {K : PySem.W.Frag} {d a : Addr} {H H' : Hp} {xs : List V} (e : Kp d H H') (n : a ≠ d) (h : SqL K H a xs) : SqL K H' a xs := by
  rcases h with (h | ⟨o, h⟩) | h
  · exact .inl (.inl (e _ _ n h))
  · exact .inl (.inr ⟨o, e _ _ n h⟩)
  · exact .inr h
theorem Kp.tup {K : PySem.W.Frag} {d a : Addr} {H H' : Hp} {xs : List V} (e : Kp d H H') (n : a ≠ d) (h : SqT K H a xs) : SqT K H' a xs := by
  rcases h with (h | ⟨o, h⟩) | h
  · exact .inl (.inl (e _ _ n h))
  · exact .inl (.inr ⟨o, e _ _ n h⟩)
  · exact .inr h
theorem sm {H : Hp} {p : Addr} {o : HO} (h : H p = none) : Same H (upd H p o) := fun b x e => by
  rw [upd_ne (ne_of_none e h)]
  exact e
theorem same_tup {K : PySem.W.Frag} {H H' : Hp} {a : Addr} {xs : List V} (e : Same H H') (h : SqT K H a xs) : SqT K H' a xs := by
  rcases h with (h | ⟨o, h⟩) | h
  · exact .inl (.inl (e _ _ h))
  · exact .inl (.inr ⟨o, e _ _ h⟩)
  · exact .inr h
/-- data stay as they are -/
theorem DpAll.mono {K : PySem.W.Frag} {H H' : Hp} (g : ∀ v d, Dp K H v d → Dp K H' v d) : ∀ {vs : List V} {ds : List PyData}, DpAll K H vs ds → DpAll K H' vs ds
  | _, _, .nil => .nil
  | _, _, .cons h t => .cons (g _ _ h) (DpAll.mono g t)
mutual
theorem Dp.same {K : PySem.W.Frag} {H H' : Hp} (s : Same H H') : ∀ (d : PyData) (v : V), Dp K H v d → Dp K H' v d
  | .none, _, h => by cases h; exact .non
  | .bool b, _, h => by cases h; exact .bl b
  | .int i, _, h => by cases h; exact .int i
  | .str x, _, h => by cases h; exact .str x
  | .list ds, _, h => by
    cases h with
    | lst hs ha => exact .lst (s.seq hs) (Dp.sameAll s ds _ ha)
  | .tuple ds, _, h => by
    cases h with
    | tup hs ha => exact .tup (same_tup s hs) (Dp.sameAll s ds _ ha)
  | .dict kvs, _, h => by cases h
theorem Dp.sameAll {K : PySem.W.Frag} {H H' : Hp} (s : Same H H') : ∀ (ds : List PyData) (vs : List V), DpAll K H vs ds → DpAll K H' vs ds
  | [], _, h => by cases h; exact .nil
  | d :: ds, _, h => by
    cases h with
    | cons h1 h2 => exact .cons (Dp.same s d _ h1) (Dp.sameAll s ds _ h2)
end

/-! ### readings by what stands -/
theorem ixn {n j : Nat} (hj : j < n) : ixN n (j : Int) = some j := by
  unfold ixN
  rw [if_pos (Int.natCast_nonneg j), if_pos (by omega), Int.toNat_natCast]
section
variable {K : PySem.W.Frag} {H : Hp} {a b : Addr} {xs ys : List V} {i : Int} {j : Nat} {v : V} {Q : VK}
theorem aI {α : Type} {xs : List α} {v : α} (h0 : 0 ≤ i) (e : xs[i.toNat]? = some v) : atI xs i = some v := by
  have e2 := atI_nat e
  rw [Int.toNat_of_nonneg h0] at e2
  exact e2
theorem sI {n : Nat} (h0 : 0 ≤ i) (hj : i < n) : ixN n i = some i.toNat := by
  unfold ixN
  rw [if_pos h0, if_pos hj]
theorem pI {n : Nat} (h0 : 0 ≤ i) (hj : i < n) : seqIndex? i n = some i.toNat := PySem.seqIndex_of h0 hj
theorem lz {n : Nat} (h : n ≤ 1000000) : n ≤ sizeLine := by
  rw [sizeLine_eq]
  omega
theorem lz' {n : Nat} (h : n ≤ 1000000) : n < sizeLine := by
  rw [sizeLine_eq]
  omega
theorem ty_list (h : H a = some (.lst xs)) : tyV K "list" (.ref a) H := .inl ⟨rfl, xs, SqL.of h⟩
end

/-! ### the layer's rules with the written part by name (within a comprehension's block it must be) -/
section
variable {X : Cx} {K : PySem.W.Frag}
theorem ix_listK (h : X.K = K) : IxR X (rIxL K) := by subst h; exact ix_list
theorem ix_tupK (h : X.K = K) : IxR X (rIxT K) := by subst h; exact ix_tup
theorem ix_seqK (h : X.K = K) : IxR X (rIx K) := by subst h; exact ix_seq
theorem sl_listK (h : X.K = K) : SlR X (rSlL K) := by subst h; exact sl_list
theorem op_in_seqK (h : X.K = K) : OpR X (compareOp .In) (rIn K false) := by subst h; exact op_in_seq
theorem op_notIn_seqK (h : X.K = K) : OpR X (compareOp .NotIn) (rIn K true) := by subst h; exact op_notIn_seq
theorem op_eqDK (hu : X.A.units + 64 < cLine) (h : X.K = K) : OpR X (compareOp .Eq) (rEqD K) := by subst h; exact op_eqD hu
theorem op_neDK (hu : X.A.units + 64 < cLine) (h : X.K = K) : OpR X (compareOp .NotEq) (rNeD K) := by subst h; exact op_neD hu
def rLenQ (K : PySem.W.Frag) : List V → Hp → VK → Prop := fun xs H Q => ∃ p ys, xs = [.ref p] ∧ (SqL K H p ys ∨ SqT K H p ys) ∧ Q (.int ys.length) H
theorem call_len_seqK (h : X.K = K) : CallR X (.builtin "len") (rLenQ K) := by subst h; exact call_len_seq
def rListQ (K : PySem.W.Frag) : List V → Hp → VK → Prop := fun xs H Q => ∃ p ys, xs = [.ref p] ∧ (SqL K H p ys ∨ SqT K H p ys) ∧ ∀ l, H l = none → Q (.ref l) (upd H l (.lst ys))
theorem call_list_ofK (h : X.K = K) : CallR X (.type "list") (rListQ K) := by subst h; exact call_list_of
theorem cr_sortedK (h : X.K = K) : CallR X (.builtin "sorted") (rSorted K) := by subst h; exact cr_sorted
theorem cr_allK (hc : X.calm = true) (h : X.K = K) : CallR X (.builtin "all") (rAll K) := by subst h; exact cr_all hc
theorem pe_fldK {e : Expr} {ta : TE} {f : Str} {pos : Pos} (h : X.K = K) (he : PE X e ta) (hb : attributeBase e f X.env (eval e X.env) = eval e X.env) : PE X (.Attribute e f pos) (tFld K ta f) := by subst h; exact pe_fld he hb
theorem ps_fldK {o value : Expr} {ta tv : TE} {f : Str} {pos pos' : Pos} (h : X.K = K) (ha : PE X o ta) (hv : PE X value tv) (hs : swapsWith value (some (.Attribute o f pos')) pos.line X.env = pure false) :
    PS X (.Assign [.Attribute o f pos'] value pos) (sFld K ta tv f) := by subst h; exact ps_fld ha hv hs
theorem pi_listK {tg l : Expr} {tl : TE} (h : X.K = K) (hl : PE X l tl) : PI X tg l (iList K tl) := by subst h; exact pi_list hl
theorem pi_tupK {tg l : Expr} {tl : TE} (h : X.K = K) (hl : PE X l tl) : PI X tg l (iTup K tl) := by subst h; exact pi_tup hl
theorem pi_enumK {e : Expr} {ta : TA} {p pos tpos : Pos} {elts : List Expr} {kk : Nat} (h : X.K = K) (hg : Gl X "enumerate") (hm : X.mg "enumerate" = none) (ha : PA X [e] ta) (hs : starEach [e] X.env = [(false, eval e X.env)] := by rfl) :
    PI X (.Tuple elts kk tpos) (.Call (.Name "enumerate" p) [e] [] pos) (iEnum K ta) := by subst h; exact pi_enum hg hm ha hs
end
theorem pe_gI {X : Cx} {x : Str} {i : Int} {pos : Pos} (hg : Gl X x) (h : ∃ t, X.mg x = some (.int i t)) (hd : (x == ("__debug__" : Str)) = false := by decide) : PE X (.Name x pos) (tC (.int i)) := by
  obtain ⟨t, e⟩ := h
  exact pe_glob (v := .int i) hg e ⟨t, rfl⟩ hd
theorem pe_gR {X : Cx} {x : Str} {a : Addr} {pos : Pos} (hg : Gl X x) (h : X.mg x = some (.ref a)) (hd : (x == ("__debug__" : Str)) = false := by decide) : PE X (.Name x pos) (tC (.ref a)) := pe_glob (v := .ref a) hg h rfl hd
/-! ### cuts: an expression, a test, with a word behind it -/
def tCutE (t : TE) : TE := fun σ H Q => ∃ Mid : V → Hp → Prop, t σ H Mid ∧ ∀ v H', Mid v H' → Q v H'
def tCutT (t : TT) : TT := fun σ H Q => ∃ Mid : Bool → Hp → Prop, t σ H Mid ∧ ∀ b H', Mid b H' → Q b H'
theorem pe_cut {X : Cx} {e : Expr} {t : TE} (h : PE X e t) : PE X e (tCutE t) :=
  ⟨fun pins s σ H Q I ⟨Mid, h1, h2⟩ => thn (h.run pins s σ H Mid I h1) fun _ _ ⟨v, H', I', r, q⟩ => ⟨v, H', I', r, h2 v H' q⟩⟩
theorem pt_cut {X : Cx} {e : Expr} {t : TT} (h : PT X e t) : PT X e (tCutT t) :=
  ⟨fun pins s σ H Q I ⟨Mid, h1, h2⟩ => thn (h.run pins s σ H Mid I h1) fun _ _ ⟨H', I', q⟩ => ⟨H', I', h2 _ H' q⟩⟩
end KT

/-! What each def promises; the mathematics. -/
namespace KT
open PySem PySem.Spec PyProof.Rows L2
/-! ### the dice -/
def Dice (H : Hp) (d : Addr) : Prop := ∃ (x y : Int) (zs : List Int), H d = some (.lst (V.int x :: V.int y :: zs.map V.int)) ∧ 0 ≤ x ∧ x < 2147483647 ∧ 0 ≤ y ∧ (∀ z ∈ zs, 0 ≤ z) ∧ zs.length ≤ 63
theorem Dice.some {H : Hp} {d : Addr} (h : Dice H d) : ∃ o, H d = Option.some o := by
  obtain ⟨x, y, zs, e, _⟩ := h
  exact ⟨_, e⟩
theorem Dice.ne {H : Hp} {d p : Addr} (h : Dice H d) (n : H p = none) : p ≠ d := by
  obtain ⟨o, e⟩ := h.some
  exact (ne_of_none e n).symm
theorem Dice.same {H H' : Hp} {d : Addr} (h : Dice H d) (s : Same H H') : Dice H' d := by
  obtain ⟨x, y, zs, e, r⟩ := h
  exact ⟨x, y, zs, s _ _ e, r⟩
/-- behind what kept all but the dice: what is free now was free -/
theorem Kp.new {d : Addr} {H H1 : Hp} (a : Kp d H H1) (hd : Dice H1 d) {p : Addr} (h : H1 p = none) : H p = none := by
  have n := hd.ne h
  cases e : H p with
  | none => rfl
  | some u =>
    rw [a p u n e] at h
    cases h
def spDice (K : PySem.W.Frag) : Sp := fun vs H Q _ => ∃ (a : Addr) (ns : List Int), vs = [.ref a, .int 0] ∧ SqL K H a (ns.map V.int) ∧ ns.length ≤ 63 ∧ ∀ (p : Addr) (H' : Hp), H p = none → Same H H' → Dice H' p → Q (.ref p) H'
def spOff : Sp := fun vs H Q _ => ∃ (d : Addr) (m : Int), vs = [.ref d, .int m] ∧ Dice H d ∧ 0 < m ∧ m < 1073741824 ∧ ∀ (r : Int) (H' : Hp), 0 ≤ r → r < m → Dice H' d → Kp d H H' → Q (.int r) H'
theorem int_of {ns : List Int} {i : Nat} {y : V} (h : (ns.map V.int)[i]? = some y) : ∃ z, y = V.int z := by
  rw [List.getElem?_map] at h
  cases e : ns[i]? with
  | none =>
    rw [e] at h
    cases h
  | some z =>
    rw [e] at h
    exact ⟨z, (Option.some.inj h).symm⟩
theorem int_at {ns : List Int} {i : Nat} {y : V} (h : (ns.map V.int)[i]? = some y) : ∃ z, y = V.int z ∧ ns[i]? = some z := by
  rw [List.getElem?_map] at h
  cases e : ns[i]? with
  | none =>
    rw [e] at h
    cases h
  | some z =>
    rw [e] at h
    exact ⟨z, (Option.some.inj h).symm, rfl⟩
theorem at_int {ns : List Int} {i : Nat} {z : Int} (h : ns[i]? = some z) : (ns.map V.int)[i]? = some (V.int z) := by
  rw [List.getElem?_map, h]
  rfl
/-! ### readings -/
theorem par (n : Int) : n % 2 = 0 ∨ n % 2 = 1 := by omega
def kinds (n : Int) : List Int := if n % 2 = 0 then [1, 3] else [1, 3, 7]
theorem kinds_even {n : Int} (h : n % 2 = 0) : kinds n = [1, 3] := if_pos h
theorem kinds_odd {n : Int} (h : n % 2 = 1) : kinds n = [1, 3, 7] := if_neg (by omega)
def spKinds : Sp := fun vs H Q _ => ∃ n : Int, vs = [.int n] ∧ ∀ (p : Addr) (H' : Hp), H p = none → Same H H' → H' p = some (.lst ((kinds n).map V.int)) → Q (.ref p) H'
/-! ### comprehensions without tests: what is kept, what each item is -/
theorem same_put {H H1 : Hp} {D : Addr} {o : HO} (s : Same H H1) (n : H D = none) : Same H (upd H1 D o) := fun b u e => by
  rw [upd_ne (ne_of_none e n)]
  exact s b u e
theorem Kp.put {d : Addr} {H H1 : Hp} {D : Addr} {o : HO} (s : Kp d H H1) (n : H D = none) : Kp d H (upd H1 D o) := fun b u nb e => by
  rw [upd_ne (ne_of_none e n)]
  exact s b u nb e
theorem Dice.put {H : Hp} {d D : Addr} {o : HO} (h : Dice H d) (n : D ≠ d) : Dice (upd H D o) d := by
  obtain ⟨x, y, zs, e, r⟩ := h
  exact ⟨x, y, zs, by rw [upd_ne n.symm]; exact e, r⟩
section
variable {J : It} {n : Nat} {G : Hp → Prop} {Y : Nat → Hp → V → Hp → Prop} {g : TG} {te : TE} {vs : List Nat} {σ : L2.St} {H1 : Hp} {D : Addr} {Qd : Hp → Prop}
/-- all kept -/
theorem lc_s (w : Walk J n G Y) (Pe : Nat → V → Prop) (nD : H1 D = none) (hn : n ≤ 1000000) (hG : ∀ H, Same H1 H → G H)
    (hs : ∀ i x H H' (acc : List V) (k : V → Hp → Prop), i < n → Same H1 H → H D = some (.lst acc) → acc.length = i → Y i H x H' → (∀ y H4, Same H1 H4 → H4 D = some (.lst acc) → Pe i y → k y H4) →
      g x (wipe σ vs) H' fun σ2 H2 => wipe σ2 vs = wipe σ vs ∧ te σ2 H2 k)
    (hd : ∀ H xs, Same H1 H → H D = some (.lst xs) → xs.length = n → (∀ i y, xs[i]? = some y → Pe i y) → Qd H) :
    ∃ W : Nat → Nat → Hp → Prop, (∃ m, W 0 m (upd H1 D (.lst []))) ∧ ∀ i m H, W i m H →
      (J.stop i H ∧ Qd H) ∨ (J.go i H ∧ ∃ Nx : Hp → Prop, (∀ H', Nx H' → ∃ m', m' < m ∧ W (i + 1) m' H') ∧ ∀ x H', J.yld i H x H' → g x (wipe σ vs) H' fun σ2 H2 => wipe σ2 vs = wipe σ vs ∧ tYes σ2 H2 fun b H3 =>
        if b = true then te σ2 H3 fun y H4 => ∃ acc, H4 D = some (.lst acc) ∧ acc.length < sizeLine ∧ Nx (upd H4 D (.lst (acc ++ [y]))) else Nx H3) := by
  refine lc_it w (tt := tYes) (fun i H => ∃ xs, Same H1 H ∧ H D = some (.lst xs) ∧ xs.length = i ∧ ∀ i y, xs[i]? = some y → Pe i y) ⟨[], sm nD, upd_same, rfl, fun i y h => by simp at h⟩ (fun i H _ ⟨_, s, _⟩ => hG H s) ?_ fun H ⟨xs, s, e, l, q⟩ => hd H xs s e l q
  rintro i x H H' hi ⟨xs, s, e, l, q⟩ y
  refine hs i x H H' xs _ hi s e l y fun z H4 s4 e4 p4 => ⟨xs, e4, lz' (by omega), xs ++ [z], same_put s4 nD, upd_same, by rw [List.length_append, l]; rfl, fun j u hu => ?_⟩
  by_cases hj : j < xs.length
  · rw [List.getElem?_append_left hj] at hu
    exact q j u hu
  · have e5 : j = i := by
      have := (List.getElem?_eq_some_iff.mp hu).1
      rw [List.length_append] at this
      simp at this
      omega
    subst e5
    rw [← l, List.getElem?_append_right (Nat.le_refl _), Nat.sub_self] at hu
    cases hu
    exact l ▸ p4
/-- all kept but the dice -/
theorem lc_d {d : Addr} (w : Walk J n G Y) (Pe : Nat → V → Prop) (hd1 : Dice H1 d) (nD : H1 D = none) (hn : n ≤ 1000000) (hG : ∀ H, Kp d H1 H → G H)
    (hs : ∀ i x H H' (acc : List V) (k : V → Hp → Prop), i < n → Kp d H1 H → Dice H d → H D = some (.lst acc) → acc.length = i → Y i H x H' → (∀ y H4, Kp d H1 H4 → Dice H4 d → H4 D = some (.lst acc) → Pe i y → k y H4) →
      g x (wipe σ vs) H' fun σ2 H2 => wipe σ2 vs = wipe σ vs ∧ te σ2 H2 k)
    (hd : ∀ H xs, Kp d H1 H → Dice H d → H D = some (.lst xs) → xs.length = n → (∀ i y, xs[i]? = some y → Pe i y) → Qd H) :
    ∃ W : Nat → Nat → Hp → Prop, (∃ m, W 0 m (upd H1 D (.lst []))) ∧ ∀ i m H, W i m H →
      (J.stop i H ∧ Qd H) ∨ (J.go i H ∧ ∃ Nx : Hp → Prop, (∀ H', Nx H' → ∃ m', m' < m ∧ W (i + 1) m' H') ∧ ∀ x H', J.yld i H x H' → g x (wipe σ vs) H' fun σ2 H2 => wipe σ2 vs = wipe σ vs ∧ tYes σ2 H2 fun b H3 =>
        if b = true then te σ2 H3 fun y H4 => ∃ acc, H4 D = some (.lst acc) ∧ acc.length < sizeLine ∧ Nx (upd H4 D (.lst (acc ++ [y]))) else Nx H3) := by
  have nDd : D ≠ d := hd1.ne nD
  refine lc_it w (tt := tYes) (fun i H => ∃ xs, Kp d H1 H ∧ Dice H d ∧ H D = some (.lst xs) ∧ xs.length = i ∧ ∀ i y, xs[i]? = some y → Pe i y) ⟨[], (Kp.refl d H1).put nD, hd1.put nDd, upd_same, rfl, fun i y h => by simp at h⟩ (fun i H _ ⟨_, s, _⟩ => hG H s) ?_
    fun H ⟨xs, s, dd, e, l, q⟩ => hd H xs s dd e l q
  rintro i x H H' hi ⟨xs, s, dd, e, l, q⟩ y
  refine hs i x H H' xs _ hi s dd e l y fun z H4 s4 d4 e4 p4 => ⟨xs, e4, lz' (by omega), xs ++ [z], s4.put nD, d4.put nDd, upd_same, by rw [List.length_append, l]; rfl, fun j u hu => ?_⟩
  by_cases hj : j < xs.length
  · rw [List.getElem?_append_left hj] at hu
    exact q j u hu
  · have e5 : j = i := by
      have := (List.getElem?_eq_some_iff.mp hu).1
      rw [List.length_append] at this
      simp at this
      omega
    subst e5
    rw [← l, List.getElem?_append_right (Nat.le_refl _), Nat.sub_self] at hu
    cases hu
    exact l ▸ p4
end
/-- a list of ints, item by item -/
theorem ints_of {xs : List V} {Pi : Nat → Int → Prop} (h : ∀ i y, xs[i]? = some y → ∃ z, y = V.int z ∧ Pi i z) : ∃ ns : List Int, xs = ns.map V.int ∧ ns.length = xs.length ∧ ∀ i z, ns[i]? = some z → Pi i z := by
  induction xs generalizing Pi with
  | nil => exact ⟨[], rfl, rfl, fun i z h => by simp at h⟩
  | cons x xs ih =>
    obtain ⟨z, e, pz⟩ := h 0 x rfl
    obtain ⟨ns, e2, l, q⟩ := ih (Pi := fun i => Pi (i + 1)) fun i y hy => h (i + 1) y hy
    refine ⟨z :: ns, by rw [e, e2]; rfl, by rw [List.length_cons, List.length_cons, l], fun i u hu => ?_⟩
    cases i with
    | zero =>
      cases hu
      exact pz
    | succ i => exact q i u hu
/-! ### readings and times -/
/-- a reading of times from a numbered one on -/
def Rdg (o : Int) (ks : List Int) : Prop := ∀ (i : Nat) (k : Int), ks[i]? = some k → k ∈ kinds (o + i)
theorem kinds_at {n r : Int} (h0 : 0 ≤ r) (h1 : r < 2 + n % 2) : ∃ k, ((kinds n).map V.int)[r.toNat]? = some (V.int k) ∧ k ∈ kinds n := by
  rcases par n with e | e
  · rw [kinds_even e]
    rcases (by omega : r = 0 ∨ r = 1) with rfl | rfl
    · exact ⟨1, rfl, by decide⟩
    · exact ⟨3, rfl, by decide⟩
  · rw [kinds_odd e]
    rcases (by omega : r = 0 ∨ r = 1 ∨ r = 2) with rfl | rfl | rfl
    · exact ⟨1, rfl, by decide⟩
    · exact ⟨3, rfl, by decide⟩
    · exact ⟨7, rfl, by decide⟩
theorem kinds_le {n k : Int} (h : k ∈ kinds n) : k = 1 ∨ k = 3 ∨ k = 7 := by
  rcases par n with e | e
  · rw [kinds_even e] at h
    simp at h
    omega
  · rw [kinds_odd e] at h
    simp at h
    omega
theorem kinds_one (n : Int) : (1 : Int) ∈ kinds n := by
  rcases par n with e | e
  · rw [kinds_even e]
    decide
  · rw [kinds_odd e]
    decide
theorem kinds_three (n : Int) : (3 : Int) ∈ kinds n := by
  rcases par n with e | e
  · rw [kinds_even e]
    decide
  · rw [kinds_odd e]
    decide
def spReading : Sp := fun vs H Q _ => ∃ (d : Addr) (n : Int), vs = [.ref d, .int n] ∧ Dice H d ∧ 0 ≤ n ∧ n ≤ 1000 ∧
  ∀ (ks : List Int) (p : Addr) (H' : Hp), (ks.length : Int) = n → Rdg 0 ks → H p = none → H' p = some (.lst (ks.map V.int)) → Dice H' d → Kp d H H' → Q (.ref p) H'
structure Tps (ts : List Int) : Prop where
  odd : ts.length % 2 = 1
  le : ts.length ≤ 25
  all : ∀ (i : Nat) (t : Int), ts[i]? = some t → 1 ≤ t ∧ t ≤ 9999
def spTimes : Sp := fun vs H Q _ => ∃ (d : Addr) (m : Int), vs = [.ref d, .int m] ∧ Dice H d ∧ 1 ≤ m ∧ m ≤ 25 ∧
  ∀ (ts : List Int) (p : Addr) (H' : Hp), Tps ts → (ts.length : Int) ≤ m → H p = none → H' p = some (.lst (ts.map V.int)) → Dice H' d → Kp d H H' → Q (.ref p) H'
theorem pick2 (b : Bool) (x y : V) : atI [x, y] (if b = true then 1 else 0) = some (if b = true then y else x) := by
  cases b with
  | false => exact aI (by decide) rfl
  | true => exact aI (by decide) rfl
end KT

/-! list(zip(xs, ys)) of two lists of one length. -/
namespace KT
open PySem PySem.Spec PyProof.Rows L2
/-- the zip at a turn: its own tuple free, or the first one that it gave still out -/
def ZipAt (h : Heap) (z TI TO : Addr) : Prop := (IsZip h z TI TO .none ∧ ∃ a b, IsPair h TO a b) ∨ ∃ T f oT, IsZipHeld h z TI TO T f ∧ h.get? T = some oT
/-- the list so far: new pairs -/
def PairsAt (h : Heap) (S : Addr) (xs ys acc : Array Value) (i : Nat) : Prop := acc.size = i ∧ ∀ (j : Nat) (u : Value), acc[j]? = some u → ∃ (T : Addr) (x y : Value), u = Value.ref T ∧ S < T ∧ xs[j]? = some x ∧ ys[j]? = some y ∧ IsPair h T x y
theorem PairsAt.keep {h h' : Heap} {S : Addr} {xs ys acc : Array Value} {i : Nat} (p : PairsAt h S xs ys acc i) (k : ∀ b o, S < b → h.get? b = some o → h'.get? b = some o) : PairsAt h' S xs ys acc i :=
  ⟨p.1, fun j u e => by
    obtain ⟨T, x, y, e1, hT, e2, e3, e4⟩ := p.2 j u e
    exact ⟨T, x, y, e1, hT, e2, e3, k _ _ hT e4⟩⟩
theorem PairsAt.push {h : Heap} {S T : Addr} {xs ys acc : Array Value} {i : Nat} {x y : Value} (p : PairsAt h S xs ys acc i) (hT : S < T) (hx : xs[i]? = some x) (hy : ys[i]? = some y) (e : IsPair h T x y) : PairsAt h S xs ys (acc.push (.ref T)) (i + 1) := by
  refine ⟨by rw [Array.size_push, p.1], fun j u hj => ?_⟩
  rw [Array.getElem?_push] at hj
  split at hj
  · rename_i e5
    rw [p.1] at e5
    cases hj
    subst e5
    exact ⟨T, x, y, rfl, hT, hx, hy, e⟩
  · exact p.2 j u hj
section
variable {prog : Program} {w : World} {A : Around} {R : Result → Shared → Prop} {z TI TO i1 i2 l1 l2 S : Addr} {xs ys : Array Value} {n : Nat}
/-- what is kept: all but the zip's own records and the list itself -/
def KeptBut (z TO i1 i2 S : Addr) (h h' : Heap) : Prop := ∀ b o, b ≠ z → b ≠ TO → b ≠ i1 → b ≠ i2 → b ≠ S → h.get? b = some o → h'.get? b = some o
theorem zip_loop (hh : A.handled = none) (D : ZipApart z TI TO i1 i2 l1 l2) (hS : z < S ∧ TI < S ∧ TO < S ∧ i1 < S ∧ i2 < S ∧ l1 < S ∧ l2 < S) (hx : xs.size = n) (hy : ys.size = n) (hn : n ≤ sizeLine) :
    ∀ (k i : Nat) (s : Shared) (acc : Array Value) (c : Nat), n - i = k → i ≤ n → ZipAt s.heap z TI TO → IsPair s.heap TI (.ref i1) (.ref i2) → s.heap.IsListIter i1 l1 i → s.heap.IsListIter i2 l2 i → s.heap.IsList l1 xs → s.heap.IsList l2 ys →
      s.heap.get? S = some { cls := .type "list", dict := none, data := .seq acc c, slots := #[] } → PairsAt s.heap S xs ys acc i →
      (∀ h' acc' c', KeptBut z TO i1 i2 S s.heap h' → h'.get? S = some { cls := .type "list", dict := none, data := .seq acc' c', slots := #[] } → PairsAt h' S xs ys acc' n → R (.ok (.ret .none)) { s with heap := h' }) →
      codeAny (model prog w) A (.builtin "list.extend.loop" ⟨[.ref S, .ref z, .none], []⟩) R s := by
  obtain ⟨z0, TI0, TO0, i10, i20, l10, l20⟩ := hS
  have a1 : z ≠ S := Nat.ne_of_lt z0
  have a2 : TI ≠ S := Nat.ne_of_lt TI0
  have a3 : TO ≠ S := Nat.ne_of_lt TO0
  have a4 : i1 ≠ S := Nat.ne_of_lt i10
  have a5 : i2 ≠ S := Nat.ne_of_lt i20
  have a6 : l1 ≠ S := Nat.ne_of_lt l10
  have a7 : l2 ≠ S := Nat.ne_of_lt l20
  intro k
  induction k with
  | zero =>
    intro i s acc c hk hi hz hTI h1 h2 hl1 hl2 hSo hacc hR
    have hin : i = n := by omega
    subst hin
    refine codeAny_builtin F.entry_extend_loop ?_
    rw [Around.under_plainId F.plain_extend_loop _]
    show wpAny _ A.in1 (pyNext (.ref z) >>= _) _ _ s
    have he : xs[i]? = none ∨ ys[i]? = none := .inl (Array.getElem?_eq_none (by omega))
    rcases hz with ⟨hz, a, b, hTO⟩ | ⟨T, f, oT, hz, hT⟩
    · refine wpAny_bind (wpAny_pyNext_zip_end hh D hz hTI hTO h1 h2 hl1 hl2 he fun h' hkp => ?_)
      exact wpAny_pure (hR h' acc c (fun b o b1 b2 b3 b4 b5 e => hkp b o b1 b2 b3 b4 e) (hkp S _ a1.symm a3.symm a4.symm a5.symm hSo) (hacc.keep fun b o hb e => hkp b o (Nat.ne_of_gt (Nat.lt_trans z0 hb)) (Nat.ne_of_gt (Nat.lt_trans TO0 hb)) (Nat.ne_of_gt (Nat.lt_trans i10 hb)) (Nat.ne_of_gt (Nat.lt_trans i20 hb)) e))
    · refine wpAny_bind (wpAny_pyNext_zip_end_held hh D hz hT hTI h1 h2 hl1 hl2 he fun h' hkp => ?_)
      exact wpAny_pure (hR h' acc c (fun b o b1 b2 b3 b4 b5 e => hkp b o b1 b3 b4 e) (hkp S _ a1.symm a4.symm a5.symm hSo) (hacc.keep fun b o hb e => hkp b o (Nat.ne_of_gt (Nat.lt_trans z0 hb)) (Nat.ne_of_gt (Nat.lt_trans i10 hb)) (Nat.ne_of_gt (Nat.lt_trans i20 hb)) e))
  | succ k ih =>
    intro i s acc c hk hi hz hTI h1 h2 hl1 hl2 hSo hacc hR
    have hlt : i < n := by omega
    have hix : xs[i]? = some xs[i] := Array.getElem?_eq_getElem (by omega)
    have hiy : ys[i]? = some ys[i] := Array.getElem?_eq_getElem (by omega)
    refine codeAny_builtin F.entry_extend_loop ?_
    rw [Around.under_plainId F.plain_extend_loop _]
    show wpAny _ A.in1 (pyNext (.ref z) >>= _) _ _ s
    have sT : S < s.heap.objs.size := Heap.lt_size hSo
    -- behind the draw
    have go : ∀ h', ZipAt h' z TI TO → IsPair h' TI (.ref i1) (.ref i2) → h'.IsListIter i1 l1 (i + 1) → h'.IsListIter i2 l2 (i + 1) → IsPair h' s.heap.objs.size xs[i] ys[i] → h'.objs.size = s.heap.objs.size + 1 →
        (∀ b o, b ≠ z → b ≠ TO → b ≠ i1 → b ≠ i2 → s.heap.get? b = some o → h'.get? b = some o) →
        wpAny (model prog w) A.in1 (updateSeq S (·.push (.ref s.heap.objs.size)) >>= fun _ => again (.builtin "list.extend.loop" ⟨[.ref S, .ref z, .none], []⟩)) (fun fin s' => match fin with | .done f => R (.ok f) s' | .again c' => c'.quiet = true ∧ codeAny (model prog w) A c' R s') (fun e s' => R (.error e) s') { s with heap := h' } := by
      intro h' hz' hTI' h1' h2' hT' hsz hkp
      have hS' := hkp S _ a1.symm a3.symm a4.symm a5.symm hSo
      refine wpAny_bind ?_
      refine wpAny_updateSeq (s := { s with heap := h' }) hS' rfl (wpAny_pure ⟨plainId_quiet F.plain_extend_loop _, ?_⟩) (by rw [hacc.1]; omega) (by show (acc.push _).size ≤ sizeLine + 1; rw [Array.size_push, hacc.1]; omega)
      have oth : ∀ b o, b ≠ S → h'.get? b = some o → (h'.update S (Obj.mapSeq (·.push (.ref s.heap.objs.size)))).get? b = some o := fun b o hb e => (Heap.get?_update_other _ _ (Ne.symm hb)).trans e
      have nS : s.heap.objs.size ≠ S := Nat.ne_of_gt sT
      refine ih (i + 1) _ (acc.push (.ref s.heap.objs.size)) _ (by omega) hlt ?_ (oth _ _ a2 hTI') (h1'.at fun o e => oth _ o a4 e) (h2'.at fun o e => oth _ o a5 e) ?_ ?_ (Heap.get?_update_self _ hS' rfl) ?_ ?_
      · rcases hz' with ⟨e1, a, b, e2⟩ | ⟨T, f, oT, e1, e2⟩
        · exact .inl ⟨oth _ _ a1 e1, a, b, oth _ _ a3 e2⟩
        · by_cases hTS : T = S
          · exact .inr ⟨T, f, _, oth _ _ a1 e1, by rw [hTS]; exact Heap.get?_update_self _ hS' rfl⟩
          · exact .inr ⟨T, f, oT, oth _ _ a1 e1, oth _ _ hTS e2⟩
      · exact (hl1.at fun o e => hkp _ o D.l1z D.l1TO D.l1i1 D.l1i2 e).at fun o e => oth _ o a6 e
      · exact (hl2.at fun o e => hkp _ o D.l2z D.l2TO D.l2i1 D.l2i2 e).at fun o e => oth _ o a7 e
      · refine (PairsAt.push ?_ sT hix hiy hT').keep fun b o hb e => oth b o (Nat.ne_of_gt hb) e
        exact hacc.keep fun b o hb e => hkp b o (Nat.ne_of_gt (Nat.lt_trans z0 hb)) (Nat.ne_of_gt (Nat.lt_trans TO0 hb)) (Nat.ne_of_gt (Nat.lt_trans i10 hb)) (Nat.ne_of_gt (Nat.lt_trans i20 hb)) e
      · exact fun h'' acc' c' kp e pa => hR h'' acc' c' (fun b o b1 b2 b3 b4 b5 e => kp b o b1 b2 b3 b4 b5 (oth b o b5 (hkp b o b1 b2 b3 b4 e))) e pa
    rcases hz with ⟨hz, a, b, hTO⟩ | ⟨T, f, oT, hz, hT⟩
    · refine wpAny_bind (wpAny_pyNext_zip_item D hz hTI hTO h1 h2 hl1 hl2 hix hiy fun h' b1 b2 b3 b4 b5 b6 b7 => ?_)
      exact go h' (.inr ⟨_, false, _, b1, b5⟩) (b7 _ _ D.TIz D.TITO D.TIi1 D.TIi2 hTI) b3 b4 b5 b6 fun b o c1 c2 c3 c4 e => b7 b o c1 c2 c3 c4 e
    · refine wpAny_bind (wpAny_pyNext_zip_item_held D hz hT hTI h1 h2 hl1 hl2 hix hiy fun h' b1 b3 b4 b5 b6 b7 => ?_)
      refine go h' (.inr ⟨T, true, ?_⟩) (b7 _ _ D.TIz D.TIi1 D.TIi2 hTI) b3 b4 b5 b6 fun b o c1 c2 c3 c4 e => b7 b o c1 c3 c4 e
      by_cases t1 : T = z
      · exact ⟨_, b1, by rw [t1]; exact b1⟩
      · by_cases t2 : T = i1
        · obtain ⟨o, e, _⟩ := b3
          exact ⟨o, b1, by rw [t2]; exact e⟩
        · by_cases t3 : T = i2
          · obtain ⟨o, e, _⟩ := b4
            exact ⟨o, b1, by rw [t3]; exact e⟩
          · exact ⟨oT, b1, b7 _ _ t1 t2 t3 hT⟩
end
section
variable {prog : Program} {w : World} {A : Around} {E : Value → Shared → Prop} {s : Shared} {z TI TO i1 i2 l1 l2 : Addr} {xs ys : Array Value} {n : Nat}
theorem zip_no_len : typeLookup (.type "zip") "__len__" = pure none := by rw [typeLookup_type, builtinLookup_eq_fast]; kernel_rfl
theorem zip_no_hint : typeLookup (.type "zip") "__length_hint__" = pure none := by rw [typeLookup_type, builtinLookup_eq_fast]; kernel_rfl
/-- list.__init__ of a zip -/
theorem zip_init {R : Result → Shared → Prop} {S : Addr} (hh : A.handled = none) (D : ZipApart z TI TO i1 i2 l1 l2) (hS : z < S ∧ TI < S ∧ TO < S ∧ i1 < S ∧ i2 < S ∧ l1 < S ∧ l2 < S) (hx : xs.size = n) (hy : ys.size = n) (hn : n ≤ sizeLine)
    (hz : IsZip s.heap z TI TO .none) (hTI : IsPair s.heap TI (.ref i1) (.ref i2)) (hTO : IsPair s.heap TO .none .none) (h1 : s.heap.IsListIter i1 l1 0) (h2 : s.heap.IsListIter i2 l2 0) (hl1 : s.heap.IsList l1 xs) (hl2 : s.heap.IsList l2 ys)
    (hS0 : s.heap.get? S = some { cls := .type "list", data := .seq #[] })
    (hR : ∀ h' acc' c', KeptBut z TO i1 i2 S s.heap h' → h'.get? S = some { cls := .type "list", dict := none, data := .seq acc' c', slots := #[] } → PairsAt h' S xs ys acc' n → R (.ok (.ret .none)) { s with heap := h' }) :
    wpAny (model prog w) A.in1 (Builtin.«list.__init__» ⟨[.ref S, .ref z], []⟩)
      (fun fin s' => match fin with | .done f => R (.ok f) s' | .again c' => c'.quiet = true ∧ codeAny (model prog w) A c' R s') (fun e s' => R (.error e) s') s := by
  obtain ⟨z0, TI0, TO0, i10, i20, l10, l20⟩ := id hS
  show wpAny _ _ (do let old ← Builtin.List.listItems (.ref S); Builtin.List.listUpdate (.ref S) (fun _ => #[]); letGo old.toList.reverse; Builtin.List.listExtendWith (.ref S) (.ref z) .none) _ _ s
  refine wpAny_bind ?_
  unfold Builtin.List.listItems
  refine wpAny_bind (wpAny_seqItems hS0 rfl (wpAny_pure ?_))
  show wpAny _ _ (updateSeq S (fun _ => #[]) >>= fun _ => letGo (#[] : Array Value).toList.reverse >>= fun _ => Builtin.List.listExtendWith (.ref S) (.ref z) .none) _ _ s
  refine wpAny_bind (wpAny_updateSeq hS0 rfl ?_)
  have hS1 := Heap.get?_update_self (Obj.mapSeq (fun _ => (#[] : Array Value))) hS0 rfl
  generalize hh1 : s.heap.update S (Obj.mapSeq (fun _ => (#[] : Array Value))) = g1 at hS1 ⊢
  have o1 : ∀ b o, b ≠ S → s.heap.get? b = some o → g1.get? b = some o := fun b o hb e => by
    rw [← hh1]
    exact (Heap.get?_update_other _ _ (Ne.symm hb)).trans e
  refine wpAny_bind (wpAny_letGo ?_)
  have ne : ∀ {b : Addr}, b < S → b ≠ S := fun e => Nat.ne_of_lt e
  have hz1 := o1 _ _ (ne z0) hz
  have hT : ({ s with heap := g1 } : Shared).TypeIs (.ref z) "zip" := ⟨_, hz1, rfl⟩
  unfold Builtin.List.listExtendWith
  refine wpAny_bind (wpAny_typeOf hT ?_)
  have f1 : Builtin.List.listSameRef (.ref S) (.ref z) = false := by simp [Builtin.List.listSameRef, (ne z0).symm]
  have f2 : (Value.type "zip" == Value.type "list") = false := by decide
  have f3 : (Value.type "zip" == Value.type "tuple") = false := by decide
  simp only [f1, f2, f3, Bool.or_false, Bool.false_eq_true, if_false]
  refine wpAny_bind (wpAny_pyIter_zip hz1 ?_)
  refine wpAny_bind (wpAny_holding ?_)
  unfold Builtin.List.listLengthHint
  refine wpAny_bind (wpAny_specialOf hT zip_no_len ?_)
  show wpAny _ A.in1 (specialOf (Value.ref z) (Str.ofString "__length_hint__") >>= _) _ _ _
  refine wpAny_bind (wpAny_specialOf hT zip_no_hint ?_)
  refine wpAny_pure ?_
  show wpAny _ A.in1 (rule "list.extend.makes-room" >>= fun _ => Builtin.List.listTouch (.ref S) >>= fun _ => again (.builtin "list.extend.loop" ⟨[.ref S, .ref z, .none], []⟩)) _ _ _
  refine wpAny_bind (wpAny_rule (wpAny_bind ?_))
  show wpAny _ A.in1 (updateSeq S (·.push .none) >>= fun _ => updateSeq S (·.pop)) _ _ _
  refine wpAny_bind (wpAny_updateSeq hS1 rfl ?_)
  have hS2 := Heap.get?_update_self (Obj.mapSeq (·.push Value.none)) hS1 rfl
  generalize hh2 : g1.update S (Obj.mapSeq (·.push Value.none)) = g2 at hS2 ⊢
  refine wpAny_updateSeq hS2 rfl ?_
  have hS3 := Heap.get?_update_self (Obj.mapSeq (·.pop)) hS2 rfl
  generalize hh3 : g2.update S (Obj.mapSeq (·.pop)) = g3 at hS3 ⊢
  have o3 : ∀ b o, b ≠ S → s.heap.get? b = some o → g3.get? b = some o := fun b o hb e => by
    rw [← hh3]
    refine (Heap.get?_update_other _ _ (Ne.symm hb)).trans ?_
    rw [← hh2]
    exact (Heap.get?_update_other _ _ (Ne.symm hb)).trans (o1 b o hb e)
  refine wpAny_pure ⟨plainId_quiet F.plain_extend_loop _, zip_loop hh D hS hx hy hn n 0 _ _ _ rfl (Nat.zero_le _) (.inl ⟨o3 _ _ (ne z0) hz, _, _, o3 _ _ (ne TO0) hTO⟩) (o3 _ _ (ne TI0) hTI)
    (h1.at fun o e => o3 _ o (ne i10) e) (h2.at fun o e => o3 _ o (ne i20) e) (hl1.at fun o e => o3 _ o (ne l10) e) (hl2.at fun o e => o3 _ o (ne l20) e) hS3 ⟨rfl, fun j u e => by simp at e⟩ fun h' acc' c' kp e pa => ?_⟩
  exact hR h' acc' c' (fun b o b1 b2 b3 b4 b5 e => kp b o b1 b2 b3 b4 b5 (o3 b o b5 e)) e pa
theorem call_list_zip {Q : Value → Shared → Prop} (hh : A.handled = none) (D : ZipApart z TI TO i1 i2 l1 l2) (hx : xs.size = n) (hy : ys.size = n) (hn : n ≤ sizeLine)
    (hz : IsZip s.heap z TI TO .none) (hTI : IsPair s.heap TI (.ref i1) (.ref i2)) (hTO : IsPair s.heap TO .none .none) (h1 : s.heap.IsListIter i1 l1 0) (h2 : s.heap.IsListIter i2 l2 0) (hl1 : s.heap.IsList l1 xs) (hl2 : s.heap.IsList l2 ys)
    (hQ : ∀ h' acc' c', (∀ b o, b ≠ z → b ≠ TO → b ≠ i1 → b ≠ i2 → s.heap.get? b = some o → h'.get? b = some o) → h'.get? s.heap.objs.size = some { cls := .type "list", dict := none, data := .seq acc' c', slots := #[] } →
      PairsAt h' s.heap.objs.size xs ys acc' n → Q (.ref s.heap.objs.size) { s with heap := h' }) : wpAny (model prog w) A (call (.type "list") [.ref z]) Q E s := by
  have lt : ∀ {b : Addr} {o : Obj}, s.heap.get? b = some o → b < s.heap.objs.size := fun e => Heap.lt_size e
  have hS : z < s.heap.objs.size ∧ TI < s.heap.objs.size ∧ TO < s.heap.objs.size ∧ i1 < s.heap.objs.size ∧ i2 < s.heap.objs.size ∧ l1 < s.heap.objs.size ∧ l2 < s.heap.objs.size := by
    obtain ⟨o1, e1, _⟩ := id h1
    obtain ⟨o2, e2, _⟩ := id h2
    obtain ⟨o3, e3, _⟩ := id hl1
    obtain ⟨o4, e4, _⟩ := id hl2
    exact ⟨lt hz, lt hTI, lt hTO, lt e1, lt e2, lt e3, lt e4⟩
  refine callType_codes (Q₁ := fun obj s₁ => obj = .ref s.heap.objs.size ∧ s₁ = { s with heap := s.heap.push { cls := .type "list", data := .seq #[] } }) F.called_list (F.typeCall_list_1 _) F.entry_list_init
    (code_list_new _ ⟨rfl, rfl⟩) fun obj s₁ h₁ => ?_
  obtain ⟨rfl, rfl⟩ := h₁
  have up : ∀ {b : Addr} {o : Obj}, s.heap.get? b = some o → (s.heap.push { cls := .type "list", data := .seq #[] }).get? b = some o := fun e => Heap.get?_push_of_some _ e
  have hS0 : (s.heap.push { cls := .type "list", data := .seq #[] }).get? s.heap.objs.size = some { cls := .type "list", data := .seq #[] } := Heap.get?_push_size _ rfl
  refine ⟨⟨_, hS0, rfl⟩, F.args_list_init_2 _ _, zip_init hh D hS hx hy hn (up hz) (up hTI) (up hTO) (h1.at fun o e => up e) (h2.at fun o e => up e) (hl1.at fun o e => up e) (hl2.at fun o e => up e) hS0 fun h' acc' c' kp e pa => ?_⟩
  exact ⟨rfl, hQ h' acc' c' (fun b o b1 b2 b3 b4 e => kp b o b1 b2 b3 b4 (Nat.ne_of_lt (lt e)) (up e)) e pa⟩
end

/-! ### over the layer -/
section
variable {X : Cx} {pins : List (Addr × Obj)} {σ : L2.St} {H : Hp} {s : Shared} {h' : Heap}
/-- new objects laid and tracked, many at once -/
def plus (H N : Hp) : Hp := fun b => match H b with
  | some o => some o
  | none => N b
theorem plus_old {H N : Hp} {b : Addr} {o : HO} (e : H b = some o) : plus H N b = some o := by
  unfold plus
  rw [e]
theorem plus_new {H N : Hp} {b : Addr} (e : H b = none) : plus H N b = N b := by
  unfold plus
  rw [e]
theorem inv_news {t' : Nat} (I : Inv X pins σ H s) (k : ∀ b u, s.heap.get? b = some u → h'.get? b = some u) (N : Hp) (hN : ∀ b o, N b = some o → s.heap.objs.size ≤ b ∧ ObjOk X.prog X.w (plus H N) h' b o) :
    Inv X pins σ (plus H N) { s with heap := h', toks := t' } := by
  have old : ∀ {b : Addr} {o : Obj}, s.heap.get? b = some o → N b = none := fun {b o} e => by
    cases q : N b with
    | none => rfl
    | some u => exact absurd (Nat.lt_of_lt_of_le (Heap.lt_size e) (hN b u q).1) (Nat.lt_irrefl _)
  refine I.un (t' := t') ⟨fun b u q _ _ _ => k b u q, fun b u q _ _ _ => ⟨u.slots, k b u q⟩, fun b u q n _ => ?_, fun b u q _ => ⟨u, k b u q⟩, fun b xs q => plus_old q, fun b u xs q => plus_old q, fun b ps q => ⟨#[], by rw [plus_old q]; simp⟩⟩ fun b o e => ?_
  · rw [plus_new n]
    exact old q
  · cases hb : H b with
    | some u =>
      rw [plus_old hb] at e
      cases e
      exact (I.hok b o hb).stay (fun c v _ q => k c v q) (fun c q => plus_old q) fun c xs q => plus_old q
    | none =>
      rw [plus_new hb] at e
      exact (hN b o e).2
theorem relV_one {v v' : V} {u : Value} (h : L2.RelV v u) (h' : L2.RelV v' u) : v = v' := by
  cases v <;> cases v' <;> simp_all [L2.RelV] <;> (obtain ⟨t, h⟩ := h; simp_all)
def refOf : Value → Addr
  | .ref a => a
  | _ => 0
def tListZip (K : PySem.W.Frag) (t : TA) : TE := fun σ H Q => t σ H fun vs H1 => ∃ (a b : Addr) (xs ys : List V), vs = [.ref a, .ref b] ∧ SqL K H1 a xs ∧ SqL K H1 b ys ∧ xs.length = ys.length ∧
  ∀ (p : Addr) (Ts : List Addr) (H' : Hp), H1 p = none → Same H1 H' → H' p = some (.lst (Ts.map V.ref)) → Ts.length = xs.length →
    (∀ (j : Nat) (T : Addr), Ts[j]? = some T → ∃ x y, xs[j]? = some x ∧ ys[j]? = some y ∧ H' T = some (.tup [x, y])) → Q (.ref p) H'
theorem pe_listZip {K : PySem.W.Frag} {a b : Expr} {t : TA} {p p2 pos pos2 : Pos} (hK : X.K = K) (hc : X.calm = true) (hg : Gl X "list") (hm : X.mg "list" = none) (hg2 : Gl X "zip") (hm2 : X.mg "zip" = none) (ha : PA X [a, b] t)
    (na : starEach [Expr.Call (.Name "zip" p2) [a, b] [] pos2] X.env = (false, eval (.Call (.Name "zip" p2) [a, b] [] pos2) X.env) :: starEach [] X.env := by rfl)
    (hs : starEach [a, b] X.env = (false, eval a X.env) :: starEach [b] X.env := by rfl) (hpl : (backTo pos2 (starEach [b] X.env)).any (·.1) = false := by rfl) :
    PE X (.Call (.Name "list" p) [.Call (.Name "zip" p2) [a, b] [] pos2] [] pos) (tListZip K t) := by
  subst hK
  refine ⟨fun pins s σ H Q I h => ?_⟩
  refine Call_ (ld_blt I hg hm boot_list (PyProof.Rows.callWith_type1 (args_cons ?_ na) na))
  refine Call_ (ld_blt I hg2 hm2 PyProof.Rows.boot_zip (PyProof.Rows.callWith_type1 (thn (ha.run pos2 pins s σ H _ I h) fun us s1 ⟨vs, H1, I1, r1, q1⟩ => ?_) hs hpl))
  obtain ⟨a1, b1, xs, ys, rfl, hqx, hqy, hlen, q⟩ := q1
  cases r1 with
  | cons r rr =>
    cases rr with
    | cons r' rr =>
      cases rr
      cases r
      cases r'
      obtain ⟨its, rv, p1, hz1⟩ := I1.list hqx
      obtain ⟨its2, rv2, p22, _⟩ := I1.list hqy
      have la : a1 < s1.heap.objs.size := p1.lt
      have lb : b1 < s1.heap.objs.size := p22.lt
      refine call_zip_2 p1.isList p22.isList fun h1 hz hTI hTO hi1 hi2 hsz hk => args_nil ?_
      have e1 := rv.length
      have e2 := rv2.length
      refine call_list_zip (n := xs.length) (I1.ok.hd hc) (PySem.W.ktu_apart s1.heap.objs.size a1 b1 la lb) (by rw [List.size_toArray]; exact e1.symm) (by rw [List.size_toArray]; omega) hz1 hz hTI hTO hi1 hi2 (p1.isList.at fun o e => hk _ o e) (p22.isList.at fun o e => hk _ o e) fun h2 acc c kp eS pa => ?_
      have kept : ∀ b o, s1.heap.get? b = some o → h2.get? b = some o := fun b o e => by
        have lt := Heap.lt_size e
        exact kp b o (Nat.ne_of_lt (Nat.lt_of_lt_of_le lt (Nat.le_add_right _ _))) (Nat.ne_of_lt (Nat.lt_of_lt_of_le lt (Nat.le_add_right _ _))) (Nat.ne_of_lt lt) (Nat.ne_of_lt (Nat.lt_of_lt_of_le lt (Nat.le_add_right _ _))) (hk b o e)
      have hS : s1.heap.objs.size ≤ h1.objs.size := by omega
      obtain ⟨pl, pi⟩ := pa
      generalize hT : acc.toList.map refOf = Ts
      have tl : Ts.length = xs.length := by
        rw [← hT, List.length_map, Array.length_toList]
        exact pl
      have tat : ∀ (j : Nat) (T : Addr), Ts[j]? = some T → ∃ (x y : Value), acc.toList[j]? = some (.ref T) ∧ h1.objs.size < T ∧ its[j]? = some x ∧ its2[j]? = some y ∧ IsPair h2 T x y := fun j T e => by
        rw [← hT, List.getElem?_map] at e
        cases e3 : acc.toList[j]? with
        | none =>
          rw [e3] at e
          cases e
        | some u =>
          rw [e3] at e
          obtain ⟨T', x, y, rfl, g1, g2, g3, g4⟩ := pi j u (by rw [← Array.getElem?_toList]; exact e3)
          cases e
          exact ⟨x, y, rfl, g1, by simpa using g2, by simpa using g3, g4⟩
      have vr : Vals (Ts.map V.ref) acc.toList := by
        rw [← hT]
        have : ∀ l : List Value, (∀ u ∈ l, ∃ T : Addr, u = Value.ref T) → Vals ((l.map refOf).map V.ref) l := by
          intro l
          induction l with
          | nil => exact fun _ => .nil
          | cons u l ih =>
            intro hu
            obtain ⟨T, rfl⟩ := hu u List.mem_cons_self
            exact .cons rfl (ih fun v hv => hu v (List.mem_cons_of_mem _ hv))
        refine this _ fun u hu => ?_
        obtain ⟨j, hj, rfl⟩ := List.mem_iff_getElem.mp hu
        obtain ⟨T, _, _, e, _⟩ := pi j acc.toList[j] (by rw [← Array.getElem?_toList]; exact List.getElem?_eq_getElem hj)
        exact ⟨T, e⟩
      -- what is new
      generalize hN : (fun b => if b = h1.objs.size then some (HO.lst (Ts.map V.ref)) else if b ∈ Ts then some (HO.tup [xs.getD (Ts.idxOf b) .non, ys.getD (Ts.idxOf b) .non]) else none : Hp) = N
      have nS : N h1.objs.size = some (.lst (Ts.map V.ref)) := by
        rw [← hN]
        exact if_pos rfl
      have item : ∀ (j : Nat) (T : Addr), Ts[j]? = some T → ∃ x y, xs[j]? = some x ∧ ys[j]? = some y ∧ N T = some (.tup [x, y]) ∧ s1.heap.objs.size ≤ T ∧ ∃ its3 : List Value, Vals [x, y] its3 ∧ IsTup h2 T its3.toArray := fun j T e => by
        obtain ⟨x, y, _, g1, g2, g3, g4⟩ := tat j T e
        have jl : j < xs.length := by
          have := (List.getElem?_eq_some_iff.mp e).1
          omega
        have gx : xs[j]? = some xs[j] := List.getElem?_eq_getElem jl
        have gy : ys[j]? = some (ys[j]'(by omega)) := List.getElem?_eq_getElem (by omega)
        obtain ⟨x', ex', rx⟩ := rv.get gx
        obtain ⟨y', ey', ry⟩ := rv2.get gy
        rw [g2] at ex'
        rw [g3] at ey'
        cases ex'
        cases ey'
        refine ⟨_, _, gx, gy, ?_, Nat.le_of_lt (Nat.lt_of_le_of_lt hS g1), [x, y], .cons rx (.cons ry .nil), ⟨_, g4, rfl, _, rfl⟩⟩
        have hmem : T ∈ Ts := List.mem_of_getElem? e
        rw [← hN]
        show (if T = h1.objs.size then _ else if T ∈ Ts then _ else _) = _
        rw [if_neg (Nat.ne_of_gt g1), if_pos hmem]
        -- the first place of T bears the same pair
        have il : Ts.idxOf T < Ts.length := List.idxOf_lt_length_iff.mpr hmem
        have ie : Ts[Ts.idxOf T]? = some T := by
          rw [List.getElem?_eq_getElem il, List.getElem_idxOf il]
        obtain ⟨x2, y2, _, _, k2, k3, k4⟩ := tat _ T ie
        have e4 : (#[x, y] : Array Value) = #[x2, y2] := by
          have z : some ({ cls := .type "tuple", data := .seq #[x, y] } : Obj) = some { cls := .type "tuple", data := .seq #[x2, y2] } := g4.symm.trans k4
          injection z with z
          injection z with _ _ z
          injection z
        have gx2 : xs[Ts.idxOf T]? = some (xs[Ts.idxOf T]'(by omega)) := List.getElem?_eq_getElem (by omega)
        have gy2 : ys[Ts.idxOf T]? = some (ys[Ts.idxOf T]'(by omega)) := List.getElem?_eq_getElem (by omega)
        obtain ⟨u, eu, ru⟩ := rv.get gx2
        obtain ⟨v, ev, rw2⟩ := rv2.get gy2
        rw [k2] at eu
        rw [k3] at ev
        cases eu
        cases ev
        injection e4 with e4
        injection e4 with h5 h6
        injection h6 with h6 _
        subst h5 h6
        have q1 := relV_one ru rx
        have q2 := relV_one rw2 ry
        rw [List.getD_eq_getElem?_getD, List.getD_eq_getElem?_getD, gx2, gy2, ← q1, ← q2]
        rfl
      have inN : ∀ b o, N b = some o → b = h1.objs.size ∨ b ∈ Ts := fun b o e => by
        rw [← hN] at e
        by_cases hb : b = h1.objs.size
        · exact .inl hb
        · by_cases hm : b ∈ Ts
          · exact .inr hm
          · have e' : (if b = h1.objs.size then some (HO.lst (Ts.map V.ref)) else if b ∈ Ts then some (HO.tup [xs.getD (Ts.idxOf b) .non, ys.getD (Ts.idxOf b) .non]) else none) = some o := e
            rw [if_neg hb, if_neg hm] at e'
            cases e'
      have J : Inv X pins σ (plus H1 N) { s1 with heap := h2 } := inv_news (t' := s1.toks) I1 kept N fun b o e => by
        rcases inN b o e with rfl | hm
        · rw [nS] at e
          cases e
          exact ⟨hS, by rw [List.length_map, tl]; exact hz1, acc.toList, c, vr, by rw [Array.toArray_toList]; exact eS⟩
        · obtain ⟨j, hj, rfl⟩ := List.mem_iff_getElem.mp hm
          obtain ⟨x, y, _, _, e5, le, its3, v3, t3⟩ := item j _ (List.getElem?_eq_getElem hj)
          rw [e5] at e
          cases e
          exact ⟨le, by show 2 ≤ sizeLine; rw [sizeLine_eq]; decide, its3, v3, t3⟩
      refine ⟨.ref h1.objs.size, plus H1 N, J, rfl, q h1.objs.size Ts _ (I1.hok.fresh hS) (fun b o e => plus_old e) ?_ tl fun j T e => ?_⟩
      · rw [plus_new (I1.hok.fresh hS)]
        exact nS
      · obtain ⟨x, y, g1, g2, g3, le, _⟩ := item j T e
        exact ⟨x, y, g1, g2, by rw [plus_new (I1.hok.fresh le)]; exact g3⟩
end
end KT

/-! Fractions, what two times ask, the least width. -/
namespace KT
open PySem PySem.Spec PyProof.Rows L2
/-! ### lowest terms -/
abbrev Fr := Int × Int
def gI (t b : Int) : Int := (Int.gcd t b : Int)
def lowF (t b : Int) : Fr := (t / gI t b, b / gI t b)
theorem gI_pos {t b : Int} (hb : 0 < b) : 0 < gI t b := by
  have : 0 < Int.gcd t b := Int.gcd_pos_of_ne_zero_right t (by omega)
  unfold gI
  omega
theorem gI_le {t b : Int} (hb : 0 < b) : gI t b ≤ b := Int.le_of_dvd hb (Int.gcd_dvd_right ..)
theorem low_top (t b : Int) : gI t b * (lowF t b).1 = t := Int.mul_ediv_cancel' (Int.gcd_dvd_left ..)
theorem low_bot (t b : Int) : gI t b * (lowF t b).2 = b := Int.mul_ediv_cancel' (Int.gcd_dvd_right ..)
theorem low_pos {t b : Int} (hb : 0 < b) : 0 < (lowF t b).2 := by
  have h := low_bot t b
  have g := gI_pos (t := t) hb
  have p : 0 < gI t b * (lowF t b).2 := by rw [h]; exact hb
  exact Int.pos_of_mul_pos_right p g
theorem low_top_abs (t b : Int) (hb : 0 < b) : (lowF t b).1.natAbs ≤ t.natAbs := by
  have h := congrArg Int.natAbs (low_top t b)
  rw [Int.natAbs_mul] at h
  have g := gI_pos (t := t) hb
  have g1 : 1 ≤ (gI t b).natAbs := by omega
  rw [← h]
  exact Nat.le_mul_of_pos_left _ g1
theorem low_bot_le {t b : Int} (hb : 0 < b) : (lowF t b).2 ≤ b := Int.ediv_le_self _ (Int.le_of_lt hb)
/-- comparing by cross products does not see a common factor -/
theorem low_lt {t b t' b' : Int} (hb : 0 < b) (hb' : 0 < b') : (lowF t b).1 * (lowF t' b').2 < (lowF t' b').1 * (lowF t b).2 ↔ t * b' < t' * b := by
  have g := gI_pos (t := t) hb
  have g' := gI_pos (t := t') hb'
  have e1 : t * b' = (gI t b * gI t' b') * ((lowF t b).1 * (lowF t' b').2) := by
    conv => lhs; rw [← low_top t b, ← low_bot t' b']
    simp only [Int.mul_assoc, Int.mul_left_comm, Int.mul_comm]
  have e2 : t' * b = (gI t b * gI t' b') * ((lowF t' b').1 * (lowF t b).2) := by
    conv => lhs; rw [← low_top t' b', ← low_bot t b]
    simp only [Int.mul_assoc, Int.mul_left_comm, Int.mul_comm]
  rw [e1, e2]
  exact (Int.mul_lt_mul_left (Int.mul_pos g g')).symm
theorem low_zero : lowF 0 1 = (0, 1) := by decide
theorem low_low {t b : Int} (hb : 0 < b) : lowF (lowF t b).1 (lowF t b).2 = lowF t b := by
  have g := gI_pos (t := t) hb
  have h : gI (lowF t b).1 (lowF t b).2 = 1 := by
    unfold gI lowF gI
    have := Int.gcd_ediv_gcd_ediv_gcd (i := t) (j := b) (by
      have : 0 < Int.gcd t b := Int.gcd_pos_of_ne_zero_right t (by omega)
      exact this)
    rw [this]
    rfl
  unfold lowF at h ⊢
  simp only at h ⊢
  rw [h]
  simp
/-! ### what two times ask -/
def at_ (l : List Int) (i : Nat) : Int := l.getD i 0
theorem at_get {l : List Int} {i : Nat} {z : Int} (h : l[i]? = some z) : at_ l i = z := by
  unfold at_
  rw [List.getD_eq_getElem?_getD, h]
  rfl
theorem get_at {l : List Int} {i : Nat} (h : i < l.length) : l[i]? = some (at_ l i) := by
  rw [List.getElem?_eq_getElem h, at_get (List.getElem?_eq_getElem h)]
def askT (ts ks : List Int) (i j : Nat) : Int := at_ ts i * at_ ks j - at_ ts j * at_ ks i
def askB (ts : List Int) (i j : Nat) : Int := at_ ts i + at_ ts j
/-- all pairs of numbers, in order -/
def pairs (n : Nat) : List (Nat × Nat) := (List.range n).flatMap fun i => (List.range n).map fun j => (i, j)
/-- the greatest so far, with the pair that asks it first -/
abbrev Best := (Int × Int) × (Nat × Nat)
def stepB (ts ks : List Int) (s : Best) (p : Nat × Nat) : Best :=
  if s.1.1 * askB ts p.1 p.2 < askT ts ks p.1 p.2 * s.1.2 then ((askT ts ks p.1 p.2, askB ts p.1 p.2), p) else s
def bestOf (ts ks : List Int) : Best := (pairs ts.length).foldl (stepB ts ks) ((0, 1), (0, 0))
/-- the least width, in lowest terms, and its pair -/
def widthOf (ts ks : List Int) : Fr × (Nat × Nat) := (lowF (bestOf ts ks).1.1 (bestOf ts ks).1.2, (bestOf ts ks).2)
/-- times and a reading of them -/
structure TR (ts ks : List Int) : Prop where
  t : ∀ (i : Nat) (z : Int), ts[i]? = some z → 1 ≤ z ∧ z ≤ 9999
  k : ∀ (i : Nat) (z : Int), ks[i]? = some z → z = 1 ∨ z = 3 ∨ z = 7
  len : ks.length = ts.length
  le : ts.length ≤ 25
section
variable {ts ks : List Int} {i j : Nat}
theorem TR.ti (h : TR ts ks) (hi : i < ts.length) : 1 ≤ at_ ts i ∧ at_ ts i ≤ 9999 := h.t i _ (get_at hi)
theorem TR.ki (h : TR ts ks) (hi : i < ts.length) : at_ ks i = 1 ∨ at_ ks i = 3 ∨ at_ ks i = 7 := h.k i _ (get_at (by rw [h.len]; exact hi))
theorem TR.bot (h : TR ts ks) (hi : i < ts.length) (hj : j < ts.length) : 0 < askB ts i j ∧ askB ts i j ≤ 19998 := by
  have a := h.ti hi
  have b := h.ti hj
  unfold askB
  omega
theorem TR.top (h : TR ts ks) (hi : i < ts.length) (hj : j < ts.length) : -100000 ≤ askT ts ks i j ∧ askT ts ks i j ≤ 100000 := by
  have a := h.ti hi
  have b := h.ti hj
  unfold askT
  rcases h.ki hi with e | e | e <;> rcases h.ki hj with f | f | f <;> rw [e, f] <;> omega
/-- what the best so far is -/
structure BestOk (ts ks : List Int) (s : Best) : Prop where
  pos : 0 < s.1.2
  b : s.1.2 ≤ 19998
  t0 : 0 ≤ s.1.1
  t1 : s.1.1 ≤ 100000
  p1 : s.2.1 < ts.length
  p2 : s.2.2 < ts.length
theorem BestOk.start (hn : 0 < ts.length) : BestOk ts ks ((0, 1), (0, 0)) := ⟨by decide, by decide, by decide, by decide, hn, hn⟩
theorem BestOk.step (h : TR ts ks) {s : Best} (o : BestOk ts ks s) {p : Nat × Nat} (h1 : p.1 < ts.length) (h2 : p.2 < ts.length) : BestOk ts ks (stepB ts ks s p) := by
  unfold stepB
  by_cases c : s.1.1 * askB ts p.1 p.2 < askT ts ks p.1 p.2 * s.1.2
  · rw [if_pos c]
    have b := h.bot h1 h2
    have t := h.top h1 h2
    refine ⟨b.1, b.2, ?_, t.2, h1, h2⟩
    have z : 0 ≤ s.1.1 * askB ts p.1 p.2 := Int.mul_nonneg o.t0 (by omega)
    have z2 : 0 < askT ts ks p.1 p.2 * s.1.2 := by omega
    have := Int.pos_of_mul_pos_left z2 o.pos
    exact Int.le_of_lt this
  · rw [if_neg c]
    exact o
theorem mem_pairs {n : Nat} {p : Nat × Nat} : p ∈ pairs n ↔ p.1 < n ∧ p.2 < n := by
  unfold pairs
  rw [List.mem_flatMap]
  constructor
  · rintro ⟨i, hi, hp⟩
    rw [List.mem_map] at hp
    obtain ⟨j, hj, rfl⟩ := hp
    exact ⟨List.mem_range.mp hi, List.mem_range.mp hj⟩
  · intro ⟨h1, h2⟩
    exact ⟨p.1, List.mem_range.mpr h1, List.mem_map.mpr ⟨p.2, List.mem_range.mpr h2, rfl⟩⟩
theorem BestOk.fold (h : TR ts ks) : ∀ (l : List (Nat × Nat)) (s : Best), (∀ p ∈ l, p.1 < ts.length ∧ p.2 < ts.length) → BestOk ts ks s → BestOk ts ks (l.foldl (stepB ts ks) s)
  | [], _, _, o => o
  | p :: l, s, hl, o => BestOk.fold h l _ (fun q hq => hl q (List.mem_cons_of_mem _ hq)) (o.step h (hl p List.mem_cons_self).1 (hl p List.mem_cons_self).2)
theorem best_ok (h : TR ts ks) (hn : 0 < ts.length) : BestOk ts ks (bestOf ts ks) := BestOk.fold h _ _ (fun p hp => mem_pairs.mp hp) (BestOk.start hn)
end
/-! ### the pairs ahead of one -/
def pre (n i j : Nat) : List (Nat × Nat) := ((List.range i).flatMap fun a => (List.range n).map fun b => (a, b)) ++ (List.range j).map fun b => (i, b)
theorem pre_zero (n : Nat) : pre n 0 0 = [] := rfl
theorem pre_succ (n i j : Nat) : pre n i (j + 1) = pre n i j ++ [(i, j)] := by
  unfold pre
  rw [List.range_succ, List.map_append, List.append_assoc]
  rfl
theorem pre_row (n i : Nat) : pre n (i + 1) 0 = pre n i n := by
  unfold pre
  rw [List.range_succ, List.flatMap_append]
  simp
theorem pre_all (n : Nat) : pre n n 0 = pairs n := by
  unfold pre pairs
  simp
theorem mem_pre {n i j : Nat} {p : Nat × Nat} (hi : i ≤ n) (hj : j ≤ n) (hij : i < n ∨ j = 0) (h : p ∈ pre n i j) : p.1 < n ∧ p.2 < n := by
  unfold pre at h
  rcases List.mem_append.mp h with h | h
  · rw [List.mem_flatMap] at h
    obtain ⟨a, ha, hp⟩ := h
    rw [List.mem_map] at hp
    obtain ⟨b, hb, rfl⟩ := hp
    have := List.mem_range.mp ha
    exact ⟨by show a < n; omega, List.mem_range.mp hb⟩
  · rw [List.mem_map] at h
    obtain ⟨b, hb, rfl⟩ := h
    have := List.mem_range.mp hb
    exact ⟨by show i < n; omega, by show b < n; omega⟩
def bestTo (ts ks : List Int) (i j : Nat) : Best := (pre ts.length i j).foldl (stepB ts ks) ((0, 1), (0, 0))
theorem bestTo_zero (ts ks : List Int) : bestTo ts ks 0 0 = ((0, 1), (0, 0)) := rfl
theorem bestTo_succ (ts ks : List Int) (i j : Nat) : bestTo ts ks i (j + 1) = stepB ts ks (bestTo ts ks i j) (i, j) := by
  unfold bestTo
  rw [pre_succ, List.foldl_append]
  rfl
theorem bestTo_row (ts ks : List Int) (i : Nat) : bestTo ts ks (i + 1) 0 = bestTo ts ks i ts.length := by
  unfold bestTo
  rw [pre_row]
theorem bestTo_all (ts ks : List Int) : bestTo ts ks ts.length 0 = bestOf ts ks := by
  unfold bestTo bestOf
  rw [pre_all]
theorem bestTo_ok {ts ks : List Int} (h : TR ts ks) (hn : 0 < ts.length) {i j : Nat} (hi : i ≤ ts.length) (hj : j ≤ ts.length) (hij : i < ts.length ∨ j = 0) : BestOk ts ks (bestTo ts ks i j) :=
  BestOk.fold h _ _ (fun _ hp => mem_pre hi hj hij hp) (BestOk.start hn)
/-! ### promises -/
def frV (f : Fr) : List V := [.int f.1, .int f.2]
def prV (p : Nat × Nat) : List V := [.int (p.1 : Int), .int (p.2 : Int)]
def Sml (z : Int) : Prop := -18446744073709551616 < z ∧ z < 18446744073709551616
def spLow : Sp := fun vs H Q _ => ∃ t b : Int, vs = [.int t, .int b] ∧ 0 < b ∧ b < 1073741824 ∧ ∀ (p : Addr) (H' : Hp), H p = none → Same H H' → H' p = some (.tup (frV (lowF t b))) → Q (.ref p) H'
def spLess (K : PySem.W.Frag) : Sp := fun vs H Q _ => ∃ (p q : Addr) (f g : Fr), vs = [.ref p, .ref q] ∧ SqT K H p (frV f) ∧ SqT K H q (frV g) ∧ Sml f.1 ∧ Sml g.1 ∧ Q (.bl (decide (f.1 * g.2 < g.1 * f.2))) H
/-- times and a reading stand -/
structure TRAt (K : PySem.W.Frag) (H : Hp) (a b : Addr) (ts ks : List Int) : Prop where
  t : SqL K H a (ts.map V.int)
  k : SqL K H b (ks.map V.int)
  ok : TR ts ks
theorem TRAt.same {K : PySem.W.Frag} {H H' : Hp} {a b : Addr} {ts ks : List Int} (h : TRAt K H a b ts ks) (s : Same H H') : TRAt K H' a b ts ks := ⟨s.seq h.t, s.seq h.k, h.ok⟩
def spAsks (K : PySem.W.Frag) : Sp := fun vs H Q _ => ∃ (a b : Addr) (ts ks : List Int) (i j : Nat), vs = [.ref a, .ref b, .int (i : Int), .int (j : Int)] ∧ TRAt K H a b ts ks ∧ i < ts.length ∧ j < ts.length ∧
  ∀ (p : Addr) (H' : Hp), H p = none → Same H H' → H' p = some (.tup (frV (lowF (askT ts ks i j) (askB ts i j)))) → Q (.ref p) H'
/-- a width with its pair at p -/
structure WAt (H : Hp) (p : Addr) (w : Fr × (Nat × Nat)) : Prop where
  ex : ∃ q r : Addr, H p = some (.tup [.ref q, .ref r]) ∧ H q = some (.tup (frV w.1)) ∧ H r = some (.tup (prV w.2))
theorem WAt.same {H H' : Hp} {p : Addr} {w : Fr × (Nat × Nat)} (h : WAt H p w) (s : Same H H') : WAt H' p w := by
  obtain ⟨q, r, a, b, c⟩ := h.ex
  exact ⟨q, r, s _ _ a, s _ _ b, s _ _ c⟩
def spWidthL (K : PySem.W.Frag) : Sp := fun vs H Q _ => ∃ (a b : Addr) (ts ks : List Int), vs = [.ref a, .ref b] ∧ TRAt K H a b ts ks ∧ 0 < ts.length ∧ ∀ (p : Addr) (H' : Hp), Same H H' → WAt H' p (widthOf ts ks) → Q (.ref p) H'
end KT

/-! What the program's defs promise where nothing is refused. -/
namespace KT
open PySem PySem.Spec PyProof.Rows L2
/-- an inner loop of a comprehension -/
theorem lc_in {J : It} {n : Nat} {G : Hp → Prop} {Y : Nat → Hp → V → Hp → Prop} (w : Walk J n G Y) {g : TG} {tt : TT} {te : TE} {vs : List Nat} {σ : L2.St} {H1 : Hp} {D : Addr} {Nx : Hp → Prop} (Pv : Nat → Hp → Prop) (h0 : Pv 0 H1) (hG : ∀ i H, i ≤ n → Pv i H → G H)
    (hs : ∀ i x H H', i < n → Pv i H → Y i H x H' → g x (wipe σ vs) H' fun σ2 H2 => wipe σ2 vs = wipe σ vs ∧ tt σ2 H2 fun b H3 =>
      if b = true then te σ2 H3 fun y H4 => ∃ acc, H4 D = some (.lst acc) ∧ acc.length < sizeLine ∧ Pv (i + 1) (upd H4 D (.lst (acc ++ [y]))) else Pv (i + 1) H3) (hd : ∀ H, Pv n H → Nx H) :
    ∃ W : Nat → Nat → Hp → Prop, (∃ m, W 0 m H1) ∧ ∀ i m H, W i m H →
      (J.stop i H ∧ Nx H) ∨ (J.go i H ∧ ∃ N1 : Hp → Prop, (∀ H', N1 H' → ∃ m', m' < m ∧ W (i + 1) m' H') ∧ ∀ x H', J.yld i H x H' → g x (wipe σ vs) H' fun σ2 H2 => wipe σ2 vs = wipe σ vs ∧ tt σ2 H2 fun b H3 =>
        if b = true then te σ2 H3 fun y H4 => ∃ acc, H4 D = some (.lst acc) ∧ acc.length < sizeLine ∧ N1 (upd H4 D (.lst (acc ++ [y]))) else N1 H3) := by
  refine ⟨fun i m H => m = n - i ∧ i ≤ n ∧ Pv i H, ⟨n, by simp, Nat.zero_le _, h0⟩, ?_⟩
  rintro i m H ⟨rfl, hi, p⟩
  have q := hG i H hi p
  by_cases hlt : i < n
  · exact .inr ⟨w.goes i H hlt q, Pv (i + 1), fun H' p' => ⟨n - (i + 1), by omega, rfl, hlt, p'⟩, fun x H' y => hs i x H H' hlt p (w.yields i H x H' hlt q y)⟩
  · have e : i = n := by omega
    subst e
    exact .inl ⟨w.stops H q, hd H p⟩
/-- an outer loop of a comprehension -/
theorem lc_out {J : It} {n : Nat} {G : Hp → Prop} {Y : Nat → Hp → V → Hp → Prop} (w : Walk J n G Y) {g : TG} {tt : TT} {B : (Hp → Prop) → L2.St → Hp → Prop} {vs : List Nat} {σ : L2.St} {H1 : Hp} {Qd : Hp → Prop} (Pv : Nat → Hp → Prop) (h0 : Pv 0 H1) (hG : ∀ i H, i ≤ n → Pv i H → G H)
    (hs : ∀ i x H H', i < n → Pv i H → Y i H x H' → g x (wipe σ vs) H' fun σ2 H2 => wipe σ2 vs = wipe σ vs ∧ tt σ2 H2 fun b H3 => if b = true then B (Pv (i + 1)) σ2 H3 else Pv (i + 1) H3) (hd : ∀ H, Pv n H → Qd H) :
    ∃ W : Nat → Nat → Hp → Prop, (∃ m, W 0 m H1) ∧ ∀ i m H, W i m H →
      (J.stop i H ∧ Qd H) ∨ (J.go i H ∧ ∃ N1 : Hp → Prop, (∀ H', N1 H' → ∃ m', m' < m ∧ W (i + 1) m' H') ∧ ∀ x H', J.yld i H x H' → g x (wipe σ vs) H' fun σ2 H2 => wipe σ2 vs = wipe σ vs ∧ tt σ2 H2 fun b H3 =>
        if b = true then B N1 σ2 H3 else N1 H3) := by
  refine ⟨fun i m H => m = n - i ∧ i ≤ n ∧ Pv i H, ⟨n, by simp, Nat.zero_le _, h0⟩, ?_⟩
  rintro i m H ⟨rfl, hi, p⟩
  have q := hG i H hi p
  by_cases hlt : i < n
  · exact .inr ⟨w.goes i H hlt q, Pv (i + 1), fun H' p' => ⟨n - (i + 1), by omega, rfl, hlt, p'⟩, fun x H' y => hs i x H H' hlt p (w.yields i H x H' hlt q y)⟩
  · have e : i = n := by omega
    subst e
    exact .inl ⟨w.stops H q, hd H p⟩
/-- an inner loop of a comprehension without a test -/
theorem lc_inY {J : It} {n : Nat} {G : Hp → Prop} {Y : Nat → Hp → V → Hp → Prop} (w : Walk J n G Y) {g : TG} {te : TE} {vs : List Nat} {σ : L2.St} {H1 : Hp} {D : Addr} {Nx : Hp → Prop} (Pv : Nat → Hp → Prop) (h0 : Pv 0 H1) (hG : ∀ i H, i ≤ n → Pv i H → G H)
    (hs : ∀ i x H H', i < n → Pv i H → Y i H x H' → g x (wipe σ vs) H' fun σ2 H2 => wipe σ2 vs = wipe σ vs ∧ te σ2 H2 fun y H4 => ∃ acc, H4 D = some (.lst acc) ∧ acc.length < sizeLine ∧ Pv (i + 1) (upd H4 D (.lst (acc ++ [y])))) (hd : ∀ H, Pv n H → Nx H) :
    ∃ W : Nat → Nat → Hp → Prop, (∃ m, W 0 m H1) ∧ ∀ i m H, W i m H →
      (J.stop i H ∧ Nx H) ∨ (J.go i H ∧ ∃ N1 : Hp → Prop, (∀ H', N1 H' → ∃ m', m' < m ∧ W (i + 1) m' H') ∧ ∀ x H', J.yld i H x H' → g x (wipe σ vs) H' fun σ2 H2 => wipe σ2 vs = wipe σ vs ∧ tYes σ2 H2 fun b H3 =>
        if b = true then te σ2 H3 fun y H4 => ∃ acc, H4 D = some (.lst acc) ∧ acc.length < sizeLine ∧ N1 (upd H4 D (.lst (acc ++ [y]))) else N1 H3) := lc_in (tt := tYes) w Pv h0 hG hs hd
/-- an outer loop of a comprehension without a test -/
theorem lc_outY {J : It} {n : Nat} {G : Hp → Prop} {Y : Nat → Hp → V → Hp → Prop} (w : Walk J n G Y) {g : TG} {B : (Hp → Prop) → L2.St → Hp → Prop} {vs : List Nat} {σ : L2.St} {H1 : Hp} {Qd : Hp → Prop} (Pv : Nat → Hp → Prop) (h0 : Pv 0 H1) (hG : ∀ i H, i ≤ n → Pv i H → G H)
    (hs : ∀ i x H H', i < n → Pv i H → Y i H x H' → g x (wipe σ vs) H' fun σ2 H2 => wipe σ2 vs = wipe σ vs ∧ B (Pv (i + 1)) σ2 H2) (hd : ∀ H, Pv n H → Qd H) :
    ∃ W : Nat → Nat → Hp → Prop, (∃ m, W 0 m H1) ∧ ∀ i m H, W i m H →
      (J.stop i H ∧ Qd H) ∨ (J.go i H ∧ ∃ N1 : Hp → Prop, (∀ H', N1 H' → ∃ m', m' < m ∧ W (i + 1) m' H') ∧ ∀ x H', J.yld i H x H' → g x (wipe σ vs) H' fun σ2 H2 => wipe σ2 vs = wipe σ vs ∧ tYes σ2 H2 fun b H3 =>
        if b = true then B N1 σ2 H3 else N1 H3) := lc_out (tt := tYes) w Pv h0 hG hs hd
theorem stepB_pos {ts ks : List Int} {s : Best} {p : Nat × Nat} (c : s.1.1 * askB ts p.1 p.2 < askT ts ks p.1 p.2 * s.1.2) : stepB ts ks s p = ((askT ts ks p.1 p.2, askB ts p.1 p.2), p) := if_pos c
theorem stepB_neg {ts ks : List Int} {s : Best} {p : Nat × Nat} (c : ¬ s.1.1 * askB ts p.1 p.2 < askT ts ks p.1 p.2 * s.1.2) : stepB ts ks s p = s := if_neg c
theorem Tps.tr {ts ks : List Int} (h : Tps ts) (r : Rdg 0 ks) (l : ks.length = ts.length) : TR ts ks := ⟨h.all, fun i z e => kinds_le (r i z e), l, h.le⟩
theorem Tps.pos {ts : List Int} (h : Tps ts) : 0 < ts.length := by
  have := h.odd
  omega
/-! ### taps -/
def spCheckT (K : PySem.W.Frag) : Sp := fun vs H Q _ => ∃ (a : Addr) (ts : List Int), vs = [.ref a] ∧ SqL K H a (ts.map V.int) ∧ Tps ts ∧ ∀ H', Same H H' → Q .non H'
def tapsF (l : Addr) : List (Str × V) := putF "_times" (.ref l) []
structure TapsAt (C : Addr) (H : Hp) (x l : Addr) (ts : List Int) : Prop where
  ob : ∃ dx, H x = some (.ins C dx (tapsF l))
  ls : H l = some (.lst (ts.map V.int))
theorem TapsAt.same {C : Addr} {H H' : Hp} {x l : Addr} {ts : List Int} (h : TapsAt C H x l ts) (s : Same H H') : TapsAt C H' x l ts := by
  obtain ⟨⟨dx, e⟩, e2⟩ := h
  exact ⟨⟨dx, s _ _ e⟩, s _ _ e2⟩
def spTapsInit (K : PySem.W.Frag) (C : Addr) : Sp := fun vs H Q _ => ∃ (x a dx : Addr) (ts : List Int), vs = [.ref x, .ref a] ∧ H x = some (.ins C dx []) ∧ SqL K H a (ts.map V.int) ∧ Tps ts ∧
  ∀ (l : Addr) (H' : Hp), H l = none → (∀ b o, b ≠ x → H b = some o → H' b = some o) → TapsAt C H' x l ts → Q .non H'
def spTapsTimes (C : Addr) : Sp := fun vs H Q _ => ∃ (x l : Addr) (ts : List Int), vs = [.ref x] ∧ TapsAt C H x l ts ∧ ts.length ≤ 1000 ∧ ∀ (p : Addr) (H' : Hp), H p = none → Same H H' → H' p = some (.lst (ts.map V.int)) → Q (.ref p) H'
/-! ### readings -/
def spCheckR (K : PySem.W.Frag) : Sp := fun vs H Q _ => ∃ (a b : Addr) (ts ks : List Int), vs = [.ref a, .ref b] ∧ SqL K H a (ts.map V.int) ∧ SqL K H b (ks.map V.int) ∧ Rdg 0 ks ∧ ks.length = ts.length ∧ ks.length ≤ 1000 ∧ ∀ H', Same H H' → Q .non H'
/-! ### ratios -/
def spLowest (K : PySem.W.Frag) : Sp := fun vs H Q _ => ∃ (p : Addr) (f : Fr), vs = [.ref p] ∧ SqT K H p (frV f) ∧ 0 < f.2 ∧ f.2 < 1073741824 ∧ ∀ (q : Addr) (H' : Hp), H q = none → Same H H' → H' q = some (.tup (frV (lowF f.1 f.2))) → Q (.ref q) H'
def spAbove (K : PySem.W.Frag) : Sp := fun vs H Q _ => ∃ (p q : Addr) (f g : Fr), vs = [.ref p, .ref q] ∧ SqT K H p (frV f) ∧ SqT K H q (frV g) ∧ Sml f.1 ∧ Sml g.1 ∧ Q (.bl (decide (g.1 * f.2 < f.1 * g.2))) H
/-! ### widths -/
def spAsked (K : PySem.W.Frag) : Sp := fun vs H Q _ => ∃ (p q : Addr) (t k t' k' : Int), vs = [.ref p, .ref q] ∧ SqT K H p [.int t, .int k] ∧ SqT K H q [.int t', .int k'] ∧ Sml t ∧ Sml t' ∧
  ∀ (r : Addr) (H' : Hp), H r = none → Same H H' → H' r = some (.tup (frV (t * k' - t' * k, t + t'))) → Q (.ref r) H'
/-- a list of (pair, ratio) -/
def PAt (ts ks : List Int) (H : Hp) (vs : List V) (l : List (Nat × Nat)) : Prop := vs.length = l.length ∧ ∀ (i : Nat) (p : Nat × Nat), l[i]? = some p → ∃ T q r : Addr, vs[i]? = some (.ref T) ∧ H T = some (.tup [.ref q, .ref r]) ∧ H q = some (.tup (prV p)) ∧ H r = some (.tup (frV (askT ts ks p.1 p.2, askB ts p.1 p.2)))
theorem PAt.same {ts ks : List Int} {H H' : Hp} {vs : List V} {l : List (Nat × Nat)} (h : PAt ts ks H vs l) (s : ∀ b xs, H b = some (.tup xs) → H' b = some (.tup xs)) : PAt ts ks H' vs l := by
  refine ⟨h.1, fun i p e => ?_⟩
  obtain ⟨T, q, r, e1, e2, e3, e4⟩ := h.2 i p e
  exact ⟨T, q, r, e1, s _ _ e2, s _ _ e3, s _ _ e4⟩
theorem PAt.snoc {ts ks : List Int} {H : Hp} {vs : List V} {l : List (Nat × Nat)} {p : Nat × Nat} {T q r : Addr} (h : PAt ts ks H vs l) (e2 : H T = some (.tup [.ref q, .ref r])) (e3 : H q = some (.tup (prV p))) (e4 : H r = some (.tup (frV (askT ts ks p.1 p.2, askB ts p.1 p.2)))) :
    PAt ts ks H (vs ++ [.ref T]) (l ++ [p]) := by
  refine ⟨by rw [List.length_append, List.length_append, h.1]; rfl, fun i u e => ?_⟩
  by_cases hi : i < l.length
  · rw [List.getElem?_append_left hi] at e
    obtain ⟨T', q', r', g1, g2, g3, g4⟩ := h.2 i u e
    exact ⟨T', q', r', by rw [List.getElem?_append_left (by rw [h.1]; exact hi)]; exact g1, g2, g3, g4⟩
  · have e5 : i = l.length := by
      have := (List.getElem?_eq_some_iff.mp e).1
      rw [List.length_append] at this
      simp at this
      omega
    subst e5
    rw [List.getElem?_append_right (Nat.le_refl _), Nat.sub_self] at e
    cases e
    exact ⟨T, q, r, by rw [← h.1, List.getElem?_append_right (Nat.le_refl _), Nat.sub_self]; rfl, e2, e3, e4⟩
theorem pairs_length (n : Nat) : (pairs n).length = n * n := by
  unfold pairs
  rw [List.length_flatMap]
  have : ((List.range n).map fun a => ((List.range n).map fun b => (a, b)).length) = List.replicate n n := by
    apply List.ext_getElem?
    intro i
    rw [List.getElem?_map, List.getElem?_replicate]
    by_cases h : i < n
    · rw [List.getElem?_range h, if_pos h]
      simp
    · rw [if_neg h, List.getElem?_eq_none (by rw [List.length_range]; omega)]
      rfl
  rw [this, List.sum_replicate_nat]
theorem pre_length_le {n i j : Nat} (hi : i ≤ n) (hj : j ≤ n) (hn : n ≤ 25) : (pre n i j).length ≤ 1000 := by
  unfold pre
  rw [List.length_append, List.length_map, List.length_range, List.length_flatMap]
  have : ((List.range i).map fun a => ((List.range n).map fun b => (a, b)).length) = List.replicate i n := by
    apply List.ext_getElem?
    intro x
    rw [List.getElem?_map, List.getElem?_replicate]
    by_cases h : x < i
    · rw [List.getElem?_range h, if_pos h]
      simp
    · rw [if_neg h, List.getElem?_eq_none (by rw [List.length_range]; omega)]
      rfl
  rw [this, List.sum_replicate_nat]
  have h1 : i * n ≤ 25 * 25 := Nat.mul_le_mul (by omega) hn
  omega
def spPairs (K : PySem.W.Frag) : Sp := fun vs H Q _ => ∃ (a b : Addr) (ts ks : List Int), vs = [.ref a, .ref b] ∧ TRAt K H a b ts ks ∧ ∀ (p : Addr) (xs : List V) (H' : Hp), H p = none → Same H H' → H' p = some (.lst xs) → PAt ts ks H' xs (pairs ts.length) → Q (.ref p) H'
def spLeast (K : PySem.W.Frag) (C : Addr) : Sp := fun vs H Q _ => ∃ (x l b : Addr) (ts ks : List Int), vs = [.ref x, .ref b] ∧ TapsAt C H x l ts ∧ SqL K H b (ks.map V.int) ∧ Tps ts ∧ Rdg 0 ks ∧ ks.length = ts.length ∧
  ∀ (p : Addr) (H' : Hp), Same H H' → WAt H' p (widthOf ts ks) → Q (.ref p) H'
/-! ### data -/
def dOk : Nat → PyData → Prop
  | 0, _ => False
  | _ + 1, .none => True
  | _ + 1, .bool _ => True
  | _ + 1, .int _ => True
  | _ + 1, .str _ => True
  | n + 1, .list ds => ds.length ≤ 1000000 ∧ ∀ d ∈ ds, dOk n d
  | n + 1, .tuple ds => ds.length ≤ 1000000 ∧ ∀ d ∈ ds, dOk n d
  | _ + 1, .dict _ => False
def spAlike (K : PySem.W.Frag) (n : Nat) : Sp := fun vs H Q _ => ∃ (u v : V) (d : PyData), vs = [u, v] ∧ Dp K H u d ∧ Dp K H v d ∧ dOk n d ∧ ∀ H', Same H H' → Q (.bl true) H'
theorem KDef.none {P : Program} {w : World} {K : PySem.W.Frag} {mg : Str → Option Value} {base : Heap} {x : Str} {st : Stmt} {ps : List Str} {sp : Sp} {CX : CXT} (S : Src K mg x st)
    (hb : ∀ (kV doc pm : Value) (an : Option Addr) (cdv ct : Value) (us : List Value), us.length = ps.length → bindArgs (PySem.W.fnOf x x (defArgs st) (defBody st) (defScope st) .none kV doc pm an cdv ct) ⟨us, []⟩ = pure (ps.zip us))
    (no : ∀ vs H Q E, ¬ sp vs H Q E) : KDef P w K mg base CX 0 x ps sp := by
  obtain ⟨f, fd, hm, F⟩ := S.ex
  exact ⟨f, fd, hm, F.kp, F.bindsN hb, fun vs H Q E h => absurd h (no vs H Q E), fun A outer s H args us vs Q E _ _ _ _ h => absurd h (no vs H Q E)⟩
theorem KDef.mono {P : Program} {w : World} {K : PySem.W.Frag} {mg : Str → Option Value} {base : Heap} {x : Str} {ps : List Str} {sp : Sp} {CX : CXT} {j k : Nat} (D : KDef P w K mg base CX j x ps sp) (h : j ≤ k) : KDef P w K mg base CX k x ps sp := by
  obtain ⟨f, fd, a, b, c, F⟩ := D.ex
  exact ⟨f, fd, a, b, c, F.mono h⟩
theorem call_isiK {X : Cx} {K : PySem.W.Frag} (h : X.K = K) : CallR X (.builtin "isinstance") (rIsi K) := by subst h; exact call_isi
theorem tyx_list {K : PySem.W.Frag} {H : Hp} {a : Addr} {xs : List V} (h : SqL K H a xs) : TyX K H (.ref a) (.type "list") := by
  rcases h with (h | ⟨o, h⟩) | ⟨o, its, n, h1, h2, _⟩
  · exact .base (.lst h)
  · exact .base (.frz h)
  · exact .kList h1 h2
theorem tyx_tup {K : PySem.W.Frag} {H : Hp} {a : Addr} {xs : List V} (h : SqT K H a xs) : TyX K H (.ref a) (.type "tuple") := by
  rcases h with (h | ⟨o, h⟩) | ⟨o, its, n, h1, h2, _⟩
  · exact .base (.tup h)
  · exact .fTuple h
  · exact .kTuple h1 h2
/-- a value's type -/
theorem tyx_int {K : PySem.W.Frag} {H : Hp} (i : Int) : TyX K H (.int i) (.type "int") := .base (.int i)
theorem tyx_str {K : PySem.W.Frag} {H : Hp} (x : Str) : TyX K H (.str x) (.type "str") := .base (.str x)
theorem tyx_bl {K : PySem.W.Frag} {H : Hp} (b : Bool) : TyX K H (.bl b) (.type "bool") := .base (.bl b)
theorem DpAll.len {K : PySem.W.Frag} {H : Hp} : ∀ {vs : List V} {ds : List PyData}, DpAll K H vs ds → vs.length = ds.length
  | _, _, .nil => rfl
  | _, _, .cons _ t => congrArg Nat.succ (DpAll.len t)
theorem DpAll.get {K : PySem.W.Frag} {H : Hp} : ∀ {vs : List V} {ds : List PyData} {i : Nat}, DpAll K H vs ds → i < vs.length → ∃ v d, vs[i]? = some v ∧ ds[i]? = some d ∧ Dp K H v d ∧ d ∈ ds
  | _, _, _, .nil, h => by simp at h
  | _, _, 0, .cons h t, _ => ⟨_, _, rfl, rfl, h, List.mem_cons_self⟩
  | _, _, i + 1, .cons _ t, hi => by
    obtain ⟨v, d, e1, e2, e3, e4⟩ := DpAll.get (i := i) t (Nat.lt_of_succ_lt_succ hi)
    exact ⟨v, d, e1, e2, e3, List.mem_cons_of_mem _ e4⟩
theorem DpAll.ints {K : PySem.W.Frag} {H : Hp} : ∀ ns : List Int, DpAll K H (ns.map V.int) (ns.map PyData.int)
  | [] => .nil
  | n :: ns => .cons (.int n) (DpAll.ints ns)
theorem dp_ints {K : PySem.W.Frag} {H : Hp} {a : Addr} {ns : List Int} (h : SqL K H a (ns.map V.int)) : Dp K H (.ref a) (.list (ns.map PyData.int)) := .lst h (DpAll.ints ns)
def widthD (w : Fr × (Nat × Nat)) : PyData := .tuple [.tuple [.int w.1.1, .int w.1.2], .tuple [.int (w.2.1 : Int), .int (w.2.2 : Int)]]
theorem WAt.dp {K : PySem.W.Frag} {H : Hp} {p : Addr} {w : Fr × (Nat × Nat)} (h : WAt H p w) : Dp K H (.ref p) (widthD w) := by
  obtain ⟨q, r, e1, e2, e3⟩ := h.ex
  exact .tup (SqT.of e1) (.cons (.tup (SqT.of e2) (.cons (.int _) (.cons (.int _) .nil))) (.cons (.tup (SqT.of e3) (.cons (.int _) (.cons (.int _) .nil))) .nil))
theorem widthD_ok (w : Fr × (Nat × Nat)) : dOk 3 (widthD w) := by
  unfold widthD
  refine ⟨by show 2 ≤ 1000000; decide, fun d hd => ?_⟩
  simp only [List.mem_cons, List.not_mem_nil, or_false] at hd
  rcases hd with rfl | rfl
  · refine ⟨by show 2 ≤ 1000000; decide, fun e he => ?_⟩
    simp only [List.mem_cons, List.not_mem_nil, or_false] at he
    rcases he with rfl | rfl <;> trivial
  · refine ⟨by show 2 ≤ 1000000; decide, fun e he => ?_⟩
    simp only [List.mem_cons, List.not_mem_nil, or_false] at he
    rcases he with rfl | rfl <;> trivial
end KT

/-! The head: facts by names. -/
namespace KT
open PySem PySem.Spec PyProof.Rows L2
/-- a def of the top -/
def dfn (x : Str) (st : Stmt) : He.DefD := ⟨(x, none), x, x, defArgs st, defBody st, defScope st, [], []⟩
/-- a method -/
def dfm (C m q : Str) (st : Stmt) : He.DefD := ⟨(C, some m), m, q, defArgs st, defBody st, defScope st, [], []⟩
/-- a tuple of the top's data, by its place -/
def tupAt (K : PySem.W.Frag) (a : Addr) (vs : List V) : Bool :=
  match K.lookup a with
  | some ⟨.type c, _, .seq its _, _⟩ => decide (c = "tuple") && (decide (its.size ≤ sizeLine) && He.relAll vs its.toList)
  | _ => false
theorem tupAt_ok {K : PySem.W.Frag} {a : Addr} {vs : List V} (h : tupAt K a vs = true) (H : Hp) : SqT K H a vs := by
  unfold tupAt at h
  split at h
  · next c d its n sl e =>
    simp only [Bool.and_eq_true, decide_eq_true_eq] at h
    obtain ⟨h1, h2, h3⟩ := h
    subst h1
    exact .inr ⟨_, its, n, e, rfl, rfl, h2, He.relAll_ok h3⟩
  · cases h
def itemAt (K : PySem.W.Frag) (a : Addr) (i : Nat) : Addr :=
  match K.lookup a with
  | some ⟨_, _, .seq its _, _⟩ => match its.toList[i]? with
    | some (.ref b) => b
    | _ => 0
  | _ => 0
section
variable {fa : List He.Fa} {fn : List He.DefD} {K : PySem.W.Frag} {h : Heap} {mg : Str → Option Value}
theorem src_of (X : K.In h) (G : h.Ns mainGlobals mg) (c : He.SaysD fa fn K) (i j : Nat) {x : Str} {st : Stmt} (hf : fa[i]? = some (.glo x)) (hd : fn[j]? = some (dfn x st)) : Src K mg x st := by
  obtain ⟨fd, F⟩ := c.def_ j hd
  exact ⟨_, fd, He.glo_ok X G (c.fact i hf), F⟩
theorem bi_of (X : K.In h) (G : h.Ns mainGlobals mg) {x : Str} {id : String} (e : He.eqO (PySem.W.nsIn K mainGlobals x) (some (some (.builtin id))) = true) : mg x = some (.builtin id) := PySem.W.mg_of X G (He.eqO_ok e)
end
end KT
namespace KT
open PySem PySem.Spec PyProof.Rows L2
/-! ### the text by places -/
def topS (i : Nat) : Stmt := PySem.Challenge.pw_keyedtime_k03_least_widths.main.body.getD i (.Pass ⟨0, 0, 0, 0⟩)
abbrev sBadTaps___init__ : Stmt := inClass (topS 3) 0
abbrev scheck_reading : Stmt := topS 7
abbrev slowest : Stmt := topS 9
abbrev sis_above : Stmt := topS 10
abbrev sasked : Stmt := topS 12
abbrev sasked_by_pairs : Stmt := topS 13
abbrev sleast_asked : Stmt := topS 14
abbrev sleast_width : Stmt := topS 15
abbrev scheck_times : Stmt := topS 20
abbrev sTaps___init__ : Stmt := inClass (topS 21) 0
abbrev sTaps_times : Stmt := inClass (topS 21) 1
abbrev s_law_dice : Stmt := topS 23
abbrev s_law_off : Stmt := topS 24
abbrev s_law_alike : Stmt := topS 25
abbrev s_law_low : Stmt := topS 26
abbrev s_law_less : Stmt := topS 27
abbrev s_law_kinds : Stmt := topS 28
abbrev s_law_reading : Stmt := topS 29
abbrev s_law_times : Stmt := topS 30
abbrev s_law_asks : Stmt := topS 31
abbrev s_law_width : Stmt := topS 32
abbrev slaw : Stmt := topS 33
theorem scBadTaps___init__ : FnScope ["self", "at", "why"] ["self", "at", "why"] (defScope sBadTaps___init__) := ⟨rfl, rfl, rfl, by decide +kernel, rfl, by decide +kernel, by decide +kernel⟩
theorem sccheck_reading : FnScope ["times", "reading", "at", "number"] ["times", "reading"] (defScope scheck_reading) := ⟨rfl, rfl, rfl, by decide +kernel, rfl, by decide +kernel, by decide +kernel⟩
theorem sclowest : FnScope ["ratio", "top", "bottom", "common"] ["ratio"] (defScope slowest) := ⟨rfl, rfl, rfl, by decide +kernel, rfl, by decide +kernel, by decide +kernel⟩
theorem scis_above : FnScope ["one", "other"] ["one", "other"] (defScope sis_above) := ⟨rfl, rfl, rfl, by decide +kernel, rfl, by decide +kernel, by decide +kernel⟩
theorem scasked : FnScope ["one", "other", "time", "number", "other_time", "other_number"] ["one", "other"] (defScope sasked) := ⟨rfl, rfl, rfl, by decide +kernel, rfl, by decide +kernel, by decide +kernel⟩
theorem scasked_by_pairs : FnScope ["times", "reading", "read", "at", "one", "behind", "other"] ["times", "reading"] (defScope sasked_by_pairs) := ⟨rfl, rfl, rfl, by decide +kernel, rfl, by decide +kernel, by decide +kernel⟩
theorem scleast_asked : FnScope ["times", "reading", "width", "asking", "pair", "ratio"] ["times", "reading"] (defScope sleast_asked) := ⟨rfl, rfl, rfl, by decide +kernel, rfl, by decide +kernel, by decide +kernel⟩
theorem scleast_width : FnScope ["taps", "reading", "times"] ["taps", "reading"] (defScope sleast_width) := ⟨rfl, rfl, rfl, by decide +kernel, rfl, by decide +kernel, by decide +kernel⟩
theorem sccheck_times : FnScope ["times", "many", "at", "time"] ["times"] (defScope scheck_times) := ⟨rfl, rfl, rfl, by decide +kernel, rfl, by decide +kernel, by decide +kernel⟩
theorem scTaps___init__ : FnScope ["self", "times"] ["self", "times"] (defScope sTaps___init__) := ⟨rfl, rfl, rfl, by decide +kernel, rfl, by decide +kernel, by decide +kernel⟩
theorem scTaps_times : FnScope ["self"] ["self"] (defScope sTaps_times) := ⟨rfl, rfl, rfl, by decide +kernel, rfl, by decide +kernel, by decide +kernel⟩
theorem sc_law_dice : FnScope ["_law_script", "_law_k", "_law_found", "_law_cell"] ["_law_script", "_law_k"] (defScope s_law_dice) := ⟨rfl, rfl, rfl, by decide +kernel, rfl, by decide +kernel, by decide +kernel⟩
theorem sc_law_off : FnScope ["_law_d", "_law_most", "_law_found"] ["_law_d", "_law_most"] (defScope s_law_off) := ⟨rfl, rfl, rfl, by decide +kernel, rfl, by decide +kernel, by decide +kernel⟩
theorem sc_law_alike : FnScope ["_law_found", "_law_due", "_law_name", "_law_k"] ["_law_found", "_law_due"] (defScope s_law_alike) := ⟨rfl, rfl, rfl, by decide +kernel, rfl, by decide +kernel, by decide +kernel⟩
theorem sc_law_low : FnScope ["_law_top", "_law_bottom", "_law_one", "_law_other"] ["_law_top", "_law_bottom"] (defScope s_law_low) := ⟨rfl, rfl, rfl, by decide +kernel, rfl, by decide +kernel, by decide +kernel⟩
theorem sc_law_less : FnScope ["_law_one", "_law_other"] ["_law_one", "_law_other"] (defScope s_law_less) := ⟨rfl, rfl, rfl, by decide +kernel, rfl, by decide +kernel, by decide +kernel⟩
theorem sc_law_kinds : FnScope ["_law_at"] ["_law_at"] (defScope s_law_kinds) := ⟨rfl, rfl, rfl, by decide +kernel, rfl, by decide +kernel, by decide +kernel⟩
theorem sc_law_reading : FnScope ["_law_d", "_law_many", "_law_at"] ["_law_d", "_law_many"] (defScope s_law_reading) := ⟨rfl, rfl, rfl, by decide +kernel, rfl, by decide +kernel, by decide +kernel⟩
theorem sc_law_times : FnScope ["_law_d", "_law_most", "_law_many", "_law_reading_here", "_law_unit", "_law_shake", "_law_times_here", "_law_at", "_law_k", "_law_time"] ["_law_d", "_law_most"] (defScope s_law_times) := ⟨rfl, rfl, rfl, by decide +kernel, rfl, by decide +kernel, by decide +kernel⟩
theorem sc_law_asks : FnScope ["_law_times_here", "_law_reading_here", "_law_one", "_law_other", "_law_top"] ["_law_times_here", "_law_reading_here", "_law_one", "_law_other"] (defScope s_law_asks) := ⟨rfl, rfl, rfl, by decide +kernel, rfl, by decide +kernel, by decide +kernel⟩
theorem sc_law_width : FnScope ["_law_times_here", "_law_reading_here", "_law_best", "_law_one", "_law_other"] ["_law_times_here", "_law_reading_here"] (defScope s_law_width) := ⟨rfl, rfl, rfl, by decide +kernel, rfl, by decide +kernel, by decide +kernel⟩
theorem sclaw : FnScope ["_law_script", "_law_d", "_law_times_here", "_law_reading_here", "_law_middle", "_law_handed", "_law_found", "_law_at"] ["_law_script"] (defScope slaw) := ⟨rfl, rfl, rfl, by decide +kernel, rfl, by decide +kernel, by decide +kernel⟩
end KT
namespace KT
open PySem PySem.Spec PyProof.Rows L2
section
variable {P : Program} {w : World} {K : PySem.W.Frag} {mg : Str → Option Value} {base : Heap}
theorem ok_law_dice (S : Src K mg "_law_dice" s_law_dice) (m_abs : mg "abs" = none) : KDef P w K mg base CX0 1 "_law_dice" ["_law_script", "_law_k"] (spDice K) := by
  refine S.ok sc_law_dice (fun _ _ _ _ _ _ us hl => match us, hl with | [_, _], _ => rfl) (fun vs H Q E h => ?_) (fun f cdv A outer s H vs Q E hr h => ?_)
  · obtain ⟨a, ns, rfl, _⟩ := h
    rfl
  · obtain ⟨a, ns, rfl, hS, hlen, q⟩ := h
    refine ⟨_, (pss_cons (ps_set (i := 2) sc_law_dice.nd rfl (.inl rfl) (pv 1))
      (pss_cons (ps_for PassesOwn.never rfl (pi_listK (K := K) rfl (pv 0)) (pg_name (i := 3) sc_law_dice.nd rfl (.inl rfl))
      (pss_one (ps_set (i := 2) sc_law_dice.nd rfl (.inl rfl) (pe_op op_mod (pe_op op_add (pe_op op_mul (pv 2) pe_int) (pe_callB call_abs (by rfl) m_abs (by decide +kernel) (pa_cons (pv 3) pa_nil))) pe_int))))
      (pss_one (ps_ret (pe_op op_cat (pe_lst (pa_cons (pv 2) (pa_cons pe_int pa_nil))) (pe_lc (own := [("_law_cell", 3)]) (g := gName 3) rfl sc_law_dice.nd (pi_listK (K := K) rfl (pv 0)) (blkOk_by (own := [("_law_cell", 3)]) (N := ["_law_script", "_law_k", "_law_found", "_law_cell"]) (sc := defScope s_law_dice) (by decide +kernel)) (fun _ _ _ _ _ => (pg_name (i := 3) sc_law_dice.nd rfl (.inl rfl) (.inr rfl))) (fun _ _ _ _ _ => (pts_one (pt_cmpR op_ge (pv 3) (pe_op op_pow pe_int pe_int) (nomark _)))) (fun _ _ _ _ _ => (pv 3)))))))), ?_⟩
    refine ⟨_, rfl, _, rfl, a, rfl, ⟨_, hS⟩, for_list (K := K) (a := a) (xs := ns.map V.int) (fun i σ H2 => ∃ (g : Int) (v : Option V), σ = [some (.ref a), some (.int 0), some (.int g), v] ∧ 0 ≤ g ∧ g < 2147483647 ∧ H2 = H)
      ⟨0, none, rfl, by decide, by decide, rfl⟩ (fun i σ H2 _ ⟨_, _, _, _, _, e⟩ => e ▸ hS) ?_ ?_⟩
    · rintro i y σ H2 hi ⟨g, v, rfl, g0, g1, rfl⟩
      obtain ⟨z, rfl⟩ := int_of hi
      refine ⟨_, rfl, _, _, rfl, rfl, .inl ⟨by omega, by omega⟩, _, rfl, _, rfl, _, _, rfl, rfl, _, _, rfl, rfl, by show (0 : Int) < 2147483647; decide, ?_⟩
      exact ⟨_, _, rfl, Int.emod_nonneg _ (by decide), Int.emod_lt_of_pos _ (by decide), rfl⟩
    · rintro σ H2 ⟨g, v, rfl, g0, g1, rfl⟩
      refine ⟨_, rfl, lz (by show 2 ≤ 1000000; decide), fun p np => ?_⟩
      refine ⟨_, rfl, a, rfl, ⟨_, (sm np).seq hS⟩, fun D nD => lc_list (K := K) (a := a) (xs := ns.map V.int) (fun i H3 => ∃ zs : List Int, H3 D = some (.lst (zs.map V.int)) ∧ zs.length ≤ i ∧ (∀ z ∈ zs, 0 ≤ z) ∧ H3 p = some (.lst [.int g, .int 0]) ∧ Same H2 H3)
        ⟨[], upd_same, Nat.le_refl _, List.forall_mem_nil _, by rw [upd_ne (ne_of_none upd_same nD), upd_same], (sm np).trans (sm nD)⟩ (fun i H3 _ ⟨_, _, _, _, _, s3⟩ => s3.seq hS) ?_ ?_⟩
      · rintro i y H3 hi ⟨zs, hD, hl, hz, hp, s3⟩
        have hil := (List.getElem?_eq_some_iff.mp hi).1
        rw [List.length_map] at hil
        obtain ⟨z, rfl⟩ := int_of hi
        have npD : p ≠ D := ne_of_none upd_same nD
        refine ⟨rfl, _, rfl, _, _, rfl, rfl, ⟨by decide, by decide, by decide⟩, _, _, rfl, rfl, _, rfl, ite2 (fun e => ?_) (fun _ => ⟨zs, hD, Nat.le_succ_of_le hl, hz, hp, s3⟩)⟩
        have z0 : (0 : Int) ≤ z := Int.le_trans (by decide) (of_decide_eq_true e)
        refine ⟨_, rfl, _, hD, lz' (by rw [List.length_map]; omega), ⟨zs ++ [z], by rw [upd_same, List.map_append]; rfl, by rw [List.length_append]; exact Nat.succ_le_succ hl, fun u hu => ?_, by rw [upd_ne npD]; exact hp, fun b o e => ?_⟩⟩
        · rcases List.mem_append.mp hu with hu | hu
          · exact hz u hu
          · rw [List.mem_singleton.mp hu]
            exact z0
        · rw [upd_ne (ne_of_none ((sm np) _ _ e) nD)]
          exact s3 _ _ e
      · rintro H3 ⟨zs, hD, hl, hz, hp, s3⟩
        rw [List.length_map] at hl
        refine ⟨_, _, _, _, rfl, rfl, hp, hD, lz (by rw [List.length_map]; show 2 + zs.length ≤ _; omega), fun r nr => ?_⟩
        exact q r _ (s3.free nr) (s3.trans (sm nr)) ⟨g, 0, zs, upd_same, g0, g1, Int.le_refl _, hz, by omega⟩
end
end KT
namespace KT
open PySem PySem.Spec PyProof.Rows L2
section
variable {P : Program} {w : World} {K : PySem.W.Frag} {mg : Str → Option Value} {base : Heap}
theorem ok_law_off (S : Src K mg "_law_off" s_law_off) (m_len : mg "len" = none) : KDef P w K mg base CX0 1 "_law_off" ["_law_d", "_law_most"] spOff := by
  refine S.ok sc_law_off (fun _ _ _ _ _ _ us hl => match us, hl with | [_, _], _ => rfl) (fun vs H Q E h => ?_) (fun f cdv A outer s H vs Q E hr h => ?_)
  · obtain ⟨d, m, rfl, _⟩ := h
    rfl
  · obtain ⟨d, m, rfl, ⟨x, y, zs, hd, hx, hx2, hy, hz, hl⟩, hm, hm2, q⟩ := h
    refine ⟨_, (C8.pss_cut (ps_if (PW.pt (pw_and (pt_cmpR op_eq (pe_ix (ix_listK (K := K) rfl) (pv 0) pe_int (fun _ _ => rfl)) pe_int (nomark _)) (pw_and1 (pt_cmpR op_gt (pe_callB (call_len_seqK (K := K) rfl) (by rfl) m_len (by decide +kernel) (pa_cons (pv 0) pa_nil)) pe_int (nomark _)))))
      (pss_one (ps_asg (pe_bm PySem.F.plainAttrs_list PySem.F.slot_list_pop PySem.F.type_list_pop mt_popAt (pv 0) (pa_cons pe_int pa_nil)) (pg_sub (pv 0) pe_int set_list)))
      pss_nil)
      (pss_cons (ps_if (pt_cmpR op_gt (pe_ix (ix_listK (K := K) rfl) (pv 0) pe_int (fun _ _ => rfl)) pe_int (nomark _))
      (pss_cons (ps_set (i := 2) sc_law_off.nd rfl (.inl rfl) (pe_op op_mod (pe_ix (ix_listK (K := K) rfl) (pv 0) pe_int (fun _ _ => rfl)) (pv 1)))
      (pss_cons (ps_asg (pe_op op_fdiv (pe_ix (ix_listK (K := K) rfl) (pv 0) pe_int (fun _ _ => rfl)) (pv 1)) (pg_sub (pv 0) pe_int set_list))
      (pss_one (ps_ret (pv 2)))))
      pss_nil)
      (pss_cons (ps_asg (pe_op op_mod (pe_op op_add (pe_op op_mul (pe_ix (ix_listK (K := K) rfl) (pv 0) pe_int (fun _ _ => rfl)) pe_int) pe_int) pe_int) (pg_sub (pv 0) pe_int set_list))
      (pss_one (ps_ret (pe_op op_mod (pe_op op_fdiv (pe_ix (ix_listK (K := K) rfl) (pv 0) pe_int (fun _ _ => rfl)) pe_int) (pv 1))))))), ?_⟩
    refine ⟨fun σ1 H1 => σ1 = [some (.ref d), some (.int m), none] ∧ Dice H1 d ∧ Kp d H H1, ?_, ?_⟩
    · -- a great number is taken up
      refine ⟨.ref d, rfl, _, _, _, _, rfl, rfl, SqL.of hd, aI (by decide) rfl, rfl, _, rfl, ite2 (fun e => ?_) (fun _ => ?_)⟩
      · refine ⟨.ref d, rfl, d, _, rfl, .inl (SqL.of hd), _, _, rfl, rfl, _, rfl, ite2 (fun e2 => ?_) (fun _ => ⟨rfl, ⟨x, y, zs, hd, hx, hx2, hy, hz, hl⟩, Kp.refl d H⟩)⟩
        cases zs with
        | nil => exact absurd (of_decide_eq_true e2) (by show ¬ ((2 : Int) < ((2 : Nat) : Int)); decide)
        | cons z zs =>
          refine ⟨.ref d, rfl, ty_list hd, _, _, _, _, V.int z, rfl, rfl, hd, by decide, by decide, pI (by decide) (by simp; omega), rfl, ?_⟩
          refine ⟨.ref d, rfl, _, _, _, _, rfl, rfl, upd_same, sI (by decide) (by simp; omega), ?_⟩
          refine ⟨rfl, ⟨x, z, zs, ?_, hx, hx2, hz z List.mem_cons_self, fun u hu => hz u (List.mem_cons_of_mem _ hu), by simp at hl; omega⟩, fun b o n hb => ?_⟩
          · rw [upd_upd, upd_same]
            rfl
          · rw [upd_upd, upd_ne n]
            exact hb
      · exact ⟨rfl, ⟨x, y, zs, hd, hx, hx2, hy, hz, hl⟩, Kp.refl d H⟩
    · rintro σ1 H1 ⟨rfl, ⟨x, y, zs, hd, hx, hx2, hy, hz, hl⟩, k1⟩
      refine ⟨.ref d, rfl, _, _, _, _, rfl, rfl, SqL.of hd, aI (by decide) rfl, _, _, rfl, rfl, _, rfl, ite2 (fun e => ?_) (fun _ => ?_)⟩
      · have hy' : 0 < y := of_decide_eq_true e
        refine ⟨.ref d, rfl, _, _, _, _, rfl, rfl, SqL.of hd, aI (by decide) rfl, _, rfl, _, _, rfl, rfl, hm, ?_⟩
        refine ⟨.ref d, rfl, _, _, _, _, rfl, rfl, SqL.of hd, aI (by decide) rfl, _, rfl, _, _, rfl, rfl, ⟨hm, hm2⟩, ?_⟩
        refine ⟨.ref d, rfl, _, _, _, _, rfl, rfl, hd, sI (by decide) (by simp; omega), ?_⟩
        refine ⟨_, rfl, q (y % m) _ (Int.emod_nonneg y (by omega)) (Int.emod_lt_of_pos y hm) ⟨x, y / m, zs, upd_same, hx, hx2, Int.ediv_nonneg hy (by omega), hz, hl⟩ (k1.trans (Kp.at (H1 := H1)))⟩
      · refine ⟨.ref d, rfl, _, _, _, _, rfl, rfl, SqL.of hd, aI (by decide) rfl, _, _, rfl, rfl, .inl ⟨by omega, by omega⟩, _, _, rfl, rfl, _, _, rfl, rfl, by show (0 : Int) < 2147483647; decide, ?_⟩
        refine ⟨.ref d, rfl, _, _, _, _, rfl, rfl, hd, sI (by decide) (by simp; omega), ?_⟩
        refine ⟨.ref d, rfl, _, _, _, _, rfl, rfl, SqL.of upd_same, aI (by decide) rfl, _, _, rfl, rfl, ⟨by decide, by decide⟩, _, rfl, _, _, rfl, rfl, hm, ?_⟩
        have g1 : 0 ≤ (x * 48271 + 11) % 2147483647 := Int.emod_nonneg _ (by decide)
        have g2 : (x * 48271 + 11) % 2147483647 < 2147483647 := Int.emod_lt_of_pos _ (by decide)
        exact q _ _ (Int.emod_nonneg _ (by omega)) (Int.emod_lt_of_pos _ hm) ⟨_, y, zs, upd_same, g1, g2, hy, hz, hl⟩ (k1.trans (Kp.at (H1 := H1)))
end
end KT
namespace KT
open PySem PySem.Spec PyProof.Rows L2
section
variable {P : Program} {w : World} {K : PySem.W.Frag} {mg : Str → Option Value} {base : Heap}
theorem ok_law_kinds (S : Src K mg "_law_kinds" s_law_kinds) : KDef P w K mg base CX0 1 "_law_kinds" ["_law_at"] spKinds := by
  refine S.ok sc_law_kinds (fun _ _ _ _ _ _ us hl => match us, hl with | [_], _ => rfl) (fun vs H Q E h => ?_) (fun f cdv A outer s H vs Q E hr h => ?_)
  · obtain ⟨n, rfl, _⟩ := h
    rfl
  · obtain ⟨n, rfl, q⟩ := h
    refine ⟨_, (pss_one (ps_ret (pe_ix (ix_listK (K := K) rfl) (pe_lst (pa_cons (pe_lst (pa_cons pe_int (pa_cons pe_int pa_nil))) (pa_cons (pe_lst (pa_cons pe_int (pa_cons pe_int (pa_cons pe_int pa_nil)))) pa_nil))) (pe_op op_mod (pv 0) pe_int) (fun _ _ => rfl)))), ?_⟩
    refine ⟨lz (by show 2 ≤ 1000000; decide), fun p np => ?_⟩
    refine ⟨lz (by show 3 ≤ 1000000; decide), fun r nr => ?_⟩
    refine ⟨lz (by show 2 ≤ 1000000; decide), fun l nl => ?_⟩
    have s1 : Same H (upd (upd H p (.lst [.int 1, .int 3])) r (.lst [.int 1, .int 3, .int 7])) := (sm np).trans (sm nr)
    have s2 := s1.trans (sm (o := .lst [.ref p, .ref r]) nl)
    have hp : (upd (upd H p (.lst [.int 1, .int 3])) r (.lst [.int 1, .int 3, .int 7])) p = some (.lst [.int 1, .int 3]) := by rw [upd_ne (ne_of_none upd_same nr), upd_same]
    have hp2 : (upd (upd (upd H p (.lst [.int 1, .int 3])) r (.lst [.int 1, .int 3, .int 7])) l (.lst [.ref p, .ref r])) p = some (.lst [.int 1, .int 3]) := sm nl _ _ hp
    have hr2 : (upd (upd (upd H p (.lst [.int 1, .int 3])) r (.lst [.int 1, .int 3, .int 7])) l (.lst [.ref p, .ref r])) r = some (.lst [.int 1, .int 3, .int 7]) := sm nl _ _ upd_same
    have nr' : H r = none := (sm np).free nr
    refine ⟨_, rfl, _, _, rfl, rfl, by show (0 : Int) < 2; decide, ?_⟩
    rcases par n with e | e
    · refine ⟨_, _, _, .ref p, rfl, rfl, SqL.of upd_same, by rw [e]; exact aI (by decide) rfl, q p _ np s2 ?_⟩
      rw [hp2, kinds_even e]
      rfl
    · refine ⟨_, _, _, .ref r, rfl, rfl, SqL.of upd_same, by rw [e]; exact aI (by decide) rfl, q r _ nr' s2 ?_⟩
      rw [hr2, kinds_odd e]
      rfl
end
end KT
namespace KT
open PySem PySem.Spec PyProof.Rows L2
section
variable {P : Program} {w : World} {K : PySem.W.Frag} {mg : Str → Option Value} {base : Heap}
theorem ok_law_reading (S : Src K mg "_law_reading" s_law_reading) (m_range : mg "range" = none) (G_law_kinds : KDef P w K mg base CX0 1 "_law_kinds" ["_law_at"] spKinds)
    (G_law_off : KDef P w K mg base CX0 1 "_law_off" ["_law_d", "_law_most"] spOff) : KDef P w K mg base CX0 2 "_law_reading" ["_law_d", "_law_many"] spReading := by
  refine S.ok sc_law_reading (fun _ _ _ _ _ _ us hl => match us, hl with | [_, _], _ => rfl) (fun vs H Q E h => ?_) (fun f cdv A outer s H vs Q E hr h => ?_)
  · obtain ⟨d, n, rfl, _⟩ := h
    rfl
  · obtain ⟨d, n, rfl, hd, n0, n1, q⟩ := h
    refine ⟨_, (pss_one (ps_ret (pe_lc (own := [("_law_at", 2)]) (g := gName 2) (tt := tYes) rfl sc_law_reading.nd (pi_range1 rfl m_range (pa_cons (pv 1) pa_nil)) (blkOk_by (own := [("_law_at", 2)]) (N := ["_law_d", "_law_many", "_law_at"]) (sc := defScope s_law_reading) (by decide +kernel)) (fun _ _ _ _ _ => (pg_name (i := 2) sc_law_reading.nd rfl (.inl rfl) (.inr rfl))) (fun _ _ _ _ _ => pts_nil) (fun _ _ _ _ _ => (pe_ix (ix_listK (K := K) rfl) (pe_callD G_law_kinds (hr.mono (by decide)) (by rfl) (pa_cons (pv 2) pa_nil)) (pe_callD G_law_off (hr.mono (by decide)) (by rfl) (pa_cons (pv 0) (pa_cons (pe_op op_add pe_int (pe_op op_mod (pv 2) pe_int)) pa_nil))) (fun _ _ => rfl)))))), ?_⟩
    refine ⟨_, rfl, n, rfl, by omega, by omega, fun D nD => lc_d walk_range (fun i y => ∃ z, y = V.int z ∧ z ∈ kinds (0 + (i : Int))) hd nD (by omega) (fun _ _ => trivial) ?_ ?_⟩
    · rintro i x H3 H3' acc k hi k3 d3 e3 l3 ⟨rfl, rfl⟩ fin
      refine ⟨rfl, _, rfl, _, rfl, fun p1 H4 np1 s4 e4 => ?_⟩
      refine ⟨_, rfl, _, rfl, _, _, rfl, rfl, by show (0 : Int) < 2; decide, _, _, rfl, rfl, d, _, rfl, d3.same s4, by omega, by omega, fun r H5 r0 r1 d5 k5 => ?_⟩
      obtain ⟨z, ez, hz⟩ := kinds_at r0 r1
      have n1 : p1 ≠ d := d3.ne np1
      refine ⟨_, _, _, _, rfl, rfl, SqL.of (k5 _ _ n1 e4), aI r0 ez, fin _ _ ((k3.then s4).trans k5) d5 (k5 _ _ (hd.ne nD) (s4 _ _ e3)) ⟨z, rfl, hz⟩⟩
    · intro H3 xs k3 d3 e3 l3 p3
      obtain ⟨ns, rfl, l, pn⟩ := ints_of p3
      exact q ns D H3 (by omega) pn nD e3 d3 k3
end
end KT
namespace KT
open PySem PySem.Spec PyProof.Rows L2
section
variable {P : Program} {w : World} {K : PySem.W.Frag} {mg : Str → Option Value} {base : Heap}
theorem ok_law_times (S : Src K mg "_law_times" s_law_times) (m_range : mg "range" = none) (m_enumerate : mg "enumerate" = none) (m_max : mg "max" = none) (m_min : mg "min" = none) (m_int : mg "int" = none)
    (G_law_reading : KDef P w K mg base CX0 2 "_law_reading" ["_law_d", "_law_many"] spReading)
    (G_law_off : KDef P w K mg base CX0 1 "_law_off" ["_law_d", "_law_most"] spOff) : KDef P w K mg base CX0 3 "_law_times" ["_law_d", "_law_most"] spTimes := by
  refine S.ok sc_law_times (fun _ _ _ _ _ _ us hl => match us, hl with | [_, _], _ => rfl) (fun vs H Q E h => ?_) (fun f cdv A outer s H vs Q E hr h => ?_)
  · obtain ⟨d, m, rfl, _⟩ := h
    rfl
  · obtain ⟨d, m, rfl, hd, m0, m1, q⟩ := h
    refine ⟨_, (pss_cons (ps_set (i := 2) sc_law_times.nd rfl (.inl rfl) (pe_op op_add pe_int (pe_op op_mul pe_int (pe_callD G_law_off (hr.mono (by decide)) (by rfl) (pa_cons (pv 0) (pa_cons (pe_op op_fdiv (pe_op op_add (pv 1) pe_int) pe_int) pa_nil))))))
      (pss_cons (ps_set (i := 3) sc_law_times.nd rfl (.inr rfl) (pe_callD G_law_reading (hr.mono (by decide)) (by rfl) (pa_cons (pv 0) (pa_cons (pv 2) pa_nil))))
      (pss_cons (ps_set (i := 4) sc_law_times.nd rfl (.inr rfl) (pe_op op_add pe_int (pe_callD G_law_off (hr.mono (by decide)) (by rfl) (pa_cons (pv 0) (pa_cons (pe_ix (ix_listK (K := K) rfl) (pe_lst (pa_cons pe_int (pa_cons pe_int (pa_cons pe_int pa_nil)))) (pe_callD G_law_off (hr.mono (by decide)) (by rfl) (pa_cons (pv 0) (pa_cons pe_int pa_nil))) (fun _ _ => rfl)) pa_nil)))))
      (pss_cons (ps_set (i := 5) sc_law_times.nd rfl (.inr rfl) (pe_ix (ix_listK (K := K) rfl) (pe_lst (pa_cons pe_int (pa_cons pe_int (pa_cons (pe_op op_add pe_int (pe_op op_fdiv (pv 4) pe_int)) (pa_cons (pe_op op_add pe_int (pv 4)) pa_nil))))) (pe_callD G_law_off (hr.mono (by decide)) (by rfl) (pa_cons (pv 0) (pa_cons pe_int pa_nil))) (fun _ _ => rfl)))
      (C8.pss_cut (ps_setLc (i := 6) (own := [("_law_at", 7)]) (g := gName 7) (tt := tYes) rfl sc_law_times.nd rfl rfl (sw_true rfl rfl rfl (by decide +kernel)) (pi_range1 rfl m_range (pa_cons (pv 2) pa_nil)) (blkOk_by (own := [("_law_at", 7)]) (N := ["_law_d", "_law_most", "_law_many", "_law_reading_here", "_law_unit", "_law_shake", "_law_times_here", "_law_at", "_law_k", "_law_time"]) (sc := defScope s_law_times) (by decide +kernel)) (fun _ _ _ _ _ => (pg_name (i := 7) sc_law_times.nd rfl (.inl rfl) (.inr rfl))) (fun _ _ _ _ _ => pts_nil) (fun _ _ _ _ _ => (pe_callB (call_max2 rfl) (by rfl) m_max (by decide +kernel) (pa_cons pe_int (pa_cons (pe_op op_sub (pe_op op_add (pe_op op_mul (pe_ix (ix_listK (K := K) rfl) (pv 3) (pv 7) (fun _ _ => rfl)) (pv 4)) (pe_callD G_law_off (hr.mono (by decide)) (by rfl) (pa_cons (pv 0) (pa_cons (pe_op op_add (pe_op op_mul pe_int (pv 5)) pe_int) pa_nil)))) (pv 5)) pa_nil)))))
      (C8.pss_cut (ps_if (pt_cmpR op_eq (pe_callD G_law_off (hr.mono (by decide)) (by rfl) (pa_cons (pv 0) (pa_cons pe_int pa_nil))) pe_int (nomark _))
      (pss_one (ps_setLc (i := 6) (own := [("_law_at", 7)]) (g := gName 7) (tt := tYes) rfl sc_law_times.nd rfl rfl (sw_true rfl rfl rfl (by decide +kernel)) (pi_range1 rfl m_range (pa_cons (pv 2) pa_nil)) (blkOk_by (own := [("_law_at", 7)]) (N := ["_law_d", "_law_most", "_law_many", "_law_reading_here", "_law_unit", "_law_shake", "_law_times_here", "_law_at", "_law_k", "_law_time"]) (sc := defScope s_law_times) (by decide +kernel)) (fun _ _ _ _ _ => (pg_name (i := 7) sc_law_times.nd rfl (.inl rfl) (.inr rfl))) (fun _ _ _ _ _ => pts_nil) (fun _ _ _ _ _ => (pe_op op_add pe_int (pe_callD G_law_off (hr.mono (by decide)) (by rfl) (pa_cons (pv 0) (pa_cons (pe_ix (ix_listK (K := K) rfl) (pe_lst (pa_cons pe_int (pa_cons pe_int pa_nil))) (pe_callD G_law_off (hr.mono (by decide)) (by rfl) (pa_cons (pv 0) (pa_cons pe_int pa_nil))) (fun _ _ => rfl)) pa_nil)))))))
      pss_nil)
      (C8.pss_cut (ps_if (pt_cmpR op_eq (pe_callD G_law_off (hr.mono (by decide)) (by rfl) (pa_cons (pv 0) (pa_cons pe_int pa_nil))) pe_int (nomark _))
      (pss_cons (ps_set (i := 7) sc_law_times.nd rfl (.inr rfl) (pe_callD G_law_off (hr.mono (by decide)) (by rfl) (pa_cons (pv 0) (pa_cons (pv 2) pa_nil))))
      (pss_one (ps_setLc (i := 6) (own := [("_law_k", 8), ("_law_time", 9)]) (g := gTup K 2 (gCons (gName 8) (gCons (gName 9) gNil))) (tt := tYes) rfl sc_law_times.nd rfl rfl (sw_true rfl rfl rfl (by decide +kernel)) (pi_enumK (K := K) rfl (by rfl) m_enumerate (pa_cons (pv 6) pa_nil)) (blkOk_by (own := [("_law_k", 8), ("_law_time", 9)]) (N := ["_law_d", "_law_most", "_law_many", "_law_reading_here", "_law_unit", "_law_shake", "_law_times_here", "_law_at", "_law_k", "_law_time"]) (sc := defScope s_law_times) (by decide +kernel)) (fun _ _ _ _ _ => (pg_tup rfl (pgs_cons (pg_name (i := 8) sc_law_times.nd rfl (.inl rfl) (.inr rfl)) (pgs_cons (pg_name (i := 9) sc_law_times.nd rfl (.inl rfl) (.inr rfl)) pgs_nil)))) (fun _ _ _ _ _ => pts_nil) (fun _ _ _ _ _ => (pe_ix (ix_listK (K := K) rfl) (pe_lst (pa_cons (pv 9) (pa_cons (pe_op op_add pe_int (pe_op op_mul (pv 9) pe_int)) pa_nil))) (pe_callTy call_int1 (by rfl) m_int (by decide +kernel) (pa_cons (pe_cmpR op_ge (pv 8) (pv 7) (nomark _)) pa_nil)) (fun _ _ => rfl))))))
      pss_nil)
      (pss_one (ps_ret (pe_lc (own := [("_law_time", 9)]) (g := gName 9) (tt := tYes) rfl sc_law_times.nd (pi_listK (K := K) rfl (pv 6)) (blkOk_by (own := [("_law_time", 9)]) (N := ["_law_d", "_law_most", "_law_many", "_law_reading_here", "_law_unit", "_law_shake", "_law_times_here", "_law_at", "_law_k", "_law_time"]) (sc := defScope s_law_times) (by decide +kernel)) (fun _ _ _ _ _ => (pg_name (i := 9) sc_law_times.nd rfl (.inl rfl) (.inr rfl))) (fun _ _ _ _ _ => pts_nil) (fun _ _ _ _ _ => (pe_callB (call_min2 rfl) (by rfl) m_min (by decide +kernel) (pa_cons pe_int (pa_cons (pv 9) pa_nil)))))))))))))), ?_⟩
    -- many
    refine ⟨_, rfl, _, rfl, _, _, rfl, rfl, _, _, rfl, rfl, ⟨by decide, by decide⟩, d, _, rfl, hd, by omega, by omega, fun k H1 k0 k1 d1 p1 => ?_⟩
    refine ⟨_, _, rfl, rfl, .inl ⟨by decide, by decide⟩, _, _, rfl, rfl, ?_⟩
    have n0 : 1 ≤ 1 + 2 * k := by omega
    have n1 : 1 + 2 * k ≤ m := by omega
    have n2 : (1 + 2 * k) % 2 = 1 := by omega
    -- reading_here
    refine ⟨_, rfl, _, rfl, d, _, rfl, d1, by omega, by omega, fun ks pr H2 el rk npr epr d2 p2 => ?_⟩
    have k2 := p1.trans p2
    have npr0 : H pr = none := p1.new d1 npr
    -- unit
    refine ⟨_, rfl, lz (by show 3 ≤ 1000000; decide), fun l nl => ?_⟩
    refine ⟨_, rfl, d, _, rfl, d2.same (sm nl), by decide, by decide, fun r H3 r0 r1 d3 p3 => ?_⟩
    obtain ⟨mm, em, mm0, mm1⟩ : ∃ mm : Int, ([V.int 6, V.int 60, V.int 999] : List V)[r.toNat]? = some (V.int mm) ∧ 0 < mm ∧ mm ≤ 999 := by
      rcases (by omega : r = 0 ∨ r = 1 ∨ r = 2) with rfl | rfl | rfl
      · exact ⟨_, rfl, by decide, by decide⟩
      · exact ⟨_, rfl, by decide, by decide⟩
      · exact ⟨_, rfl, by decide, by decide⟩
    have n3 : l ≠ d := d2.ne nl
    refine ⟨_, _, _, _, rfl, rfl, SqL.of (p3 _ _ n3 upd_same), aI r0 em, d, _, rfl, d3, mm0, by omega, fun u H4 u0 u1 d4 p4 => ?_⟩
    refine ⟨_, _, rfl, rfl, ?_⟩
    have k4 : Kp d H2 H4 := ((Kp.of (sm nl)).trans p3).trans p4
    have v0 : 1 ≤ 1 + u := by omega
    have v1 : 1 + u ≤ 999 := by omega
    -- shake
    refine ⟨_, rfl, _, _, rfl, rfl, ⟨by decide, by decide⟩, _, _, rfl, rfl, _, rfl, _, _, rfl, rfl, lz (by show 4 ≤ 1000000; decide), fun l2 nl2 => ?_⟩
    refine ⟨_, rfl, d, _, rfl, d4.same (sm nl2), by decide, by decide, fun r2 H5 r20 r21 d5 p5 => ?_⟩
    obtain ⟨sh, es, sh0, sh1⟩ : ∃ sh : Int, ([V.int 0, V.int 1, V.int (1 + (1 + u) / 4), V.int (1 + (1 + u))] : List V)[r2.toNat]? = some (V.int sh) ∧ 0 ≤ sh ∧ sh ≤ 1000 := by
      rcases (by omega : r2 = 0 ∨ r2 = 1 ∨ r2 = 2 ∨ r2 = 3) with rfl | rfl | rfl | rfl
      · exact ⟨_, rfl, by decide, by decide⟩
      · exact ⟨_, rfl, by decide, by decide⟩
      · exact ⟨_, rfl, by omega, by omega⟩
      · exact ⟨_, rfl, by omega, by omega⟩
    have n4 : l2 ≠ d := d4.ne nl2
    refine ⟨_, _, _, _, rfl, rfl, SqL.of (p5 _ _ n4 upd_same), aI r20 es, ?_⟩
    have k5 : Kp d H2 H5 := (k4.trans (Kp.of (sm nl2))).trans p5
    have kA : Kp d H H5 := k2.trans k5
    have epr5 : H5 pr = some (.lst (ks.map V.int)) := k5 _ _ (d1.ne npr) epr
    -- times
    refine ⟨fun σ H6 => ∃ (ts : List Int) (p : Addr) (y : Option V), σ = [some (.ref d), some (.int m), some (.int (1 + 2 * k)), some (.ref pr), some (.int (1 + u)), some (.int sh), some (.ref p), y, none, none] ∧
      (ts.length : Int) = 1 + 2 * k ∧ (∀ (i : Nat) (t : Int), ts[i]? = some t → 1 ≤ t ∧ t ≤ 20000) ∧ H p = none ∧ H6 p = some (.lst (ts.map V.int)) ∧ Dice H6 d ∧ Kp d H H6, ?_, ?_⟩
    · refine ⟨_, rfl, 1 + 2 * k, rfl, by omega, by omega, fun D nD => lc_d walk_range (fun i y => ∃ z, y = V.int z ∧ (1 ≤ z ∧ z ≤ 20000)) d5 nD (by omega) (fun _ _ => trivial) ?_ ?_⟩
      · rintro i x H6 H6' acc c hi k6 d6 e6 l6 ⟨rfl, rfl⟩ fin
        obtain ⟨kk, ek, hk⟩ : ∃ kk, ks[i]? = some kk ∧ (kk = 1 ∨ kk = 3 ∨ kk = 7) := by
          have hi2 : i < ks.length := by omega
          exact ⟨_, List.getElem?_eq_getElem hi2, kinds_le (rk i _ (List.getElem?_eq_getElem hi2))⟩
        have ek2 : (ks.map V.int)[(0 + (i : Int)).toNat]? = some (V.int kk) := by
          rw [Int.zero_add, Int.toNat_natCast]
          exact at_int ek
        refine ⟨rfl, _, rfl, _, rfl, _, _, _, _, rfl, rfl, SqL.of (k6 _ _ (d1.ne npr) epr5), aI (by omega) ek2, _, rfl, _, _, rfl, rfl, .inl ⟨by omega, by omega⟩, ?_⟩
        refine ⟨_, rfl, _, rfl, _, _, rfl, rfl, .inl ⟨by decide, by decide⟩, _, _, rfl, rfl, d, _, rfl, d6, by omega, by omega, fun r3 H7 r30 r31 d7 p7 => ?_⟩
        refine ⟨_, _, rfl, rfl, _, rfl, _, _, rfl, rfl, _, _, rfl, fin _ _ (k6.trans p7) d7 (p7 _ _ (d5.ne nD) e6) ⟨_, rfl, ?_⟩⟩
        have b1 : 1 + u ≤ kk * (1 + u) ∧ kk * (1 + u) ≤ 7 * (1 + u) := by
          rcases hk with rfl | rfl | rfl <;> omega
        split <;> omega
      · intro H6 xs k6 d6 e6 l6 p6
        obtain ⟨ns, rfl, l, pn⟩ := ints_of p6
        exact ⟨ns, D, _, rfl, by omega, pn, kA.new d5 nD, e6, d6, kA.trans k6⟩
    · rintro σ H6 ⟨ts, p, y, rfl, tl, tb, np, ep, d6, k6⟩
      -- any times
      refine ⟨fun σ H6 => ∃ (ts : List Int) (p : Addr) (y : Option V), σ = [some (.ref d), some (.int m), some (.int (1 + 2 * k)), some (.ref pr), some (.int (1 + u)), some (.int sh), some (.ref p), y, none, none] ∧
        (ts.length : Int) = 1 + 2 * k ∧ (∀ (i : Nat) (t : Int), ts[i]? = some t → 1 ≤ t ∧ t ≤ 20000) ∧ H p = none ∧ H6 p = some (.lst (ts.map V.int)) ∧ Dice H6 d ∧ Kp d H H6, ?_, ?_⟩
      · refine ⟨_, rfl, d, _, rfl, d6, by decide, by decide, fun r H7 r0 r1 d7 p7 => ?_⟩
        refine ⟨rfl, _, rfl, ite2 (fun _ => ?_) (fun _ => ⟨ts, p, y, rfl, tl, tb, np, p7 _ _ (hd.ne np) ep, d7, k6.trans p7⟩)⟩
        refine ⟨_, rfl, 1 + 2 * k, rfl, by omega, by omega, fun D nD => lc_d walk_range (fun i y => ∃ z, y = V.int z ∧ (1 ≤ z ∧ z ≤ 20000)) d7 nD (by omega) (fun _ _ => trivial) ?_ ?_⟩
        · rintro i x H8 H8' acc c hi k8 d8 e8 l8 ⟨rfl, rfl⟩ fin
          refine ⟨rfl, _, rfl, lz (by show 2 ≤ 1000000; decide), fun l3 nl3 => ?_⟩
          refine ⟨_, rfl, d, _, rfl, d8.same (sm nl3), by decide, by decide, fun r3 H9 r30 r31 d9 p9 => ?_⟩
          obtain ⟨mm, em, mm0, mm1⟩ : ∃ mm : Int, ([V.int 9, V.int 9999] : List V)[r3.toNat]? = some (V.int mm) ∧ 0 < mm ∧ mm ≤ 9999 := by
            rcases (by omega : r3 = 0 ∨ r3 = 1) with rfl | rfl
            · exact ⟨_, rfl, by decide, by decide⟩
            · exact ⟨_, rfl, by decide, by decide⟩
          refine ⟨_, _, _, _, rfl, rfl, SqL.of (p9 _ _ (d8.ne nl3) upd_same), aI r30 em, d, _, rfl, d9, mm0, by omega, fun u H10 u0 u1 d10 p10 => ?_⟩
          refine ⟨_, _, rfl, rfl, fin _ _ (((k8.then (sm nl3)).trans p9).trans p10) d10 (p10 _ _ (d7.ne nD) (p9 _ _ (d7.ne nD) ((sm nl3) _ _ e8))) ⟨_, rfl, by omega, by omega⟩⟩
        · intro H8 xs k8 d8 e8 l8 p8
          obtain ⟨ns, rfl, l, pn⟩ := ints_of p8
          exact ⟨ns, D, _, rfl, by omega, pn, (k6.trans p7).new d7 nD, e8, d8, (k6.trans p7).trans k8⟩
      · clear tl tb np ep d6 k6 y p ts
        rintro σ H6 ⟨ts, p, y, rfl, tl, tb, np, ep, d6, k6⟩
        -- slower by half
        refine ⟨fun σ H6 => ∃ (ts : List Int) (p : Addr) (y : Option V), σ = [some (.ref d), some (.int m), some (.int (1 + 2 * k)), some (.ref pr), some (.int (1 + u)), some (.int sh), some (.ref p), y, none, none] ∧
          (ts.length : Int) = 1 + 2 * k ∧ (∀ (i : Nat) (t : Int), ts[i]? = some t → 1 ≤ t ∧ t ≤ 50000) ∧ H p = none ∧ H6 p = some (.lst (ts.map V.int)) ∧ Dice H6 d ∧ Kp d H H6, ?_, ?_⟩
        · refine ⟨_, rfl, d, _, rfl, d6, by decide, by decide, fun r H7 r0 r1 d7 p7 => ?_⟩
          have ep7 : H7 p = some (.lst (ts.map V.int)) := p7 _ _ (hd.ne np) ep
          refine ⟨rfl, _, rfl, ite2 (fun _ => ?_) (fun _ => ⟨ts, p, y, rfl, tl, fun i t h => ⟨(tb i t h).1, by have := (tb i t h).2; omega⟩, np, ep7, d7, k6.trans p7⟩)⟩
          refine ⟨_, rfl, _, rfl, d, _, rfl, d7, by omega, by omega, fun at_ H8 at0 at1 d8 p8 => ?_⟩
          have ep8 : H8 p = some (.lst (ts.map V.int)) := p8 _ _ (hd.ne np) ep7
          refine ⟨_, rfl, _, _, rfl, SqL.of ep8, fun D nD => lc_d (d := d) walk_enum (fun i y => ∃ z, y = V.int z ∧ (1 ≤ z ∧ z ≤ 50000)) d8 nD (by rw [List.length_map]; omega) (fun H9 k9 => SqL.of (k9 _ _ (hd.ne np) ep8)) ?_ ?_⟩
          · rintro i x H9 H9' acc c hi k9 d9 e9 l9 ⟨T, x1, x2, rfl, nT, rfl, f1, f2⟩ fin
            cases f1
            obtain ⟨t, rfl, et⟩ := int_at f2
            have sT := sm (o := .tup [V.int (i : Nat), V.int t]) nT
            have nDT : D ≠ T := ne_of_none e9 nT
            refine ⟨_, _, rfl, .inl (.inl upd_same), rfl, _, _, rfl, _, _, rfl, rfl, rfl, _, rfl, _, rfl, _, _, rfl, rfl, .inl ⟨by have := (tb i t et).1; omega, by have := (tb i t et).2; omega⟩, ?_⟩
            refine ⟨_, _, rfl, rfl, lz (by show 2 ≤ 1000000; decide), fun l3 nl3 => ?_⟩
            refine ⟨_, rfl, _, rfl, _, _, rfl, rfl, .inr ⟨_, rfl, _, _, _, _, rfl, rfl, SqL.of upd_same, pick2 _ _ _, ?_⟩⟩
            have s3 := sT.trans (sm (o := .lst [V.int t, V.int (1 + t * 2)]) nl3)
            refine fin _ _ (k9.then s3) (d9.same s3) (s3 _ _ e9) ?_
            have b := tb i t et
            cases decide (at_ ≤ (i : Nat)) with
            | false => exact ⟨t, rfl, by omega, by omega⟩
            | true => exact ⟨1 + t * 2, rfl, by omega, by omega⟩
          · intro H9 xs k9 d9 e9 l9 p9
            obtain ⟨ns, rfl, l, pn⟩ := ints_of p9
            simp only [List.length_map] at l9 l
            exact ⟨ns, D, _, rfl, by omega, pn, (k6.trans (p7.trans p8)).new d8 nD, e9, d9, (k6.trans (p7.trans p8)).trans k9⟩
        · clear tl tb np ep d6 k6 y p ts
          rintro σ H6 ⟨ts, p, y, rfl, tl, tb, np, ep, d6, k6⟩
          refine ⟨_, rfl, p, rfl, ⟨_, SqL.of ep⟩, fun D nD => lc_d (d := d) walk_list (fun i y => ∃ z, y = V.int z ∧ (1 ≤ z ∧ z ≤ 9999)) d6 nD (by rw [List.length_map]; omega) (fun H9 k9 => SqL.of (k9 _ _ (hd.ne np) ep)) ?_ ?_⟩
          · rintro i x H9 H9' acc c hi k9 d9 e9 l9 ⟨rfl, hx⟩ fin
            obtain ⟨t, rfl, et⟩ := int_at hx
            have b := tb i t et
            refine ⟨rfl, _, rfl, _, _, rfl, fin _ _ k9 d9 e9 ⟨_, rfl, ?_⟩⟩
            split <;> omega
          · intro H9 xs k9 d9 e9 l9 p9
            obtain ⟨ns, rfl, l, pn⟩ := ints_of p9
            simp only [List.length_map] at l9 l
            exact q ns D H9 ⟨by omega, by omega, pn⟩ (by omega) (k6.new d6 nD) e9 d9 (k6.trans k9)
end
end KT
namespace KT
open PySem PySem.Spec PyProof.Rows L2
section
variable {P : Program} {w : World} {K : PySem.W.Frag} {mg : Str → Option Value} {base : Heap}
theorem ok_law_low (S : Src K mg "_law_low" s_law_low) (m_abs : mg "abs" = none) : KDef P w K mg base CX0 1 "_law_low" ["_law_top", "_law_bottom"] spLow := by
  refine S.ok sc_law_low (fun _ _ _ _ _ _ us hl => match us, hl with | [_, _], _ => rfl) (fun vs H Q E h => ?_) (fun f cdv A outer s H vs Q E hr h => ?_)
  · obtain ⟨t, b, rfl, _⟩ := h
    rfl
  · obtain ⟨t, b, rfl, hb, hb2, q⟩ := h
    refine ⟨_, (pss_cons (ps_set (i := 2) sc_law_low.nd rfl (.inl rfl) (pe_callB call_abs (by rfl) m_abs (by decide +kernel) (pa_cons (pv 0) pa_nil)))
      (pss_cons (ps_set (i := 3) sc_law_low.nd rfl (.inl rfl) (pv 1))
      (pss_cons (ps_while PassesOwn.never (pt_cmpR op_gt (pv 3) pe_int (nomark _))
      (pss_one (ps_par (i := 2) (j := 3) (by rfl) sc_law_low.nd rfl rfl (by decide) rfl rfl (pa_cons (pv 3) (pa_cons (pe_op op_mod (pv 2) (pv 3)) pa_nil)) (by rfl))))
      (pss_one (ps_ret (pe_tup (pa_cons (pe_op op_fdiv (pv 0) (pv 2)) (pa_cons (pe_op op_fdiv (pv 1) (pv 2)) pa_nil)))))))), ?_⟩
    refine ⟨_, rfl, _, rfl, _, rfl, while_by (fun σ H1 => ∃ m n : Nat, σ = [some (.int t), some (.int b), some (.int (m : Int)), some (.int (n : Int))] ∧ Nat.gcd m n = Int.gcd t b ∧ 0 < m + n ∧ H1 = H)
      (fun σ _ => match σ with | [_, _, _, some (.int n)] => n.toNat | _ => 0) ⟨t.natAbs, b.natAbs, ?_, rfl, by omega, rfl⟩ ?_ ?_⟩
    · have e1 : (if t < 0 then -t else t) = (t.natAbs : Int) := by split <;> omega
      have e2 : b = (b.natAbs : Int) := by omega
      show [some (V.int t), some (V.int b), some (V.int (if t < 0 then -t else t)), some (V.int b)] = _
      rw [e1, ← e2]
    · rintro σ H1 ⟨m, n, rfl, eg, hp, rfl⟩
      refine ⟨_, rfl, _, _, rfl, rfl, _, rfl, ite2 (fun e => ?_) (fun e => ?_)⟩
      · have hn : (0 : Int) < (n : Int) := of_decide_eq_true e
        refine ⟨_, rfl, _, rfl, _, rfl, _, _, rfl, rfl, hn, _, _, rfl, ?_, ?_⟩
        · refine ⟨n, m % n, rfl, ?_, by omega, rfl⟩
          rw [← eg, Nat.gcd_comm n (m % n), ← Nat.gcd_rec, Nat.gcd_comm]
        · show ((m : Int) % (n : Int)).toNat < (n : Int).toNat
          have h1 : ((m : Int) % (n : Int)) < n := Int.emod_lt_of_pos _ hn
          omega
      · have hn : n = 0 := by
          have h1 : ¬ ((0 : Int) < (n : Int)) := fun z => e (decide_eq_true z)
          omega
        subst hn
        rw [Nat.gcd_zero_right] at eg
        subst eg
        have g0 : 0 < ((Int.gcd t b : Nat) : Int) := gI_pos hb
        have g1 : ((Int.gcd t b : Nat) : Int) ≤ b := gI_le hb
        refine ⟨_, rfl, _, rfl, _, _, rfl, rfl, ⟨g0, by omega⟩, _, rfl, _, rfl, _, _, rfl, rfl, ⟨g0, by omega⟩, lz (by show 2 ≤ 1000000; decide), fun p np => ?_⟩
        exact q p _ np (sm np) upd_same
    · rintro σ H1 Q1 Q2 hq ⟨v, e, i, j, e1, e2, k, e3, e4⟩
      exact ⟨v, e, i, j, e1, e2, k, e3, hq _ _ e4⟩
end
end KT
namespace KT
open PySem PySem.Spec PyProof.Rows L2
section
variable {P : Program} {w : World} {K : PySem.W.Frag} {mg : Str → Option Value} {base : Heap}
theorem ok_law_less (S : Src K mg "_law_less" s_law_less) : KDef P w K mg base CX0 1 "_law_less" ["_law_one", "_law_other"] (spLess K) := by
  refine S.ok sc_law_less (fun _ _ _ _ _ _ us hl => match us, hl with | [_, _], _ => rfl) (fun vs H Q E h => ?_) (fun f cdv A outer s H vs Q E hr h => ?_)
  · obtain ⟨p, r, f1, g1, rfl, _⟩ := h
    rfl
  · obtain ⟨p, r, f1, g1, rfl, hp, hq, b1, b2, q⟩ := h
    refine ⟨_, (pss_one (ps_ret (pe_cmpR op_lt (pe_op op_mul (pe_ix (ix_tupK (K := K) rfl) (pv 0) pe_int (fun _ _ => rfl)) (pe_ix (ix_tupK (K := K) rfl) (pv 1) pe_int (fun _ _ => rfl))) (pe_op op_mul (pe_ix (ix_tupK (K := K) rfl) (pv 1) pe_int (fun _ _ => rfl)) (pe_ix (ix_tupK (K := K) rfl) (pv 0) pe_int (fun _ _ => rfl))) (nomark _)))), ?_⟩
    refine ⟨_, rfl, _, _, _, _, rfl, rfl, hp, aI (by decide) rfl, _, rfl, _, _, _, _, rfl, rfl, hq, aI (by decide) rfl, _, _, rfl, rfl, .inl b1, ?_⟩
    refine ⟨_, rfl, _, _, _, _, rfl, rfl, hq, aI (by decide) rfl, _, rfl, _, _, _, _, rfl, rfl, hp, aI (by decide) rfl, _, _, rfl, rfl, .inl b2, _, _, rfl, rfl, q⟩
end
end KT
namespace KT
open PySem PySem.Spec PyProof.Rows L2
section
variable {P : Program} {w : World} {K : PySem.W.Frag} {mg : Str → Option Value} {base : Heap}
theorem ok_law_asks (S : Src K mg "_law_asks" s_law_asks) (G_law_low : KDef P w K mg base CX0 1 "_law_low" ["_law_top", "_law_bottom"] spLow) :
    KDef P w K mg base CX0 2 "_law_asks" ["_law_times_here", "_law_reading_here", "_law_one", "_law_other"] (spAsks K) := by
  refine S.ok sc_law_asks (fun _ _ _ _ _ _ us hl => match us, hl with | [_, _, _, _], _ => rfl) (fun vs H Q E h => ?_) (fun f cdv A outer s H vs Q E hr h => ?_)
  · obtain ⟨a, b, ts, ks, i, j, rfl, _⟩ := h
    rfl
  · obtain ⟨a, b, ts, ks, i, j, rfl, T, hi, hj, q⟩ := h
    refine ⟨_, (pss_cons (ps_set (i := 4) sc_law_asks.nd rfl (.inl rfl) (pe_op op_mul (pe_ix (ix_listK (K := K) rfl) (pv 0) (pv 2) (fun _ _ => rfl)) (pe_ix (ix_listK (K := K) rfl) (pv 1) (pv 3) (fun _ _ => rfl))))
      (pss_cons (ps_set (i := 4) sc_law_asks.nd rfl (.inl rfl) (pe_op op_sub (pv 4) (pe_op op_mul (pe_ix (ix_listK (K := K) rfl) (pv 0) (pv 3) (fun _ _ => rfl)) (pe_ix (ix_listK (K := K) rfl) (pv 1) (pv 2) (fun _ _ => rfl)))))
      (pss_one (ps_ret (pe_callD G_law_low (hr.mono (by decide)) (by rfl) (pa_cons (pv 4) (pa_cons (pe_op op_add (pe_ix (ix_listK (K := K) rfl) (pv 0) (pv 2) (fun _ _ => rfl)) (pe_ix (ix_listK (K := K) rfl) (pv 0) (pv 3) (fun _ _ => rfl))) pa_nil))))))), ?_⟩
    have t1 := at_int (get_at hi)
    have t2 := at_int (get_at hj)
    have k1 := at_int (get_at (l := ks) (i := i) (by rw [T.ok.len]; exact hi))
    have k2 := at_int (get_at (l := ks) (i := j) (by rw [T.ok.len]; exact hj))
    have bt := T.ok.ti hi
    have bt2 := T.ok.ti hj
    have bb := T.ok.bot hi hj
    refine ⟨_, rfl, _, rfl, _, _, _, _, rfl, rfl, T.t, atI_nat t1, _, rfl, _, rfl, _, _, _, _, rfl, rfl, T.k, atI_nat k2, _, _, rfl, rfl, .inl ⟨by omega, by omega⟩, ?_⟩
    refine ⟨_, rfl, _, rfl, _, rfl, _, _, _, _, rfl, rfl, T.t, atI_nat t2, _, rfl, _, rfl, _, _, _, _, rfl, rfl, T.k, atI_nat k1, _, _, rfl, rfl, .inl ⟨by omega, by omega⟩, _, _, rfl, rfl, ?_⟩
    refine ⟨_, rfl, _, rfl, _, rfl, _, _, _, _, rfl, rfl, T.t, atI_nat t1, _, rfl, _, rfl, _, _, _, _, rfl, rfl, T.t, atI_nat t2, _, _, rfl, rfl, _, _, rfl, ?_⟩
    exact ⟨bb.1, by have := bb.2; show askB ts i j < _; omega, q⟩
end
end KT
namespace KT
open PySem PySem.Spec PyProof.Rows L2
section
variable {P : Program} {w : World} {K : PySem.W.Frag} {mg : Str → Option Value} {base : Heap}
theorem ok_law_width (S : Src K mg "_law_width" s_law_width) (m_range : mg "range" = none) (m_len : mg "len" = none) (G_law_less : KDef P w K mg base CX0 1 "_law_less" ["_law_one", "_law_other"] (spLess K))
    (G_law_asks : KDef P w K mg base CX0 2 "_law_asks" ["_law_times_here", "_law_reading_here", "_law_one", "_law_other"] (spAsks K)) : KDef P w K mg base CX0 3 "_law_width" ["_law_times_here", "_law_reading_here"] (spWidthL K) := by
  refine S.ok sc_law_width (fun _ _ _ _ _ _ us hl => match us, hl with | [_, _], _ => rfl) (fun vs H Q E h => ?_) (fun f cdv A outer s H vs Q E hr h => ?_)
  · obtain ⟨a, b, ts, ks, rfl, _⟩ := h
    rfl
  · obtain ⟨a, b, ts, ks, rfl, T, hn, q⟩ := h
    refine ⟨_, (pss_cons (ps_set (i := 2) sc_law_width.nd rfl (.inl rfl) (pe_tup (pa_cons (pe_tup (pa_cons pe_int (pa_cons pe_int pa_nil))) (pa_cons (pe_tup (pa_cons pe_int (pa_cons pe_int pa_nil))) pa_nil))))
      (pss_cons (ps_for PassesOwn.never rfl (pi_range1 rfl m_range (pa_cons (pe_callB (call_len_seqK (K := K) rfl) (by rfl) m_len (by decide +kernel) (pa_cons (pv 0) pa_nil)) pa_nil)) (pg_name (i := 3) sc_law_width.nd rfl (.inl rfl))
      (pss_one (ps_for PassesOwn.never rfl (pi_range1 rfl m_range (pa_cons (pe_callB (call_len_seqK (K := K) rfl) (by rfl) m_len (by decide +kernel) (pa_cons (pv 0) pa_nil)) pa_nil)) (pg_name (i := 4) sc_law_width.nd rfl (.inl rfl))
      (pss_one (ps_if (pt_val (pe_callD G_law_less (hr.mono (by decide)) (by rfl) (pa_cons (pe_ix (ix_tupK (K := K) rfl) (pv 2) pe_int (fun _ _ => rfl)) (pa_cons (pe_callD G_law_asks (hr.mono (by decide)) (by rfl) (pa_cons (pv 0) (pa_cons (pv 1) (pa_cons (pv 3) (pa_cons (pv 4) pa_nil))))) pa_nil))))
      (pss_one (ps_set (i := 2) sc_law_width.nd rfl (.inl rfl) (pe_tup (pa_cons (pe_callD G_law_asks (hr.mono (by decide)) (by rfl) (pa_cons (pv 0) (pa_cons (pv 1) (pa_cons (pv 3) (pa_cons (pv 4) pa_nil))))) (pa_cons (pe_tup (pa_cons (pv 3) (pa_cons (pv 4) pa_nil))) pa_nil)))))
      pss_nil)))))
      (pss_one (ps_ret (pv 2))))), ?_⟩
    have tl : (ts.map V.int).length = ts.length := List.length_map ..
    have le := T.ok.le
    refine ⟨lz (by show 2 ≤ 1000000; decide), fun p1 np1 => ⟨lz (by show 2 ≤ 1000000; decide), fun p2 np2 => ⟨lz (by show 2 ≤ 1000000; decide), fun p3 np3 => ?_⟩⟩⟩
    refine ⟨_, rfl, a, _, rfl, .inl ((((sm np1).trans (sm np2)).trans (sm np3)).seq T.t), _, rfl, by omega, by omega, ?_⟩
    refine for_range (lo := 0) (n := ((ts.map V.int).length : Int).toNat) (fun i σ H1 => ∃ (p : Addr) (y3 y4 : Option V), σ = [some (.ref a), some (.ref b), some (.ref p), y3, y4] ∧ Same H H1 ∧ WAt H1 p (lowF (bestTo ts ks i 0).1.1 (bestTo ts ks i 0).1.2, (bestTo ts ks i 0).2)) ?_ ?_ ?_
    · refine ⟨p3, _, _, rfl, ((sm np1).trans (sm np2)).trans (sm np3), p1, p2, ?_, ?_, ?_⟩
      · exact upd_same
      · rw [upd_ne (ne_of_none ((sm np2) _ _ upd_same) np3), upd_ne (ne_of_none upd_same np2), upd_same]
        show some (HO.tup [V.int 0, V.int 1]) = some (HO.tup (frV (lowF 0 1)))
        rw [low_zero]
        rfl
      · rw [upd_ne (ne_of_none upd_same np3), upd_same]
        rfl
    · rintro i σ H1 hi ⟨p, y3, y4, rfl, s1, wa⟩
      have hi' : i < ts.length := by omega
      refine ⟨_, rfl, a, _, rfl, .inl (s1.seq T.t), _, rfl, by omega, by omega, ?_⟩
      refine for_range (lo := 0) (n := ((ts.map V.int).length : Int).toNat) (fun j σ H2 => ∃ (p : Addr) (y4 : Option V), σ = [some (.ref a), some (.ref b), some (.ref p), some (.int (0 + (i : Int))), y4] ∧ Same H H2 ∧ WAt H2 p (lowF (bestTo ts ks i j).1.1 (bestTo ts ks i j).1.2, (bestTo ts ks i j).2)) ?_ ?_ ?_
      · exact ⟨p, _, rfl, s1, wa⟩
      · clear wa p s1
        rintro j σ H2 hj ⟨p, y4, rfl, s2, wa⟩
        have hj' : j < ts.length := by omega
        have ok := bestTo_ok T.ok hn (i := i) (j := j) (by omega) (by omega) (.inl hi')
        have bb := T.ok.bot hi' hj'
        have bt := T.ok.top hi' hj'
        obtain ⟨x, y, e1, e2, e3⟩ := wa.ex
        have ei : (0 + (i : Int)) = (i : Int) := by omega
        have ej : (0 + (j : Int)) = (j : Int) := by omega
        refine ⟨_, rfl, _, _, _, _, rfl, rfl, SqT.of e1, aI (by decide) rfl, _, rfl, _, rfl, _, rfl, _, rfl, a, b, ts, ks, i, j, by rw [ei, ej]; rfl, T.same s2, hi', hj', fun p4 H4 np4 s4 e4 => ?_⟩
        have ab1 := low_top_abs (bestTo ts ks i j).1.1 _ ok.pos
        have ab2 := low_top_abs (askT ts ks i j) _ bb.1
        have o1 := ok.t0
        have o2 := ok.t1
        refine ⟨x, p4, _, _, rfl, SqT.of (s4 _ _ e2), SqT.of e4, ⟨by show _ < (lowF _ _).1; omega, by show (lowF _ _).1 < _; omega⟩, ⟨by omega, by omega⟩, _, rfl, ?_⟩
        have cmp := low_lt (t := (bestTo ts ks i j).1.1) (t' := askT ts ks i j) ok.pos bb.1
        refine ite2 (fun e => ?_) (fun e => ?_)
        · have lt := cmp.mp (of_decide_eq_true e)
          have st : bestTo ts ks i (j + 1) = ((askT ts ks i j, askB ts i j), (i, j)) := by
            rw [bestTo_succ]
            exact if_pos lt
          refine ⟨_, rfl, _, rfl, _, rfl, _, rfl, a, b, ts, ks, i, j, by rw [ei, ej]; rfl, (T.same s2).same s4, hi', hj', fun p5 H5 np5 s5 e5 => ?_⟩
          refine ⟨_, rfl, _, rfl, lz (by show 2 ≤ 1000000; decide), fun p6 np6 => ⟨lz (by show 2 ≤ 1000000; decide), fun p7 np7 => ?_⟩⟩
          refine ⟨p7, _, rfl, (((s2.trans s4).trans s5).trans (sm np6)).trans (sm np7), p5, p6, upd_same, ?_, ?_⟩
          · rw [st]
            exact sm np7 _ _ (sm np6 _ _ e5)
          · rw [st, upd_ne (ne_of_none upd_same np7), upd_same, ei, ej]
            rfl
        · have st : bestTo ts ks i (j + 1) = bestTo ts ks i j := by
            rw [bestTo_succ]
            exact if_neg fun z => e (decide_eq_true (cmp.mpr z))
          refine ⟨p, _, rfl, s2.trans s4, ?_⟩
          rw [st]
          exact wa.same s4
      · rintro σ H2 ⟨p, y4, rfl, s2, wa⟩
        refine ⟨p, _, _, rfl, s2, ?_⟩
        rw [bestTo_row]
        have en : ((ts.map V.int).length : Int).toNat = ts.length := by omega
        rw [en] at wa
        exact wa
    · rintro σ H1 ⟨p, y3, y4, rfl, s1, wa⟩
      have en : ((ts.map V.int).length : Int).toNat = ts.length := by omega
      rw [en, bestTo_all] at wa
      exact ⟨_, rfl, q p H1 s1 wa⟩
end
end KT
namespace KT
open PySem PySem.Spec PyProof.Rows L2
section
variable {P : Program} {w : World} {K : PySem.W.Frag} {mg : Str → Option Value} {base : Heap}
structure SqD (K : PySem.W.Frag) (H : Hp) (a : Addr) (xs : List V) (ds : List PyData) (nm : String) : Prop where
  sq : SqL K H a xs ∨ SqT K H a xs
  dp : DpAll K H xs ds
  ty : TyX K H (.ref a) (.type nm)
theorem sq_same {K : PySem.W.Frag} {H H' : Hp} {a : Addr} {xs : List V} (s : Same H H') (h : SqL K H a xs ∨ SqT K H a xs) : SqL K H' a xs ∨ SqT K H' a xs := h.elim (fun h => .inl (s.seq h)) fun h => .inr (same_tup s h)
theorem ix_any {K : PySem.W.Frag} {H : Hp} {a : Addr} {xs : List V} {i : Int} {v : V} {Q : VK} (h : SqL K H a xs ∨ SqT K H a xs) (e : atI xs i = some v) (q : Q v H) : rIx K (.ref a) (.int i) H Q :=
  h.elim (fun h => .inl ⟨_, _, _, _, rfl, rfl, h, e, q⟩) fun h => .inr (.inl ⟨_, _, _, _, rfl, rfl, h, e, q⟩)
theorem all_true {xs : List V} (h : ∀ (i : Nat) (y : V), xs[i]? = some y → y = V.bl true) : xs = (List.replicate xs.length true).map V.bl := by
  apply List.ext_getElem?
  intro i
  rw [List.getElem?_map, List.getElem?_replicate]
  by_cases c : i < xs.length
  · rw [if_pos c, List.getElem?_eq_getElem c]
    exact congrArg some (h i _ (List.getElem?_eq_getElem c))
  · rw [if_neg c, List.getElem?_eq_none (by omega)]
    rfl
theorem dp_two {K : PySem.W.Frag} {H : Hp} {u v : V} {d : PyData} {n : Nat} (hu : Dp K H u d) (hv : Dp K H v d) (ok : dOk (n + 1) d) :
    (∃ (a b : Addr) (xs ys : List V) (ds : List PyData) (nm : String), u = .ref a ∧ v = .ref b ∧ SqD K H a xs ds nm ∧ SqD K H b ys ds nm ∧ (nm = "list" ∨ nm = "tuple") ∧ ds.length ≤ 1000000 ∧ ∀ d ∈ ds, dOk n d) ∨
    (v = u ∧ (u = .non ∨ (∃ c, u = .bl c) ∨ (∃ i, u = .int i) ∨ ∃ x, u = .str x)) := by
  cases d with
  | dict kvs => exact absurd ok (by intro h; exact h)
  | none =>
    cases hu
    cases hv
    exact .inr ⟨rfl, .inl rfl⟩
  | bool c =>
    cases hu
    cases hv
    exact .inr ⟨rfl, .inr (.inl ⟨_, rfl⟩)⟩
  | int i =>
    cases hu
    cases hv
    exact .inr ⟨rfl, .inr (.inr (.inl ⟨_, rfl⟩))⟩
  | str x =>
    cases hu
    cases hv
    exact .inr ⟨rfl, .inr (.inr (.inr ⟨_, rfl⟩))⟩
  | list ds =>
    cases hu with
    | lst h1 h2 => cases hv with
      | lst g1 g2 => exact .inl ⟨_, _, _, _, ds, "list", rfl, rfl, ⟨.inl h1, h2, tyx_list h1⟩, ⟨.inl g1, g2, tyx_list g1⟩, .inl rfl, ok.1, ok.2⟩
  | tuple ds =>
    cases hu with
    | tup h1 h2 => cases hv with
      | tup g1 g2 => exact .inl ⟨_, _, _, _, ds, "tuple", rfl, rfl, ⟨.inr h1, h2, tyx_tup h1⟩, ⟨.inr g1, g2, tyx_tup g1⟩, .inr rfl, ok.1, ok.2⟩
theorem ok_law_alike (S : Src K mg "_law_alike" s_law_alike) (m_isinstance : mg "isinstance" = none) (m_bool : mg "bool" = none) (m_int : mg "int" = none) (m_str : mg "str" = none) (m_dict : mg "dict" = none) (m_tuple : mg "tuple" = none) (m_list : mg "list" = none)
    (m_len : mg "len" = none) (m_all : mg "all" = none) (m_range : mg "range" = none) : ∀ n, KDef P w K mg base CX0 n "_law_alike" ["_law_found", "_law_due"] (spAlike K n) := by
  intro n
  induction n with
  | zero => exact KDef.none S (fun _ _ _ _ _ _ us hl => match us, hl with | [_, _], _ => rfl) (fun vs H Q E ⟨_, _, _, _, _, _, h, _⟩ => h)
  | succ n G_law_alike =>
  refine S.ok sc_law_alike (fun _ _ _ _ _ _ us hl => match us, hl with | [_, _], _ => rfl) (fun vs H Q E h => ?_) (fun f cdv A outer s H vs Q E hr h => ?_)
  · obtain ⟨u, v, d, rfl, _⟩ := h
    rfl
  · obtain ⟨u, v, d, rfl, hu, hv, ok, q⟩ := h
    refine ⟨_, (pss_cons (ps_if (pt_cmpR op_isN (pv 1) pe_non (nomark _))
      (pss_one (ps_ret (pe_cmpR op_isN (pv 0) pe_non (nomark _))))
      pss_nil)
      (pss_cons (ps_if (pt_val (pe_callB (call_isiK (K := K) rfl) (by rfl) m_isinstance (by decide +kernel) (pa_cons (pv 1) (pa_cons (pe_bltn (v := .ty "bool") (u := .type "bool") (by rfl) m_bool (by decide +kernel) rfl) pa_nil))))
      (pss_one (ps_ret (pe_and (pe_callB (call_isiK (K := K) rfl) (by rfl) m_isinstance (by decide +kernel) (pa_cons (pv 0) (pa_cons (pe_bltn (v := .ty "bool") (u := .type "bool") (by rfl) m_bool (by decide +kernel) rfl) pa_nil))) (pe_one (pe_cmpR op_eq (pv 0) (pv 1) (nomark _))))))
      pss_nil)
      (pss_cons (ps_if (pt_val (pe_callB (call_isiK (K := K) rfl) (by rfl) m_isinstance (by decide +kernel) (pa_cons (pv 1) (pa_cons (pe_bltn (v := .ty "int") (u := .type "int") (by rfl) m_int (by decide +kernel) rfl) pa_nil))))
      (pss_one (ps_ret (pe_and (pe_callB (call_isiK (K := K) rfl) (by rfl) m_isinstance (by decide +kernel) (pa_cons (pv 0) (pa_cons (pe_bltn (v := .ty "int") (u := .type "int") (by rfl) m_int (by decide +kernel) rfl) pa_nil))) (pe_and (pe_not (pe_callB (call_isiK (K := K) rfl) (by rfl) m_isinstance (by decide +kernel) (pa_cons (pv 0) (pa_cons (pe_bltn (v := .ty "bool") (u := .type "bool") (by rfl) m_bool (by decide +kernel) rfl) pa_nil)))) (pe_one (pe_cmpR op_eq (pv 0) (pv 1) (nomark _)))))))
      pss_nil)
      (pss_cons (ps_if (pt_val (pe_callB (call_isiK (K := K) rfl) (by rfl) m_isinstance (by decide +kernel) (pa_cons (pv 1) (pa_cons (pe_bltn (v := .ty "str") (u := .type "str") (by rfl) m_str (by decide +kernel) rfl) pa_nil))))
      (pss_one (ps_ret (pe_and (pe_callB (call_isiK (K := K) rfl) (by rfl) m_isinstance (by decide +kernel) (pa_cons (pv 0) (pa_cons (pe_bltn (v := .ty "str") (u := .type "str") (by rfl) m_str (by decide +kernel) rfl) pa_nil))) (pe_one (pe_cmpR op_eq (pv 0) (pv 1) (nomark _))))))
      pss_nil)
      (pss_cons (ps_if (pt_val (pe_callB (call_isiK (K := K) rfl) (by rfl) m_isinstance (by decide +kernel) (pa_cons (pv 1) (pa_cons (pe_bltn (v := .ty "dict") (u := .type "dict") (by rfl) m_dict (by decide +kernel) rfl) pa_nil))))
      (pss_cons ps_never (pss_one ps_never))
      pss_nil)
      (pss_cons (ps_if (PW.pt (pw_or (pt_cmpR op_ne (pe_callB (call_isiK (K := K) rfl) (by rfl) m_isinstance (by decide +kernel) (pa_cons (pv 1) (pa_cons (pe_bltn (v := .ty "tuple") (u := .type "tuple") (by rfl) m_tuple (by decide +kernel) rfl) pa_nil))) (pe_callB (call_isiK (K := K) rfl) (by rfl) m_isinstance (by decide +kernel) (pa_cons (pv 0) (pa_cons (pe_bltn (v := .ty "tuple") (u := .type "tuple") (by rfl) m_tuple (by decide +kernel) rfl) pa_nil))) (nomark _)) (pw_or1 (pt_cmpR op_ne (pe_callB (call_isiK (K := K) rfl) (by rfl) m_isinstance (by decide +kernel) (pa_cons (pv 1) (pa_cons (pe_bltn (v := .ty "list") (u := .type "list") (by rfl) m_list (by decide +kernel) rfl) pa_nil))) (pe_callB (call_isiK (K := K) rfl) (by rfl) m_isinstance (by decide +kernel) (pa_cons (pv 0) (pa_cons (pe_bltn (v := .ty "list") (u := .type "list") (by rfl) m_list (by decide +kernel) rfl) pa_nil))) (nomark _)))))
      (pss_one (ps_ret pe_bl))
      pss_nil)
      (pss_cons (ps_if (pt_cmpR op_ne (pe_callB (call_len_seqK (K := K) rfl) (by rfl) m_len (by decide +kernel) (pa_cons (pv 0) pa_nil)) (pe_callB (call_len_seqK (K := K) rfl) (by rfl) m_len (by decide +kernel) (pa_cons (pv 1) pa_nil)) (nomark _))
      (pss_one (ps_ret pe_bl))
      pss_nil)
      (pss_one (ps_ret (pe_callB (cr_allK rfl (K := K) rfl) (by rfl) m_all (by decide +kernel) (pa_cons (pe_lc (own := [("_law_k", 3)]) (g := gName 3) (tt := tYes) rfl sc_law_alike.nd (pi_range1 rfl m_range (pa_cons (pe_callB (call_len_seqK (K := K) rfl) (by rfl) m_len (by decide +kernel) (pa_cons (pv 1) pa_nil)) pa_nil)) (blkOk_by (own := [("_law_k", 3)]) (N := ["_law_found", "_law_due", "_law_name", "_law_k"]) (sc := defScope s_law_alike) (by decide +kernel)) (fun _ _ _ _ _ => (pg_name (i := 3) sc_law_alike.nd rfl (.inl rfl) (.inr rfl))) (fun _ _ _ _ _ => pts_nil) (fun _ _ _ _ _ => (pe_callD G_law_alike (hr.mono (Nat.le_refl _)) (by rfl) (pa_cons (pe_ix (ix_seqK (K := K) rfl) (pv 0) (pv 3) (fun _ _ => rfl)) (pa_cons (pe_ix (ix_seqK (K := K) rfl) (pv 1) (pv 3) (fun _ _ => rfl)) pa_nil))))) pa_nil))))))))))), ?_⟩
    rcases dp_two hu hv ok with ⟨a, b, xs, ys, ds, nm, rfl, rfl, sa, sb, hn, le, od⟩ | ⟨rfl, rfl | ⟨c, rfl⟩ | ⟨i, rfl⟩ | ⟨x, rfl⟩⟩
    · clear hu hv ok
      have kb : PySem.W.kitOne K (.type nm) (.type "bool") = some false := by rcases hn with rfl | rfl <;> exact kit_ty (by decide +kernel)
      have ki : PySem.W.kitOne K (.type nm) (.type "int") = some false := by rcases hn with rfl | rfl <;> exact kit_ty (by decide +kernel)
      have ks : PySem.W.kitOne K (.type nm) (.type "str") = some false := by rcases hn with rfl | rfl <;> exact kit_ty (by decide +kernel)
      have kd : PySem.W.kitOne K (.type nm) (.type "dict") = some false := by rcases hn with rfl | rfl <;> exact kit_ty (by decide +kernel)
      obtain ⟨r1, kt⟩ : ∃ r, PySem.W.kitOne K (.type nm) (.type "tuple") = some r := by
        rcases hn with rfl | rfl
        · exact ⟨false, kit_ty (by decide +kernel)⟩
        · exact ⟨true, kit_ty (by decide +kernel)⟩
      obtain ⟨r2, kl⟩ : ∃ r, PySem.W.kitOne K (.type nm) (.type "list") = some r := by
        rcases hn with rfl | rfl
        · exact ⟨true, kit_ty (by decide +kernel)⟩
        · exact ⟨false, kit_ty (by decide +kernel)⟩
      have l1 := DpAll.len sa.dp
      have l2 := DpAll.len sb.dp
      refine ⟨_, rfl, rfl, _, rfl, ite2 (fun e => nomatch (of_decide_eq_true e)) (fun _ => ?_)⟩
      refine ⟨_, rfl, _, _, _, _, _, rfl, .ty _, sb.ty, kb, _, rfl, iteF ?_⟩
      refine ⟨_, rfl, _, _, _, _, _, rfl, .ty _, sb.ty, ki, _, rfl, iteF ?_⟩
      refine ⟨_, rfl, _, _, _, _, _, rfl, .ty _, sb.ty, ks, _, rfl, iteF ?_⟩
      refine ⟨_, rfl, _, _, _, _, _, rfl, .ty _, sb.ty, kd, _, rfl, iteF ?_⟩
      refine ⟨_, rfl, _, _, _, _, _, rfl, .ty _, sb.ty, kt, _, rfl, _, _, _, _, _, rfl, .ty _, sa.ty, kt, rfl, _, rfl, iteNS rfl ?_⟩
      refine ⟨_, rfl, _, _, _, _, _, rfl, .ty _, sb.ty, kl, _, rfl, _, _, _, _, _, rfl, .ty _, sa.ty, kl, rfl, _, rfl, iteNS rfl ?_⟩
      refine ⟨_, rfl, a, _, rfl, sa.sq, _, rfl, b, _, rfl, sb.sq, rfl, _, rfl, iteNS (by rw [l1, l2]) ?_⟩
      refine ⟨_, rfl, b, _, rfl, sb.sq, _, rfl, by omega, by omega, fun D nD => ?_⟩
      refine lc_s walk_range (fun i y => y = V.bl true) nD (by omega) (fun _ _ => trivial) ?_ ?_
      · rintro i x H3 H3' acc k hi s3 e3 l3 ⟨rfl, rfl⟩ fin
        have hi1 : i < xs.length := by omega
        have hi2 : i < ys.length := by omega
        obtain ⟨v1, d1, e1, e2, e4, e5⟩ := DpAll.get sa.dp hi1
        obtain ⟨v2, d2, f1, f2, f4, f5⟩ := DpAll.get sb.dp hi2
        rw [e2] at f2
        cases f2
        refine ⟨rfl, _, rfl, _, rfl, ix_any (sq_same s3 sa.sq) (aI (by omega) (by rw [Int.zero_add, Int.toNat_natCast]; exact e1)) ?_⟩
        refine ⟨_, rfl, _, rfl, ix_any (sq_same s3 sb.sq) (aI (by omega) (by rw [Int.zero_add, Int.toNat_natCast]; exact f1)) ?_⟩
        exact ⟨v1, v2, d1, rfl, Dp.same s3 _ _ e4, Dp.same s3 _ _ f4, od _ e5, fun H4 s4 => fin _ _ (s3.trans s4) (s4 _ _ e3) rfl⟩
      · intro H3 zs s3 e3 l3 p3
        refine ⟨D, List.replicate zs.length true, rfl, SqL.of (by rw [← all_true p3]; exact e3), ?_⟩
        have : (List.replicate zs.length true).all id = true := by simp
        rw [this]
        exact q H3 s3
    · refine ⟨_, rfl, rfl, _, rfl, ite2 (fun _ => ?_) (fun e => absurd (decide_eq_true rfl) e)⟩
      refine ⟨_, rfl, rfl, ?_⟩
      have e : decide (V.non = V.non) = true := decide_eq_true rfl
      rw [e]
      exact q H (Same.refl H)
    · refine ⟨_, rfl, rfl, _, rfl, ite2 (fun e => nomatch (of_decide_eq_true e)) (fun _ => ?_)⟩
      refine ⟨_, rfl, _, _, _, _, _, rfl, .ty _, tyx_bl c, kit_ty (r := true) (by decide +kernel), _, rfl, iteT ?_⟩
      refine ⟨_, rfl, _, _, _, _, _, rfl, .ty _, tyx_bl c, kit_ty (r := true) (by decide +kernel), _, rfl, iteT ?_⟩
      refine ⟨_, rfl, _, rfl, rfl, ?_⟩
      have e : decide (V.bl c = V.bl c) = true := decide_eq_true rfl
      rw [e]
      exact q H (Same.refl H)
    · refine ⟨_, rfl, rfl, _, rfl, ite2 (fun e => nomatch (of_decide_eq_true e)) (fun _ => ?_)⟩
      refine ⟨_, rfl, _, _, _, _, _, rfl, .ty _, tyx_int i, kit_ty (r := false) (by decide +kernel), _, rfl, iteF ?_⟩
      refine ⟨_, rfl, _, _, _, _, _, rfl, .ty _, tyx_int i, kit_ty (r := true) (by decide +kernel), _, rfl, iteT ?_⟩
      refine ⟨_, rfl, _, _, _, _, _, rfl, .ty _, tyx_int i, kit_ty (r := true) (by decide +kernel), _, rfl, iteT ?_⟩
      refine ⟨_, rfl, _, _, _, _, _, rfl, .ty _, tyx_int i, kit_ty (r := false) (by decide +kernel), _, rfl, _, rfl, iteT ?_⟩
      refine ⟨_, rfl, _, rfl, rfl, ?_⟩
      have e : decide (V.int i = V.int i) = true := decide_eq_true rfl
      rw [e]
      exact q H (Same.refl H)
    · refine ⟨_, rfl, rfl, _, rfl, ite2 (fun e => nomatch (of_decide_eq_true e)) (fun _ => ?_)⟩
      refine ⟨_, rfl, _, _, _, _, _, rfl, .ty _, tyx_str x, kit_ty (r := false) (by decide +kernel), _, rfl, iteF ?_⟩
      refine ⟨_, rfl, _, _, _, _, _, rfl, .ty _, tyx_str x, kit_ty (r := false) (by decide +kernel), _, rfl, iteF ?_⟩
      refine ⟨_, rfl, _, _, _, _, _, rfl, .ty _, tyx_str x, kit_ty (r := true) (by decide +kernel), _, rfl, iteT ?_⟩
      refine ⟨_, rfl, _, _, _, _, _, rfl, .ty _, tyx_str x, kit_ty (r := true) (by decide +kernel), _, rfl, iteT ?_⟩
      refine ⟨_, rfl, _, rfl, rfl, ?_⟩
      have e : decide (V.str x = V.str x) = true := decide_eq_true rfl
      rw [e]
      exact q H (Same.refl H)
end
end KT
namespace KT
open PySem PySem.Spec PyProof.Rows L2
section
variable {P : Program} {w : World} {K : PySem.W.Frag} {mg : Str → Option Value} {base : Heap}
theorem ok_check_times (S : Src K mg "check_times" scheck_times) (m_len : mg "len" = none) (m_enumerate : mg "enumerate" = none) (c_MOST_TIMES : ∃ t, mg "MOST_TIMES" = some (.int 25 t)) (c_SHORTEST : ∃ t, mg "SHORTEST" = some (.int 1 t)) (c_LONGEST : ∃ t, mg "LONGEST" = some (.int 9999 t)) :
    KDef P w K mg base CX0 1 "check_times" ["times"] (spCheckT K) := by
  refine S.ok sccheck_times (fun _ _ _ _ _ _ us hl => match us, hl with | [_], _ => rfl) (fun vs H Q E h => ?_) (fun f cdv A outer s H vs Q E hr h => ?_)
  · obtain ⟨a, ts, rfl, _⟩ := h
    rfl
  · obtain ⟨a, ts, rfl, hS, T, q⟩ := h
    refine ⟨_, (pss_cons (ps_set (i := 1) sccheck_times.nd rfl (.inl rfl) (pe_callB (call_len_seqK (K := K) rfl) (by rfl) m_len (by decide +kernel) (pa_cons (pv 0) pa_nil)))
      (pss_cons (ps_if (PW.pt (pw_or (pt_cmpR op_gt (pv 1) (pe_gI rfl c_MOST_TIMES) (nomark _)) (pw_or1 (pt_cmpR op_eq (pe_op op_mod (pv 1) pe_int) pe_int (nomark _)))))
      (pss_one ps_never)
      pss_nil)
      (pss_one (ps_for PassesOwn.never rfl (pi_enumK (K := K) rfl (by rfl) m_enumerate (pa_cons (pv 0) pa_nil)) (pg_tup rfl (pgs_cons (pg_name (i := 2) sccheck_times.nd rfl (.inl rfl)) (pgs_cons (pg_name (i := 3) sccheck_times.nd rfl (.inl rfl)) pgs_nil)))
      (pss_one (ps_if (pt_not (pt_chain op_le op_le (pe_gI rfl c_SHORTEST) (pv 3) (pe_gI rfl c_LONGEST)))
      (pss_one ps_never)
      pss_nil)))))), ?_⟩
    have le := T.le
    have odd := T.odd
    refine ⟨_, rfl, a, _, rfl, .inl hS, ?_⟩
    refine ⟨_, rfl, _, _, rfl, rfl, _, rfl, ite2 (fun e => ?_) (fun _ => ?_)⟩
    · have h1 := of_decide_eq_true e
      rw [List.length_map] at h1
      omega
    refine ⟨_, rfl, _, _, rfl, rfl, by show (0 : Int) < 2; decide, rfl, _, rfl, ite2 (fun e => ?_) (fun _ => ?_)⟩
    · have h1 := V.int.inj (of_decide_eq_true e)
      rw [List.length_map] at h1
      omega
    refine ⟨_, rfl, a, _, rfl, hS, for_it walk_enum (fun i σ H1 => ∃ y z : Option V, σ = [some (.ref a), some (.int ((ts.map V.int).length : Int)), y, z] ∧ Same H H1) ⟨none, none, rfl, Same.refl H⟩ (fun i σ H1 _ ⟨_, _, _, s1⟩ => s1.seq hS) ?_ ?_⟩
    · rintro i x σ H1 H1' hi ⟨y, z, rfl, s1⟩ ⟨Tp, x1, x2, rfl, nT, rfl, f1, f2⟩
      cases f1
      obtain ⟨t, rfl, et⟩ := int_at f2
      have b := T.all i t et
      refine ⟨_, _, rfl, .inl (.inl upd_same), rfl, _, _, rfl, _, _, rfl, rfl, ?_⟩
      refine ⟨_, rfl, _, _, rfl, rfl, _, rfl, ?_⟩
      rw [decide_eq_true b.1]
      refine iteT ⟨_, _, rfl, rfl, _, rfl, ?_⟩
      rw [decide_eq_true b.2]
      exact iteF ⟨_, _, rfl, s1.trans (sm nT)⟩
    · rintro σ H1 ⟨y, z, rfl, s1⟩
      exact q H1 s1
end
end KT
namespace KT
open PySem PySem.Spec PyProof.Rows L2
section
variable {P : Program} {w : World} {K : PySem.W.Frag} {mg : Str → Option Value} {base : Heap}
theorem ok_Taps_init {f C : Addr} {fd : FuncData} (F : FunD K "__init__" "Taps.__init__" (defArgs sTaps___init__) (defBody sTaps___init__) (defScope sTaps___init__) [] [] f fd) (cl : Cls K C) (nT : NoAttr K C "_times") (m_list : mg "list" = none)
    (Gcheck_times : KDef P w K mg base CX0 1 "check_times" ["times"] (spCheckT K)) : FnOk P w K mg base CX0 2 f fd ["self", "times"] (spTapsInit K C) := by
  refine F.ok scTaps___init__ (fun vs H Q E h => ?_) (fun cdv A outer s H vs Q E hr h => ?_)
  · obtain ⟨x, a, dx, ts, rfl, _⟩ := h
    rfl
  · obtain ⟨x, a, dx, ts, rfl, hx, hS, T, q⟩ := h
    refine ⟨_, PSs.nox (pss_cons (ps_expr (pe_callD Gcheck_times (hr.mono (by decide)) (by rfl) (pa_cons (pv 1) pa_nil)))
      (pss_one (ps_fldK (K := K) rfl (pv 0) (pe_callTy (call_list_ofK (K := K) rfl) (by rfl) m_list (by decide +kernel) (pa_cons (pv 1) pa_nil)) rfl))), ?_⟩
    refine ⟨_, rfl, a, ts, rfl, hS, T, fun H1 s1 => ?_⟩
    refine ⟨_, rfl, a, _, rfl, .inl (s1.seq hS), fun l nl => ?_⟩
    have nxl : x ≠ l := ne_of_none (s1 _ _ hx) nl
    refine ⟨_, rfl, x, C, dx, [], rfl, by rw [upd_ne nxl]; exact s1 _ _ hx, cl, nT, by show 0 < 1000; decide, ?_⟩
    refine q l _ (s1.free nl) (fun b o nb e => ?_) ⟨⟨dx, upd_same⟩, ?_⟩
    · rw [upd_ne nb, upd_ne (ne_of_none (s1 _ _ e) nl)]
      exact s1 _ _ e
    · rw [upd_ne nxl.symm, upd_same]
end
end KT
namespace KT
open PySem PySem.Spec PyProof.Rows L2
section
variable {P : Program} {w : World} {K : PySem.W.Frag} {mg : Str → Option Value} {base : Heap}
theorem ok_Taps_times {f C : Addr} {fd : FuncData} (F : FunD K "times" "Taps.times" (defArgs sTaps_times) (defBody sTaps_times) (defScope sTaps_times) [] [] f fd) (cl : Cls K C) (nT : NoAttr K C "_times") (m_list : mg "list" = none) :
    FnOk P w K mg base CX0 1 f fd ["self"] (spTapsTimes C) := by
  refine F.ok scTaps_times (fun vs H Q E h => ?_) (fun cdv A outer s H vs Q E hr h => ?_)
  · obtain ⟨x, l, ts, rfl, _⟩ := h
    rfl
  · obtain ⟨x, l, ts, rfl, ⟨⟨dx, e1⟩, e2⟩, le, q⟩ := h
    refine ⟨_, PSs.nox (pss_one (ps_ret (pe_callTy (call_list_ofK (K := K) rfl) (by rfl) m_list (by decide +kernel) (pa_cons (pe_fldK (K := K) rfl (pv 0) rfl) pa_nil)))), ?_⟩
    refine ⟨_, rfl, x, C, dx, _, _, rfl, e1, cl, nT, by unfold tapsF; rw [lookup_putF, if_pos rfl], l, _, rfl, .inl (SqL.of e2), fun p np => ?_⟩
    exact q p _ np (sm np) upd_same
end
end KT
namespace KT
open PySem PySem.Spec PyProof.Rows L2
section
variable {P : Program} {w : World} {K : PySem.W.Frag} {mg : Str → Option Value} {base : Heap}
theorem ok_check_reading (S : Src K mg "check_reading" scheck_reading) (m_len : mg "len" = none) (m_enumerate : mg "enumerate" = none) {n0 n1 n2 : Addr} (c_NUMBERS : mg "NUMBERS" = some (.ref n0)) (N0 : ∀ H, SqT K H n0 [.ref n1, .ref n2])
    (N1 : ∀ H, SqT K H n1 [.int 1, .int 3]) (N2 : ∀ H, SqT K H n2 [.int 1, .int 3, .int 7]) : KDef P w K mg base CX0 1 "check_reading" ["times", "reading"] (spCheckR K) := by
  refine S.ok sccheck_reading (fun _ _ _ _ _ _ us hl => match us, hl with | [_, _], _ => rfl) (fun vs H Q E h => ?_) (fun f cdv A outer s H vs Q E hr h => ?_)
  · obtain ⟨a, b, ts, ks, rfl, _⟩ := h
    rfl
  · obtain ⟨a, b, ts, ks, rfl, hT, hK, R, el, le, q⟩ := h
    refine ⟨_, (pss_cons (ps_if (pt_cmpR op_ne (pe_callB (call_len_seqK (K := K) rfl) (by rfl) m_len (by decide +kernel) (pa_cons (pv 1) pa_nil)) (pe_callB (call_len_seqK (K := K) rfl) (by rfl) m_len (by decide +kernel) (pa_cons (pv 0) pa_nil)) (nomark _))
      (pss_one ps_never)
      pss_nil)
      (pss_one (ps_for PassesOwn.never rfl (pi_enumK (K := K) rfl (by rfl) m_enumerate (pa_cons (pv 1) pa_nil)) (pg_tup rfl (pgs_cons (pg_name (i := 2) sccheck_reading.nd rfl (.inl rfl)) (pgs_cons (pg_name (i := 3) sccheck_reading.nd rfl (.inl rfl)) pgs_nil)))
      (pss_one (ps_if (pt_cmpR (op_notIn_seqK (K := K) rfl) (pv 3) (pe_ix (ix_tupK (K := K) rfl) (pe_gR rfl c_NUMBERS) (pe_op op_mod (pv 2) pe_int) (fun _ _ => rfl)) (by rfl))
      (pss_one ps_never)
      pss_nil))))), ?_⟩
    refine ⟨_, rfl, b, _, rfl, .inl hK, _, rfl, a, _, rfl, .inl hT, rfl, _, rfl, iteNS (by rw [List.length_map, List.length_map, el]) ?_⟩
    refine ⟨_, rfl, b, _, rfl, hK, for_it walk_enum (fun i σ H1 => ∃ y z : Option V, σ = [some (.ref a), some (.ref b), y, z] ∧ Same H H1) ⟨none, none, rfl, Same.refl H⟩ (fun i σ H1 _ ⟨_, _, _, s1⟩ => s1.seq hK) ?_ ?_⟩
    · rintro i x σ H1 H1' hi ⟨y, z, rfl, s1⟩ ⟨Tp, x1, x2, rfl, nT, rfl, f1, f2⟩
      cases f1
      obtain ⟨k, rfl, ek⟩ := int_at f2
      have hk := R i k ek
      rw [Int.zero_add] at hk
      refine ⟨_, _, rfl, .inl (.inl upd_same), rfl, _, _, rfl, _, _, rfl, rfl, ?_⟩
      refine ⟨_, rfl, _, rfl, _, _, rfl, rfl, by show (0 : Int) < 2; decide, ?_⟩
      rcases par (i : Int) with e | e
      · rw [kinds_even e] at hk
        refine ⟨_, _, _, .ref n1, rfl, rfl, N0 _, by rw [e]; exact aI (by decide) rfl, n1, _, rfl, .inr (N1 _), rfl, by decide, _, rfl, ?_⟩
        rcases List.mem_cons.mp hk with rfl | hk
        · exact iteF ⟨_, _, rfl, s1.trans (sm nT)⟩
        · rw [List.mem_singleton.mp hk]
          exact iteF ⟨_, _, rfl, s1.trans (sm nT)⟩
      · rw [kinds_odd e] at hk
        refine ⟨_, _, _, .ref n2, rfl, rfl, N0 _, by rw [e]; exact aI (by decide) rfl, n2, _, rfl, .inr (N2 _), rfl, by decide, _, rfl, ?_⟩
        rcases List.mem_cons.mp hk with rfl | hk
        · exact iteF ⟨_, _, rfl, s1.trans (sm nT)⟩
        · rcases List.mem_cons.mp hk with rfl | hk
          · exact iteF ⟨_, _, rfl, s1.trans (sm nT)⟩
          · rw [List.mem_singleton.mp hk]
            exact iteF ⟨_, _, rfl, s1.trans (sm nT)⟩
    · rintro σ H1 ⟨y, z, rfl, s1⟩
      exact q H1 s1
end
end KT
namespace KT
open PySem PySem.Spec PyProof.Rows L2
section
variable {P : Program} {w : World} {K : PySem.W.Frag} {mg : Str → Option Value} {base : Heap}
theorem ok_lowest (S : Src K mg "lowest" slowest) (m_gcd : mg "gcd" = some (.builtin "math.gcd")) : KDef P w K mg base CX0 1 "lowest" ["ratio"] (spLowest K) := by
  refine S.ok sclowest (fun _ _ _ _ _ _ us hl => match us, hl with | [_], _ => rfl) (fun vs H Q E h => ?_) (fun f cdv A outer s H vs Q E hr h => ?_)
  · obtain ⟨p, f, rfl, _⟩ := h
    rfl
  · obtain ⟨p, f, rfl, hp, b0, b1, q⟩ := h
    refine ⟨_, (pss_cons (ps_asg (pv 0) (pg_tup rfl (pgs_cons (pg_name (i := 1) sclowest.nd rfl (.inl rfl)) (pgs_cons (pg_name (i := 2) sclowest.nd rfl (.inl rfl)) pgs_nil))))
      (pss_cons (ps_set (i := 3) sclowest.nd rfl (.inl rfl) (pe_callBfun cr_gcd (by rfl) m_gcd (pa_cons (pv 1) (pa_cons (pv 2) pa_nil))))
      (pss_one (ps_ret (pe_tup (pa_cons (pe_op op_fdiv (pv 1) (pv 3)) (pa_cons (pe_op op_fdiv (pv 2) (pv 3)) pa_nil))))))), ?_⟩
    have g0 := gI_pos (t := f.1) b0
    have g1 := gI_le (t := f.1) b0
    refine ⟨_, rfl, p, _, rfl, hp, rfl, _, _, rfl, _, _, rfl, rfl, ?_⟩
    refine ⟨_, rfl, _, rfl, f.1, f.2, rfl, ?_⟩
    refine ⟨_, rfl, _, rfl, _, _, rfl, rfl, ⟨g0, by show gI f.1 f.2 < _; omega⟩, _, rfl, _, rfl, _, _, rfl, rfl, ⟨g0, by show gI f.1 f.2 < _; omega⟩, lz (by show 2 ≤ 1000000; decide), fun r nr => ?_⟩
    exact q r _ nr (sm nr) upd_same
end
end KT
namespace KT
open PySem PySem.Spec PyProof.Rows L2
section
variable {P : Program} {w : World} {K : PySem.W.Frag} {mg : Str → Option Value} {base : Heap}
theorem ok_is_above (S : Src K mg "is_above" sis_above) : KDef P w K mg base CX0 1 "is_above" ["one", "other"] (spAbove K) := by
  refine S.ok scis_above (fun _ _ _ _ _ _ us hl => match us, hl with | [_, _], _ => rfl) (fun vs H Q E h => ?_) (fun f cdv A outer s H vs Q E hr h => ?_)
  · obtain ⟨p, r, f1, g1, rfl, _⟩ := h
    rfl
  · obtain ⟨p, r, f1, g1, rfl, hp, hq, b1, b2, q⟩ := h
    refine ⟨_, (pss_one (ps_ret (pe_cmpR op_gt (pe_op op_mul (pe_ix (ix_tupK (K := K) rfl) (pv 0) pe_int (fun _ _ => rfl)) (pe_ix (ix_tupK (K := K) rfl) (pv 1) pe_int (fun _ _ => rfl))) (pe_op op_mul (pe_ix (ix_tupK (K := K) rfl) (pv 1) pe_int (fun _ _ => rfl)) (pe_ix (ix_tupK (K := K) rfl) (pv 0) pe_int (fun _ _ => rfl))) (nomark _)))), ?_⟩
    refine ⟨_, rfl, _, _, _, _, rfl, rfl, hp, aI (by decide) rfl, _, rfl, _, _, _, _, rfl, rfl, hq, aI (by decide) rfl, _, _, rfl, rfl, .inl b1, ?_⟩
    refine ⟨_, rfl, _, _, _, _, rfl, rfl, hq, aI (by decide) rfl, _, rfl, _, _, _, _, rfl, rfl, hp, aI (by decide) rfl, _, _, rfl, rfl, .inl b2, _, _, rfl, rfl, q⟩
end
end KT
namespace KT
open PySem PySem.Spec PyProof.Rows L2
section
variable {P : Program} {w : World} {K : PySem.W.Frag} {mg : Str → Option Value} {base : Heap}
theorem ok_asked (S : Src K mg "asked" sasked) : KDef P w K mg base CX0 1 "asked" ["one", "other"] (spAsked K) := by
  refine S.ok scasked (fun _ _ _ _ _ _ us hl => match us, hl with | [_, _], _ => rfl) (fun vs H Q E h => ?_) (fun f cdv A outer s H vs Q E hr h => ?_)
  · obtain ⟨p, r, t, k, t', k', rfl, _⟩ := h
    rfl
  · obtain ⟨p, r, t, k, t', k', rfl, hp, hr2, b1, b2, q⟩ := h
    refine ⟨_, (pss_cons (ps_asg (pv 0) (pg_tup rfl (pgs_cons (pg_name (i := 2) scasked.nd rfl (.inl rfl)) (pgs_cons (pg_name (i := 3) scasked.nd rfl (.inl rfl)) pgs_nil))))
      (pss_cons (ps_asg (pv 1) (pg_tup rfl (pgs_cons (pg_name (i := 4) scasked.nd rfl (.inl rfl)) (pgs_cons (pg_name (i := 5) scasked.nd rfl (.inl rfl)) pgs_nil))))
      (pss_one (ps_ret (pe_tup (pa_cons (pe_op op_sub (pe_op op_mul (pv 2) (pv 5)) (pe_op op_mul (pv 4) (pv 3))) (pa_cons (pe_op op_add (pv 2) (pv 4)) pa_nil))))))), ?_⟩
    refine ⟨_, rfl, p, _, rfl, hp, rfl, _, _, rfl, _, _, rfl, rfl, _, rfl, r, _, rfl, hr2, rfl, _, _, rfl, _, _, rfl, rfl, ?_⟩
    refine ⟨_, rfl, _, rfl, _, _, rfl, rfl, .inl b1, _, rfl, _, rfl, _, _, rfl, rfl, .inl b2, _, _, rfl, rfl, _, rfl, _, rfl, _, _, rfl, rfl, lz (by show 2 ≤ 1000000; decide), fun l nl => ?_⟩
    exact q l _ nl (sm nl) upd_same
end
end KT
namespace KT
open PySem PySem.Spec PyProof.Rows L2
section
variable {P : Program} {w : World} {K : PySem.W.Frag} {mg : Str → Option Value} {base : Heap}
theorem ok_asked_by_pairs (S : Src K mg "asked_by_pairs" sasked_by_pairs) (m_list : mg "list" = none) (m_zip : mg "zip" = none) (m_enumerate : mg "enumerate" = none) (Gasked : KDef P w K mg base CX0 1 "asked" ["one", "other"] (spAsked K)) :
    KDef P w K mg base CX0 2 "asked_by_pairs" ["times", "reading"] (spPairs K) := by
  refine S.ok scasked_by_pairs (fun _ _ _ _ _ _ us hl => match us, hl with | [_, _], _ => rfl) (fun vs H Q E h => ?_) (fun f cdv A outer s H vs Q E hr h => ?_)
  · obtain ⟨a, b, ts, ks, rfl, _⟩ := h
    rfl
  · obtain ⟨a, b, ts, ks, rfl, T, q⟩ := h
    refine ⟨_, (pss_cons (ps_set (i := 2) scasked_by_pairs.nd rfl (.inr rfl) (pe_listZip (K := K) rfl rfl (by rfl) m_list (by rfl) m_zip (pa_cons (pv 0) (pa_cons (pv 1) pa_nil))))
      (pss_one (ps_ret (pe_lc2 (own := [("at", 3), ("one", 4), ("behind", 5), ("other", 6)]) (vs1 := [5, 6]) (g := gTup K 2 (gCons (gName 3) (gCons (gName 4) gNil))) (g1 := gTup K 2 (gCons (gName 5) (gCons (gName 6) gNil))) (tt := tYes) (tt1 := tYes) rfl scasked_by_pairs.nd (pi_enumK (K := K) rfl (by rfl) m_enumerate (pa_cons (pv 2) pa_nil)) (blkOk_by (own := [("at", 3), ("one", 4), ("behind", 5), ("other", 6)]) (N := ["times", "reading", "read", "at", "one", "behind", "other"]) (sc := defScope sasked_by_pairs) (by decide +kernel)) (by decide) (fun _ _ _ _ _ => (pg_tup rfl (pgs_cons (pg_name (i := 3) scasked_by_pairs.nd rfl (.inl rfl) (.inr rfl)) (pgs_cons (pg_name (i := 4) scasked_by_pairs.nd rfl (.inl rfl) (.inr rfl)) pgs_nil)))) (fun _ _ _ _ _ => pts_nil) (fun _ _ _ _ _ => (pi_enumK (K := K) rfl (by rfl) m_enumerate (pa_cons (pv 2) pa_nil))) (fun _ _ _ _ _ => (pg_tup rfl (pgs_cons (pg_name (i := 5) scasked_by_pairs.nd rfl (.inl rfl) (.inr rfl)) (pgs_cons (pg_name (i := 6) scasked_by_pairs.nd rfl (.inl rfl) (.inr rfl)) pgs_nil)))) (fun _ _ _ _ _ => pts_nil) (fun _ _ _ _ _ => (pe_tup (pa_cons (pe_tup (pa_cons (pv 3) (pa_cons (pv 5) pa_nil))) (pa_cons (pe_callD Gasked (hr.mono (by decide)) (by rfl) (pa_cons (pv 4) (pa_cons (pv 6) pa_nil))) pa_nil)))))))), ?_⟩
    have le := T.ok.le
    refine ⟨_, rfl, _, rfl, a, b, _, _, rfl, T.t, T.k, by rw [List.length_map, List.length_map, T.ok.len], fun p Ts H1 np s1 ep el et => ?_⟩
    rw [List.length_map] at el
    have tl : (Ts.map V.ref).length = ts.length := by rw [List.length_map]; exact el
    -- each time with its number
    have item : ∀ (i : Nat) (v : V), (Ts.map V.ref)[i]? = some v → ∃ T1 : Addr, v = .ref T1 ∧ H1 T1 = some (.tup [.int (at_ ts i), .int (at_ ks i)]) := fun i v e => by
      rw [List.getElem?_map] at e
      cases e2 : Ts[i]? with
      | none =>
        rw [e2] at e
        cases e
      | some T1 =>
        rw [e2] at e
        cases e
        obtain ⟨x, y, g1, g2, g3⟩ := et i T1 e2
        obtain ⟨t, rfl, ht⟩ := int_at g1
        obtain ⟨k, rfl, hk⟩ := int_at g2
        exact ⟨T1, rfl, by rw [at_get ht, at_get hk]; exact g3⟩
    refine ⟨_, rfl, p, _, rfl, SqL.of ep, fun D nD => ?_⟩
    refine lc_outY walk_enum (fun i H2 => ∃ acc, Same H1 H2 ∧ H2 D = some (.lst acc) ∧ PAt ts ks H2 acc (pre ts.length i 0)) ⟨[], sm nD, upd_same, rfl, fun i u e => by simp [pre] at e⟩ (fun i H2 _ ⟨_, s2, _⟩ => s2.seq (SqL.of ep)) ?_ ?_
    · rintro i x H2 H2' hi ⟨acc, s2, eD, pa⟩ ⟨Tp, x1, x2, rfl, nTp, rfl, f1, f2⟩
      cases f1
      have hi' : i < ts.length := by omega
      obtain ⟨T1, rfl, g1⟩ := item i x2 f2
      have nDT : D ≠ Tp := ne_of_none eD nTp
      refine ⟨Tp, _, rfl, .inl (.inl upd_same), rfl, _, _, rfl, _, _, rfl, rfl, rfl, ?_⟩
      refine ⟨_, rfl, p, _, rfl, (s2.trans (sm nTp)).seq (SqL.of ep), ?_⟩
      refine lc_inY walk_enum (fun j H3 => ∃ acc, Same H1 H3 ∧ H3 D = some (.lst acc) ∧ PAt ts ks H3 acc (pre ts.length i j)) ⟨acc, s2.trans (sm nTp), by rw [upd_ne nDT]; exact eD, pa.same fun b xs e => sm nTp _ _ e⟩ (fun j H3 _ ⟨_, s3, _⟩ => s3.seq (SqL.of ep)) ?_ ?_
      · clear pa eD s2 acc
        rintro j y H3 H3' hj ⟨acc, s3, eD, pa⟩ ⟨Tq, y1, y2, rfl, nTq, rfl, k1, k2⟩
        cases k1
        have hj' : j < ts.length := by omega
        obtain ⟨T2, rfl, g2⟩ := item j y2 k2
        refine ⟨Tq, _, rfl, .inl (.inl upd_same), rfl, _, _, rfl, _, _, rfl, rfl, rfl, ?_⟩
        refine ⟨_, rfl, _, rfl, lz (by show 2 ≤ 1000000; decide), fun qa nqa => ?_⟩
        have s4 : Same H3 (upd (upd H3 Tq (.tup [V.int (j : Nat), .ref T2])) qa (.tup [V.int (i : Nat), V.int (j : Nat)])) := (sm nTq).trans (sm nqa)
        have bt := T.ok.ti hi'
        have bt2 := T.ok.ti hj'
        refine ⟨_, rfl, _, rfl, T1, T2, _, _, _, _, rfl, SqT.of (s4 _ _ (s3 _ _ g1)), SqT.of (s4 _ _ (s3 _ _ g2)), ⟨by omega, by omega⟩, ⟨by omega, by omega⟩, fun ra H5 nra s5 era => ?_⟩
        refine ⟨lz (by show 2 ≤ 1000000; decide), fun tp ntp => ?_⟩
        have s6 := (s4.trans s5).trans (sm (o := .tup [.ref qa, .ref ra]) ntp)
        have lacc : acc.length ≤ 1000 := by
          rw [pa.1]
          exact pre_length_le (by omega) (by omega) le
        have ntd : ∀ {b : Addr} {o : HO}, H1 b = some o → b ≠ D := fun e => ne_of_none e nD
        refine ⟨acc, s6 _ _ eD, lz' (by omega), acc ++ [.ref tp], fun b o e => ?_, upd_same, ?_⟩
        · rw [upd_ne (ntd e)]
          exact s6 _ _ (s3 _ _ e)
        · rw [pre_succ]
          have keep : ∀ (b : Addr) (xs : List V), H3 b = some (.tup xs) → (upd (upd H5 tp (.tup [.ref qa, .ref ra])) D (.lst (acc ++ [.ref tp]))) b = some (.tup xs) := fun b xs e => by
            have nb : b ≠ D := fun z => by
              rw [z, eD] at e
              cases e
            rw [upd_ne nb]
            exact s6 _ _ e
          have n1 : tp ≠ D := fun z => by
            have z2 := (s4.trans s5) _ _ eD
            rw [← z, ntp] at z2
            cases z2
          have tupD : ∀ {b : Addr} {xs : List V} {H0 : Hp}, H0 b = some (.tup xs) → H0 D = some (.lst acc) → b ≠ D := fun e e2 z => by
            rw [z, e2] at e
            cases e
          refine (pa.same keep).snoc (p := (i, j)) (T := tp) (q := qa) (r := ra) (by rw [upd_ne n1, upd_same]) ?_ ?_
          · have eq5 := s5 _ _ (upd_same (H := upd H3 Tq (.tup [V.int (j : Nat), .ref T2])) (a := qa) (o := .tup [V.int (i : Nat), V.int (j : Nat)]))
            rw [upd_ne (tupD eq5 ((s4.trans s5) _ _ eD))]
            exact sm ntp _ _ eq5
          · rw [upd_ne (tupD era ((s4.trans s5) _ _ eD))]
            exact sm ntp _ _ era
      · rintro H3 ⟨acc, s3, eD, pa⟩
        rw [tl] at pa
        exact ⟨acc, s3, eD, by rw [pre_row]; exact pa⟩
    · rintro H2 ⟨acc, s2, eD, pa⟩
      rw [tl, pre_all] at pa
      exact q D acc H2 (s1.free nD) (s1.trans s2) eD pa
end
end KT
namespace KT
open PySem PySem.Spec PyProof.Rows L2
section
variable {P : Program} {w : World} {K : PySem.W.Frag} {mg : Str → Option Value} {base : Heap}
theorem ok_least_asked (S : Src K mg "least_asked" sleast_asked) (Gasked_by_pairs : KDef P w K mg base CX0 2 "asked_by_pairs" ["times", "reading"] (spPairs K)) (Gis_above : KDef P w K mg base CX0 1 "is_above" ["one", "other"] (spAbove K)) (Glowest : KDef P w K mg base CX0 1 "lowest" ["ratio"] (spLowest K)) :
    KDef P w K mg base CX0 3 "least_asked" ["times", "reading"] (spWidthL K) := by
  refine S.ok scleast_asked (fun _ _ _ _ _ _ us hl => match us, hl with | [_, _], _ => rfl) (fun vs H Q E h => ?_) (fun f cdv A outer s H vs Q E hr h => ?_)
  · obtain ⟨a, b, ts, ks, rfl, _⟩ := h
    rfl
  · obtain ⟨p, b, ts, ks, rfl, TR0, pos, q⟩ := h
    refine ⟨_, (pss_cons (ps_asg (pe_tup (pa_cons (pe_tup (pa_cons pe_int (pa_cons pe_int pa_nil))) (pa_cons (pe_tup (pa_cons pe_int (pa_cons pe_int pa_nil))) pa_nil))) (pg_tup rfl (pgs_cons (pg_name (i := 2) scleast_asked.nd rfl (.inl rfl)) (pgs_cons (pg_name (i := 3) scleast_asked.nd rfl (.inl rfl)) pgs_nil))))
      (pss_cons (ps_for PassesOwn.never rfl (pi_listK (K := K) rfl (pe_callD Gasked_by_pairs (hr.mono (by decide)) (by rfl) (pa_cons (pv 0) (pa_cons (pv 1) pa_nil)))) (pg_tup rfl (pgs_cons (pg_name (i := 4) scleast_asked.nd rfl (.inl rfl)) (pgs_cons (pg_name (i := 5) scleast_asked.nd rfl (.inl rfl)) pgs_nil)))
      (pss_one (ps_if (pt_val (pe_callD Gis_above (hr.mono (by decide)) (by rfl) (pa_cons (pv 5) (pa_cons (pv 2) pa_nil))))
      (pss_one (ps_par (i := 2) (j := 3) (by rfl) scleast_asked.nd rfl rfl (by decide) rfl rfl (pa_cons (pv 5) (pa_cons (pv 4) pa_nil)) (by rfl)))
      pss_nil)))
      (pss_one (ps_ret (pe_tup (pa_cons (pe_callD Glowest (hr.mono (by decide)) (by rfl) (pa_cons (pv 2) pa_nil)) (pa_cons (pv 3) pa_nil))))))), ?_⟩
    have tr := TR0.ok
    have le := tr.le
    refine ⟨lz (by show 2 ≤ 1000000; decide), fun w0 nw0 => ⟨lz (by show 2 ≤ 1000000; decide), fun a0 na0 => ⟨lz (by show 2 ≤ 1000000; decide), fun t0 nt0 => ⟨t0, _, rfl, SqT.of upd_same, rfl, _, _, rfl, _, _, rfl, rfl, ?_⟩⟩⟩⟩
    have s3 : Same H (upd (upd (upd H w0 (.tup [V.int 0, V.int 1])) a0 (.tup [V.int 0, V.int 0])) t0 (.tup [V.ref w0, V.ref a0])) := ((sm nw0).trans (sm na0)).trans (sm nt0)
    refine ⟨_, rfl, _, rfl, p, b, ts, ks, rfl, TR0.same s3, fun L xs H4 nL s4 eL pa => ?_⟩
    have sAll : Same H H4 := s3.trans s4
    refine ⟨L, rfl, ⟨_, SqL.of eL⟩, for_list (K := K) (a := L) (xs := xs) (fun i σ H5 => ∃ (wp ap : Addr) (y5 y6 : Option V), σ = [some (.ref p), some (.ref b), some (.ref wp), some (.ref ap), y5, y6] ∧ Same H4 H5 ∧
      H5 wp = some (.tup (frV (((pairs ts.length).take i).foldl (stepB ts ks) ((0, 1), (0, 0))).1)) ∧ H5 ap = some (.tup (prV (((pairs ts.length).take i).foldl (stepB ts ks) ((0, 1), (0, 0))).2))) ?_ (fun i σ H5 _ ⟨_, _, _, _, _, s5, _⟩ => s5.seq (SqL.of eL)) ?_ ?_⟩
    · refine ⟨w0, a0, none, none, rfl, Same.refl _, s4 _ _ (sm nt0 _ _ (sm na0 _ _ upd_same)), s4 _ _ (sm nt0 _ _ upd_same)⟩
    · rintro i y σ H5 hi ⟨wp, ap, y5, y6, rfl, s5, ew, ea⟩
      have hil : i < (pairs ts.length).length := by
        rw [← pa.1]
        exact (List.getElem?_eq_some_iff.mp hi).1
      have ep2 : (pairs ts.length)[i]? = some ((pairs ts.length)[i]) := List.getElem?_eq_getElem hil
      obtain ⟨T, q1, r1, g1, g2, g3, g4⟩ := pa.2 i _ ep2
      rw [hi] at g1
      cases g1
      have hm := mem_pairs.mp (List.getElem_mem hil)
      have ok : BestOk ts ks (((pairs ts.length).take i).foldl (stepB ts ks) ((0, 1), (0, 0))) := BestOk.fold tr _ _ (fun p hp => mem_pairs.mp (List.mem_of_mem_take hp)) (BestOk.start pos)
      have st : ((pairs ts.length).take (i + 1)).foldl (stepB ts ks) ((0, 1), (0, 0)) = stepB ts ks (((pairs ts.length).take i).foldl (stepB ts ks) ((0, 1), (0, 0))) ((pairs ts.length)[i]) := by
        rw [List.take_add_one, ep2, List.foldl_append]
        rfl
      rw [st]
      have bb := tr.bot hm.1 hm.2
      have bt := tr.top hm.1 hm.2
      have o1 := ok.t0
      have o2 := ok.t1
      refine ⟨T, _, rfl, SqT.of (s5 _ _ g2), rfl, _, _, rfl, _, _, rfl, rfl, ?_⟩
      refine ⟨_, rfl, _, rfl, r1, wp, _, _, rfl, SqT.of (s5 _ _ g4), SqT.of ew, ⟨by show _ < askT _ _ _ _; omega, by show askT _ _ _ _ < _; omega⟩, ⟨by omega, by omega⟩, _, rfl, ite2 (fun e => ?_) (fun e => ?_)⟩
      · have lt := of_decide_eq_true e
        refine ⟨_, rfl, _, rfl, _, _, rfl, r1, q1, _, _, rfl, s5, ?_, ?_⟩
        · rw [stepB_pos lt]
          exact s5 _ _ g4
        · rw [stepB_pos lt]
          exact s5 _ _ g3
      · have nlt := fun z => e (decide_eq_true z)
        refine ⟨wp, ap, _, _, rfl, s5, ?_, ?_⟩
        · rw [stepB_neg nlt]
          exact ew
        · rw [stepB_neg nlt]
          exact ea
    · rintro σ H5 ⟨wp, ap, y5, y6, rfl, s5, ew, ea⟩
      rw [pa.1, List.take_length] at ew ea
      have ok := best_ok tr pos
      refine ⟨_, rfl, wp, _, rfl, SqT.of ew, ok.pos, by have := ok.b; show (bestOf ts ks).1.2 < _; omega, fun lp H6 nlp s6 elp => ?_⟩
      refine ⟨_, rfl, lz (by show 2 ≤ 1000000; decide), fun tp ntp => ?_⟩
      exact q tp _ (((sAll.trans s5).trans s6).trans (sm ntp)) ⟨lp, ap, upd_same, sm ntp _ _ elp, sm ntp _ _ (s6 _ _ ea)⟩
end
end KT
namespace KT
open PySem PySem.Spec PyProof.Rows L2
section
variable {P : Program} {w : World} {K : PySem.W.Frag} {mg : Str → Option Value} {base : Heap}
theorem ok_least_width (S : Src K mg "least_width" sleast_width) {C : Addr} (GTaps_times : KMeth P w K mg base CX0 C 1 "times" ["self"] (spTapsTimes C)) (Gcheck_reading : KDef P w K mg base CX0 1 "check_reading" ["times", "reading"] (spCheckR K))
    (Gleast_asked : KDef P w K mg base CX0 3 "least_asked" ["times", "reading"] (spWidthL K)) :
    KDef P w K mg base CX0 4 "least_width" ["taps", "reading"] (spLeast K C) := by
  refine S.ok scleast_width (fun _ _ _ _ _ _ us hl => match us, hl with | [_, _], _ => rfl) (fun vs H Q E h => ?_) (fun f cdv A outer s H vs Q E hr h => ?_)
  · obtain ⟨x, l, b, ts, ks, rfl, _⟩ := h
    rfl
  · obtain ⟨x, l, b, ts, ks, rfl, TA, hK, TP, R, el, q⟩ := h
    refine ⟨_, (pss_cons (ps_set (i := 2) scleast_width.nd rfl (.inl rfl) (pe_meth0D (pv 0) GTaps_times (hr.mono (by decide))))
      (pss_cons (ps_expr (pe_callD Gcheck_reading (hr.mono (by decide)) (by rfl) (pa_cons (pv 2) (pa_cons (pv 1) pa_nil))))
      (pss_one (ps_ret (pe_callD Gleast_asked (hr.mono (by decide)) (by rfl) (pa_cons (pv 2) (pa_cons (pv 1) pa_nil))))))), ?_⟩
    have le := TP.le
    have tr := TP.tr R el
    obtain ⟨⟨dx, e1⟩, e2⟩ := id TA
    refine ⟨_, rfl, x, dx, _, rfl, e1, by unfold tapsF; rw [lookup_putF, if_neg (by decide +kernel)]; rfl, x, l, ts, rfl, TA, by omega, fun p H1 np s1 ep => ?_⟩
    refine ⟨_, rfl, _, rfl, p, b, ts, ks, rfl, SqL.of ep, s1.seq hK, R, el, by omega, fun H2 s2 => ?_⟩
    refine ⟨_, rfl, _, rfl, p, b, ts, ks, rfl, ⟨s2.seq (SqL.of ep), (s1.trans s2).seq hK, tr⟩, TP.pos, fun r H3 s3 wa => ?_⟩
    exact q r H3 ((s1.trans s2).trans s3) wa
end
end KT
namespace KT
open PySem PySem.Spec PyProof.Rows L2
section
variable {P : Program} {w : World} {K : PySem.W.Frag} {mg : Str → Option Value} {base : Heap}
def spLaw (K : PySem.W.Frag) : Sp := fun vs H Q _ => ∃ (a : Addr) (ns : List Int), vs = [.ref a] ∧ SqL K H a (ns.map V.int) ∧ ns.length ≤ 63 ∧ ∀ H', Q (.bl true) H'
theorem eqv_ints (ns : List Int) : PyData.eqv (.list (ns.map PyData.int)) (.list (ns.map PyData.int)) = true := by
  simp only [PyData.eqv]
  induction ns with
  | nil => simp [PyData.eqvAll]
  | cons n ns ih => simp [PyData.eqvAll, PyData.eqv, ih]
theorem canLay_ints (ns : List Int) : PyData.canLayAll0 (ns.map PyData.int) = true := by
  induction ns with
  | nil => simp [PyData.canLayAll0]
  | cons n ns ih => simp [PyData.canLayAll0, PyData.canLay0, ih]
theorem depth_ints (ns : List Int) : PyData.depthAll (ns.map PyData.int) ≤ 1 := by
  induction ns with
  | nil => simp [PyData.depthAll]
  | cons n ns ih =>
    simp [PyData.depthAll, PyData.depth]
    omega
theorem shaped_ints (ns : List Int) : SeqAt.shaped (.list (ns.map PyData.int)) = true := by
  have h := depth_ints ns
  simp [SeqAt.shaped, PyData.canLay0, PyData.depth, canLay_ints]
  omega
theorem ok_law {f C : Addr} {fd : FuncData} (F : FunD K "law" "law" (defArgs slaw) (defBody slaw) (defScope slaw) [] [] f fd)
    (G_law_dice : KDef P w K mg base CX0 1 "_law_dice" ["_law_script", "_law_k"] (spDice K)) (G_law_times : KDef P w K mg base CX0 3 "_law_times" ["_law_d", "_law_most"] spTimes)
    (G_law_reading : KDef P w K mg base CX0 2 "_law_reading" ["_law_d", "_law_many"] spReading) (G_law_off : KDef P w K mg base CX0 1 "_law_off" ["_law_d", "_law_most"] spOff)
    (GTaps : KMake P w K mg base CX0 C 2 "Taps" ["self", "times"] (spTapsInit K C)) (Gleast_width : KDef P w K mg base CX0 4 "least_width" ["taps", "reading"] (spLeast K C))
    (G_law_alike : KDef P w K mg base CX0 3 "_law_alike" ["_law_found", "_law_due"] (spAlike K 3)) (G_law_width : KDef P w K mg base CX0 3 "_law_width" ["_law_times_here", "_law_reading_here"] (spWidthL K))
    (m_len : mg "len" = none) (m_sorted : mg "sorted" = none) (m_range : mg "range" = none) (m_int : mg "int" = none) (m_list : mg "list" = none) : FnOk P w K mg base CX0 5 f fd ["_law_script"] (spLaw K) := by
  refine F.ok sclaw (fun vs H Q E h => ?_) (fun cdv A outer s H vs Q E hr h => ?_)
  · obtain ⟨a, ns, rfl, _⟩ := h
    rfl
  · obtain ⟨a, ns, rfl, hS, hl, q⟩ := h
    refine ⟨_, PSs.nox (pss_cons (ps_set (i := 1) sclaw.nd rfl (.inl rfl) (pe_callD G_law_dice (hr.mono (by decide)) (by rfl) (pa_cons (pv 0) (pa_cons pe_int pa_nil))))
      (pss_cons (ps_set (i := 2) sclaw.nd rfl (.inr rfl) (pe_callD G_law_times (hr.mono (by decide)) (by rfl) (pa_cons (pv 1) (pa_cons pe_int pa_nil))))
      (pss_cons (ps_set (i := 3) sclaw.nd rfl (.inl rfl) (pe_callD G_law_reading (hr.mono (by decide)) (by rfl) (pa_cons (pv 1) (pa_cons (pe_callB (call_len_seqK (K := K) rfl) (by rfl) m_len (by decide +kernel) (pa_cons (pv 2) pa_nil)) pa_nil))))
      (C8.pss_cut (ps_if (pt_cmpR op_eq (pe_callD G_law_off (hr.mono (by decide)) (by rfl) (pa_cons (pv 1) (pa_cons pe_int pa_nil))) pe_int (nomark _))
      (pss_cons (ps_set (i := 4) sclaw.nd rfl (.inr rfl) (pe_ix (ix_listK (K := K) rfl) (pe_callB (cr_sortedK (K := K) rfl) (by rfl) m_sorted (by decide +kernel) (pa_cons (pv 2) pa_nil)) (pe_op op_fdiv (pe_callB (call_len_seqK (K := K) rfl) (by rfl) m_len (by decide +kernel) (pa_cons (pv 2) pa_nil)) pe_int) (fun _ _ => rfl)))
      (pss_one (ps_setLc (i := 3) (own := [("_law_at", 7)]) (g := gName 7) (tt := tYes) rfl sclaw.nd rfl rfl (sw_true rfl rfl rfl (by decide +kernel)) (pi_range1 rfl m_range (pa_cons (pe_callB (call_len_seqK (K := K) rfl) (by rfl) m_len (by decide +kernel) (pa_cons (pv 2) pa_nil)) pa_nil)) (blkOk_by (own := [("_law_at", 7)]) (N := ["_law_script", "_law_d", "_law_times_here", "_law_reading_here", "_law_middle", "_law_handed", "_law_found", "_law_at"]) (sc := defScope slaw) (by decide +kernel)) (fun _ _ _ _ _ => (pg_name (i := 7) sclaw.nd rfl (.inl rfl) (.inr rfl))) (fun _ _ _ _ _ => pts_nil) (fun _ _ _ _ _ => (pe_ix (ix_listK (K := K) rfl) (pe_lst (pa_cons pe_int (pa_cons pe_int pa_nil))) (pe_callTy call_int1 (by rfl) m_int (by decide +kernel) (pa_cons (pe_cmpR op_gt (pe_ix (ix_listK (K := K) rfl) (pv 2) (pv 7) (fun _ _ => rfl)) (pv 4) (nomark _)) pa_nil)) (fun _ _ => rfl))))))
      pss_nil)
      (pss_cons (ps_set (i := 5) sclaw.nd rfl (.inl rfl) (pe_callTy (call_list_ofK (K := K) rfl) (by rfl) m_list (by decide +kernel) (pa_cons (pv 3) pa_nil)))
      (pss_cons (ps_set (i := 6) sclaw.nd rfl (.inl rfl) (pe_callD Gleast_width (hr.mono (by decide)) (by rfl) (pa_cons (pe_makeD GTaps (hr.mono (by decide)) (by rfl) (pa_cons (pv 2) pa_nil)) (pa_cons (pv 5) pa_nil))))
      (pss_one (ps_ret (pe_and (pe_callD G_law_alike (hr.mono (by decide)) (by rfl) (pa_cons (pv 6) (pa_cons (pe_callD G_law_width (hr.mono (by decide)) (by rfl) (pa_cons (pv 2) (pa_cons (pv 3) pa_nil))) pa_nil))) (pe_one (pe_cmpR (op_eqDK hr.units (K := K) rfl) (pv 5) (pv 3) (nomark _)))))))))))), ?_⟩
    refine ⟨_, rfl, a, ns, rfl, hS, hl, fun d H1 nd s1 dd => ?_⟩
    refine ⟨_, rfl, d, 25, rfl, dd, by decide, by decide, fun ts pt H2 T tl npt ept d2 k2 => ?_⟩
    have lt := T.le
    have odd := T.odd
    refine ⟨_, rfl, _, rfl, pt, _, rfl, .inl (SqL.of ept), d, _, rfl, d2, by omega, by rw [List.length_map]; omega, fun ks pk H3 el R npk epk d3 k3 => ?_⟩
    rw [List.length_map] at el
    have npt2 : pt ≠ d := dd.ne npt
    have ept3 : H3 pt = some (.lst (ts.map V.int)) := k3 _ _ npt2 ept
    refine ⟨fun σ H6 => ∃ (ks : List Int) (pk : Addr) (y4 : Option V), σ = [some (.ref a), some (.ref d), some (.ref pt), some (.ref pk), y4, none, none, none] ∧ ks.length = ts.length ∧ Rdg 0 ks ∧
      H6 pt = some (.lst (ts.map V.int)) ∧ H6 pk = some (.lst (ks.map V.int)), ?_, ?_⟩
    · refine ⟨_, rfl, d, _, rfl, d3, by decide, by decide, fun r H4 r0 r1 d4 k4 => ?_⟩
      have ept4 : H4 pt = some (.lst (ts.map V.int)) := k4 _ _ npt2 ept3
      refine ⟨rfl, _, rfl, ite2 (fun _ => ?_) (fun _ => ⟨ks, pk, none, rfl, by omega, R, ept4, k4 _ _ (d2.ne npk) epk⟩)⟩
      refine ⟨_, rfl, pt, ts, rfl, SqL.of ept4, by omega, fun ns' p pm pw np => ?_⟩
      have lp := pm.length_eq
      obtain ⟨mid, em⟩ : ∃ mid, ns'[((((ts.map V.int).length : Int)) / 2).toNat]? = some mid := by
        rw [List.length_map]
        exact ⟨_, List.getElem?_eq_getElem (by omega)⟩
      refine ⟨_, rfl, pt, _, rfl, .inl (SqL.of (sm np _ _ ept4)), _, _, rfl, rfl, ⟨by decide, by decide⟩, ?_⟩
      refine ⟨_, _, _, _, rfl, rfl, SqL.of upd_same, aI (by omega) (at_int em), ?_⟩
      refine ⟨_, rfl, pt, _, rfl, .inl (SqL.of (sm np _ _ ept4)), _, rfl, by omega, by rw [List.length_map]; omega, fun D nD => ?_⟩
      have sp := sm (o := .lst (ns'.map V.int)) np
      refine lc_s walk_range (fun i y => ∃ z, y = V.int z ∧ z ∈ kinds (0 + (i : Int))) nD (by rw [List.length_map]; omega) (fun _ _ => trivial) ?_ ?_
      · rintro i x H5 H5' acc k hi s5 e5 l5 ⟨rfl, rfl⟩ fin
        rw [List.length_map] at hi
        have hi2 : i < ts.length := by omega
        refine ⟨rfl, lz (by show 2 ≤ 1000000; decide), fun l nl => ?_⟩
        have s6 := s5.trans (sm (o := .lst [V.int 1, V.int 3]) nl)
        refine ⟨_, rfl, _, rfl, _, _, _, _, rfl, rfl, SqL.of (s6 _ _ (sp _ _ ept4)), aI (by omega) (by rw [Int.zero_add, Int.toNat_natCast]; exact at_int (List.getElem?_eq_getElem hi2)), ?_⟩
        refine ⟨_, rfl, _, _, rfl, rfl, .inr ⟨_, rfl, _, _, _, _, rfl, rfl, SqL.of upd_same, pick2 _ _ _, ?_⟩⟩
        refine fin _ _ s6 ((sm nl) _ _ e5) ?_
        cases decide (mid < ts[i]) with
        | false => exact ⟨1, rfl, kinds_one _⟩
        | true => exact ⟨3, rfl, kinds_three _⟩
      · intro H5 xs s5 e5 l5 p5
        obtain ⟨ks', rfl, l, R'⟩ := ints_of p5
        simp only [List.length_map] at l5 l
        exact ⟨ks', D, _, rfl, by omega, R', s5 _ _ (sp _ _ ept4), e5⟩
    · clear el R npk epk d3 k3 ept3 pk ks
      rintro σ H6 ⟨ks, pk, y4, rfl, el, R, ept6, epk6⟩
      have tr := T.tr R el
      refine ⟨_, rfl, pk, _, rfl, .inl (SqL.of epk6), fun ph nph => ?_⟩
      have s7 := sm (o := .lst (ks.map V.int)) nph
      refine ⟨_, rfl, fun x dx nx ndx ne => ?_⟩
      have s8 : Same _ _ := (sm (o := .own x) ndx).trans (sm (o := .ins C dx []) (by rw [upd_ne ne.symm]; exact nx))
      have sA := s7.trans s8
      refine ⟨x, pt, dx, ts, rfl, upd_same, SqL.of (sA _ _ ept6), T, fun l H8 nl keep tat => ?_⟩
      have nx6 : ∀ {b : Addr} {o : HO}, (upd H6 ph (.lst (ks.map V.int))) b = some o → b ≠ x := fun e => ne_of_none e nx
      have k8 : Same (upd H6 ph (.lst (ks.map V.int))) H8 := fun b o e => keep b o (nx6 e) (s8 _ _ e)
      refine ⟨rfl, _, rfl, x, l, ph, ts, ks, rfl, tat, SqL.of (k8 _ _ upd_same), T, R, el, fun pw H9 s9 wa => ?_⟩
      have s69 := (s7.trans k8).trans s9
      refine ⟨_, rfl, _, rfl, _, rfl, pt, pk, ts, ks, rfl, ⟨SqL.of (s69 _ _ ept6), SqL.of (s69 _ _ epk6), tr⟩, T.pos, fun pl H10 s10 wb => ?_⟩
      refine ⟨.ref pw, .ref pl, _, rfl, (wa.same s10).dp, wb.dp, widthD_ok _, fun H11 s11 => ?_⟩
      refine ⟨_, rfl, iteT ?_⟩
      have sZ := s10.trans s11
      refine ⟨_, rfl, _, rfl, _, _, dp_ints (SqL.of (sZ _ _ (s9 _ _ (k8 _ _ upd_same)))), dp_ints (SqL.of (sZ _ _ (s69 _ _ epk6))), shaped_ints ks, shaped_ints ks, ?_⟩
      rw [eqv_ints]
      exact q H11
end
end KT
namespace KT
open PySem PySem.Spec PyProof.Rows L2
/-! ### the head -/
def fnL : List He.DefD := [dfn "_law_dice" s_law_dice, dfn "_law_off" s_law_off, dfn "_law_kinds" s_law_kinds, dfn "_law_reading" s_law_reading, dfn "_law_times" s_law_times, dfn "_law_low" s_law_low, dfn "_law_less" s_law_less, dfn "_law_asks" s_law_asks, dfn "_law_width" s_law_width, dfn "_law_alike" s_law_alike, dfn "check_times" scheck_times, dfn "check_reading" scheck_reading, dfn "lowest" slowest, dfn "is_above" sis_above, dfn "asked" sasked, dfn "asked_by_pairs" sasked_by_pairs, dfn "least_asked" sleast_asked, dfn "least_width" sleast_width, dfn "law" slaw, dfm "Taps" "__init__" "Taps.__init__" sTaps___init__, dfm "Taps" "times" "Taps.times" sTaps_times]
def faL : List He.Fa := [.glo "_law_dice", .glo "_law_off", .glo "_law_kinds", .glo "_law_reading", .glo "_law_times", .glo "_law_low", .glo "_law_less", .glo "_law_asks", .glo "_law_width", .glo "_law_alike", .glo "check_times", .glo "check_reading", .glo "lowest", .glo "is_above", .glo "asked", .glo "asked_by_pairs", .glo "least_asked", .glo "least_width", .glo "law", .free "abs", .free "all", .free "bool", .free "dict", .free "enumerate", .free "int", .free "isinstance", .free "len", .free "list", .free "max", .free "min", .free "range", .free "sorted", .free "str", .free "tuple", .free "zip", .int "LONGEST" 9999, .int "MOST_TIMES" 25, .int "SHORTEST" 1, .glo "NUMBERS", .glo "Taps", .cls "Taps", .noat "Taps" "_times", .mkr "Taps", .meth "Taps" "times"]
def exL (K : PySem.W.Frag) : Bool := He.eqO (PySem.W.nsIn K mainGlobals "gcd") (some (some (.builtin "math.gcd"))) && (tupAt K (He.ga K "NUMBERS") [.ref (itemAt K (He.ga K "NUMBERS") 0), .ref (itemAt K (He.ga K "NUMBERS") 1)] && (tupAt K (itemAt K (He.ga K "NUMBERS") 0) [.int 1, .int 3] && (tupAt K (itemAt K (He.ga K "NUMBERS") 1) [.int 1, .int 3, .int 7])))
abbrev RL : PySem.W.OpenRow := PySem.W.OpenLaw.row PySem.Challenge.rw_keyedtime_k03_least_widths
abbrev hkL : PySem.W.Hook := He.hookX 6 faL fnL [] [] exL
def obL (s : PySem.W.SharedT) : He.AlX := He.obsX 6 faL fnL [] [] exL (HandSHeadRun.getT s)
theorem obL_eq (s : PySem.W.SharedT) : obL s = hkL.obs s.abs := He.obsX_eq (HandSHeadRun.getT_eq s)
def looseL : List Str := ("gcd" : Str) :: ("TapError" : Str) :: ("BadTaps" : Str) :: ("BadReading" : Str) :: ("NUMBERS" : Str) :: ("check_reading" : Str) :: ("lowest" : Str) :: ("is_above" : Str) :: ("asked" : Str) :: ("asked_by_pairs" : Str) :: ("least_asked" : Str) :: ("least_width" : Str) :: ("MOST_TIMES" : Str) :: ("SHORTEST" : Str) :: ("LONGEST" : Str) :: ("check_times" : Str) :: ("Taps" : Str) :: ("_law_dice" : Str) :: ("_law_off" : Str) :: ("_law_alike" : Str) :: ("_law_low" : Str) :: ("_law_less" : Str) :: ("_law_kinds" : Str) :: ("_law_reading" : Str) :: ("_law_times" : Str) :: ("_law_asks" : Str) :: ("_law_width" : Str) :: []
theorem runL (w : World) : HandSHeadRun.RunEqI RL (PySem.W.view RL.prog [33]) hkL obL 4000 looseL w := by
  unfold HandSHeadRun.RunEqI
  kernel_rfl
theorem factsL {P : Program} {w : World} {K : PySem.W.Frag} {h : Heap} {mg : Str → Option Value} {f : Addr} (X : K.In h) (G : h.Ns mainGlobals mg) (hfa : mg ("law" : Str) = some (.ref f)) (d : He.SaysX faL fnL [] [] exL w h K) :
    ∃ fd : FuncData, (∀ (s : Shared) (v : Value), BindsTo s fd ⟨[v], []⟩ [("_law_script", v)]) ∧ ∀ base : Heap, K.In base → base.Ns mainGlobals mg → FnOk P w K mg base CX0 5 f fd ["_law_script"] (spLaw K) := by
  have c : He.SaysD faL fnL K := d.t.d
  have z := d.more
  unfold exL at z
  simp only [Bool.and_eq_true] at z
  obtain ⟨zg, z0, z1, z2⟩ := z
  have m_gcd : mg "gcd" = some (.builtin "math.gcd") := bi_of X G zg
  have m_abs : mg "abs" = none := He.free_ok X G (c.fact 19 (f := .free "abs") rfl)
  have m_all : mg "all" = none := He.free_ok X G (c.fact 20 (f := .free "all") rfl)
  have m_bool : mg "bool" = none := He.free_ok X G (c.fact 21 (f := .free "bool") rfl)
  have m_dict : mg "dict" = none := He.free_ok X G (c.fact 22 (f := .free "dict") rfl)
  have m_enumerate : mg "enumerate" = none := He.free_ok X G (c.fact 23 (f := .free "enumerate") rfl)
  have m_int : mg "int" = none := He.free_ok X G (c.fact 24 (f := .free "int") rfl)
  have m_isinstance : mg "isinstance" = none := He.free_ok X G (c.fact 25 (f := .free "isinstance") rfl)
  have m_len : mg "len" = none := He.free_ok X G (c.fact 26 (f := .free "len") rfl)
  have m_list : mg "list" = none := He.free_ok X G (c.fact 27 (f := .free "list") rfl)
  have m_max : mg "max" = none := He.free_ok X G (c.fact 28 (f := .free "max") rfl)
  have m_min : mg "min" = none := He.free_ok X G (c.fact 29 (f := .free "min") rfl)
  have m_range : mg "range" = none := He.free_ok X G (c.fact 30 (f := .free "range") rfl)
  have m_sorted : mg "sorted" = none := He.free_ok X G (c.fact 31 (f := .free "sorted") rfl)
  have m_str : mg "str" = none := He.free_ok X G (c.fact 32 (f := .free "str") rfl)
  have m_tuple : mg "tuple" = none := He.free_ok X G (c.fact 33 (f := .free "tuple") rfl)
  have m_zip : mg "zip" = none := He.free_ok X G (c.fact 34 (f := .free "zip") rfl)
  have c_LONGEST : ∃ t, mg "LONGEST" = some (.int 9999 t) := He.int_ok X G (c.fact 35 (f := .int "LONGEST" 9999) rfl)
  have c_MOST_TIMES : ∃ t, mg "MOST_TIMES" = some (.int 25 t) := He.int_ok X G (c.fact 36 (f := .int "MOST_TIMES" 25) rfl)
  have c_SHORTEST : ∃ t, mg "SHORTEST" = some (.int 1 t) := He.int_ok X G (c.fact 37 (f := .int "SHORTEST" 1) rfl)
  have c_NUMBERS : mg "NUMBERS" = some (.ref (He.ga K "NUMBERS")) := He.glo_ok X G (c.fact 38 (f := .glo "NUMBERS") rfl)
  have N0 := fun H => tupAt_ok z0 H
  have N1 := fun H => tupAt_ok z1 H
  have N2 := fun H => tupAt_ok z2 H
  obtain ⟨fd, F⟩ := c.def_ 18 (d := dfn "law" slaw) rfl
  have e := hfa.symm.trans (He.glo_ok X G (c.fact 18 (f := .glo "law") rfl))
  cases e
  have b := FunD.bindsA (ps := ["_law_script"]) F fun _ _ _ _ _ _ us hl => match us, hl with | [_], _ => rfl
  refine ⟨fd, fun s v => b s [v] rfl, fun base _ _ => ?_⟩
  obtain ⟨fdI, FI⟩ := c.def_ 19 (d := dfm "Taps" "__init__" "Taps.__init__" sTaps___init__) rfl
  have cl := He.cls_ok (c.fact 40 (f := .cls "Taps") rfl)
  have nT := He.noat_ok (c.fact 41 (f := .noat "Taps" "_times") rfl)
  obtain ⟨fdT, FT⟩ := c.def_ 20 (d := dfm "Taps" "times" "Taps.times" sTaps_times) rfl
  have G_law_dice := ok_law_dice (P := P) (w := w) (base := base) (src_of X G c 0 0 rfl rfl) m_abs
  have G_law_off := ok_law_off (P := P) (w := w) (base := base) (src_of X G c 1 1 rfl rfl) m_len
  have G_law_kinds := ok_law_kinds (P := P) (w := w) (base := base) (src_of X G c 2 2 rfl rfl)
  have G_law_reading := ok_law_reading (P := P) (w := w) (base := base) (src_of X G c 3 3 rfl rfl) m_range G_law_kinds G_law_off
  have G_law_times := ok_law_times (P := P) (w := w) (base := base) (src_of X G c 4 4 rfl rfl) m_range m_enumerate m_max m_min m_int G_law_reading G_law_off
  have G_law_low := ok_law_low (P := P) (w := w) (base := base) (src_of X G c 5 5 rfl rfl) m_abs
  have G_law_less := ok_law_less (P := P) (w := w) (base := base) (src_of X G c 6 6 rfl rfl)
  have G_law_asks := ok_law_asks (P := P) (w := w) (base := base) (src_of X G c 7 7 rfl rfl) G_law_low
  have G_law_width := ok_law_width (P := P) (w := w) (base := base) (src_of X G c 8 8 rfl rfl) m_range m_len G_law_less G_law_asks
  have G_law_alike := ok_law_alike (P := P) (w := w) (base := base) (src_of X G c 9 9 rfl rfl) m_isinstance m_bool m_int m_str m_dict m_tuple m_list m_len m_all m_range 3
  have Gcheck_times := ok_check_times (P := P) (w := w) (base := base) (src_of X G c 10 10 rfl rfl) m_len m_enumerate c_MOST_TIMES c_SHORTEST c_LONGEST
  have GTaps : KMake P w K mg base CX0 (He.ga K "Taps") 2 "Taps" ["self", "times"] (spTapsInit K (He.ga K "Taps")) := ⟨_, fdI, He.glo_ok X G (c.fact 39 (f := .glo "Taps") rfl), He.mkr_ok (c.fact 42 (f := .mkr "Taps") rfl), FI.bindsN fun _ _ _ _ _ _ us hl => match us, hl with | [_, _], _ => rfl, ok_Taps_init FI cl nT m_list Gcheck_times⟩
  have GTaps_times : KMeth P w K mg base CX0 (He.ga K "Taps") 1 "times" ["self"] (spTapsTimes (He.ga K "Taps")) := ⟨cl, _, fdT, He.meth_ok (c.fact 43 (f := .meth "Taps" "times") rfl), FT.bindsN fun _ _ _ _ _ _ us hl => match us, hl with | [_], _ => rfl, ok_Taps_times FT cl nT m_list⟩
  have Gcheck_reading := ok_check_reading (P := P) (w := w) (base := base) (src_of X G c 11 11 rfl rfl) m_len m_enumerate c_NUMBERS N0 N1 N2
  have Glowest := ok_lowest (P := P) (w := w) (base := base) (src_of X G c 12 12 rfl rfl) m_gcd
  have Gis_above := ok_is_above (P := P) (w := w) (base := base) (src_of X G c 13 13 rfl rfl)
  have Gasked := ok_asked (P := P) (w := w) (base := base) (src_of X G c 14 14 rfl rfl)
  have Gasked_by_pairs := ok_asked_by_pairs (P := P) (w := w) (base := base) (src_of X G c 15 15 rfl rfl) m_list m_zip m_enumerate Gasked
  have Gleast_asked := ok_least_asked (P := P) (w := w) (base := base) (src_of X G c 16 16 rfl rfl) Gasked_by_pairs Gis_above Glowest
  have Gleast_width := ok_least_width (P := P) (w := w) (base := base) (src_of X G c 17 17 rfl rfl) GTaps_times Gcheck_reading Gleast_asked
  exact ok_law F G_law_dice G_law_times G_law_reading G_law_off GTaps Gleast_width G_law_alike G_law_width m_len m_sorted m_range m_int m_list
end KT
open PySem PySem.W PySem.Calls PyProof.Rows
theorem PySem.Challenge.cw_keyedtime_k03_least_widths_holds : PySem.Challenge.rw_keyedtime_k03_least_widths.Holds := by
  w_on; o_law
  refine HandSHeadRun.head_imp (r := OpenLaw.row PySem.Challenge.rw_keyedtime_k03_least_widths) (q := view (OpenLaw.row PySem.Challenge.rw_keyedtime_k03_least_widths).prog [33]) (H := KT.hkL) (ob := KT.obL) (M := 4000) (loose := KT.looseL) (d := HandSHeadRun.topDef (OpenLaw.row PySem.Challenge.rw_keyedtime_k03_least_widths).prog 33) (kwd := []) KT.obL_eq
    KT.runL (by kernel_rfl) (by kernel_rfl) (by kernel_rfl) (by rfl) (by first | assumption | decide +kernel) (by decide +kernel) ⟨rfl, rfl, rfl, rfl, rfl, by decide +kernel⟩ ?hw ?hc
  case hw => w_witness2
  case hc =>
    refine L2.walk_ofE (l := PySem.Challenge.rw_keyedtime_k03_least_widths) (n := 63) (k := 5) (x := "_law_script") (CX := L2.CX0) rfl (by decide) (by kernel_rfl) ⟨rfl, by decide, by decide⟩ ?F (fun _ _ _ _ z => z)
    intro w mg fa h Y G hmg0
    obtain ⟨K, KX, c⟩ := Y
    have hmg : mg ("law" : PySem.Str) = some (.ref fa) := by
      have e : (HandSHeadRun.topDef (OpenLaw.row PySem.Challenge.rw_keyedtime_k03_least_widths).prog 33).name = ("law" : PySem.Str) := by kernel_rfl
      rw [← e]
      exact hmg0
    obtain ⟨fd, hb, hF⟩ := KT.factsL (P := (PySem.Challenge.rw_keyedtime_k03_least_widths).prog) (w := w) KX G hmg c
    exact ⟨K, fd, KT.spLaw K, KX, hb, fun H a ns hl _ hS => ⟨a, ns, rfl, hS, hl, fun _ => rfl⟩, hF⟩
