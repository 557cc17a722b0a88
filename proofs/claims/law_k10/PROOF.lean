import PyProof.Rows.All
import Wide.All
import OpenK.AllK
import Wide.FinOn
import HandS.ForMost
import HandS.ForExc
import HandS.More
import HandS.Walk
import HandS.SortInts
import HandS.SetFor
import HandS.Style
import HandS.RevRange
import HandS.TupAny
import HandS.TupMul
import HandS.IsInst
import HandS.Conv
import HandS.ExcIs
import HandS.ExcCtx
import HandS.SortKw
import HandS.Remove
import HandS.TupLe
import HandS.Zip
import HandS.Small
import KE.DatumOrd
import KE.DatumMore
import KE.KSortedM
import KE.KStateDown
import KE.KDictPairs
import PySem.Challenge.RW_berthrow_k10_whole_rows_of_trees
set_option Elab.async false
set_option linter.all false
set_option maxRecDepth 100000
set_option maxHeartbeats 4000000
namespace Br
open PySem PySem.Spec PyProof.Rows L2
/-! ### addresses of what the top has made, by name -/
structure Ad where
  f_is_number : Addr := 0
  f_is_from_to : Addr := 0
  f_is_row : Addr := 0
  f_check_quay : Addr := 0
  f_check_wishes : Addr := 0
  f_first_free : Addr := 0
  f_placed : Addr := 0
  f_taken : Addr := 0
  f_gone_on : Addr := 0
  f_is_good : Addr := 0
  f_crowded : Addr := 0
  f_placed_round : Addr := 0
  f_left_over : Addr := 0
  f_turned : Addr := 0
  f_turning : Addr := 0
  f_how_many : Addr := 0
  f_first_row : Addr := 0
  f_last_row : Addr := 0
  f_next_row : Addr := 0
  f_p_check_ships : Addr := 0
  f_l_cell_at : Addr := 0
  f_l_mix : Addr := 0
  f_l_quay : Addr := 0
  f_l_wishes : Addr := 0
  f_l_placed : Addr := 0
  f_l_whole : Addr := 0
  f_l_good : Addr := 0
  f_l_crowded : Addr := 0
  f_l_order : Addr := 0
  f_l_round : Addr := 0
  f_l_refused : Addr := 0
  f_l_due : Addr := 0
  f_l_caught : Addr := 0
  f_l_lowered : Addr := 0
  f_first_free_round : Addr := 0
  f_check_full_row : Addr := 0
  f_tree_of : Addr := 0
  f_wishes_of : Addr := 0
  f_p_check_knots : Addr := 0
  f_lies : Addr := 0
  f_reaches : Addr := 0
  f_rows_to : Addr := 0
  f_p_check_order : Addr := 0
  f_is_name : Addr := 0
  f_written : Addr := 0
  f_read : Addr := 0
  f_p_parts : Addr := 0
  f_p_pair : Addr := 0
  f_p_number : Addr := 0
  f_p_check_name : Addr := 0
  f_l_asked : Addr := 0
  f_l_word : Addr := 0
  f_l_told : Addr := 0
  f_l_odd : Addr := 0
  f_l_no_quay : Addr := 0
  f_l_full : Addr := 0
  f_l_tree : Addr := 0
  f_l_drawn : Addr := 0
  f_l_hangs : Addr := 0
  f_l_right : Addr := 0
  f_l_lying : Addr := 0
  f_l_words : Addr := 0
  f_l_done : Addr := 0
  f_l_stands : Addr := 0
  f_l_nearer : Addr := 0
  f_l_read : Addr := 0
  f_l_text : Addr := 0
  f_l_odd_text : Addr := 0
  f_law : Addr := 0
  e_BerthError : Addr := 0
  e_NoQuay : Addr := 0
  e_NoWishes : Addr := 0
  e_TooMany : Addr := 0
  e_NoCount : Addr := 0
  e_NoTree : Addr := 0
  e_NoOrder : Addr := 0
  e_NoName : Addr := 0
  e_Taken : Addr := 0
  e_NoWish : Addr := 0
  e_NoRoom : Addr := 0
  e_NoShip : Addr := 0
  e_NoText : Addr := 0
/-- a def as it stands behind the top -/
structure DF (K : PySem.W.Frag) (mg : Str → Option Value) (x : Str) (st : Stmt) (ps : List Str) (f : Addr) : Prop where
  ex : ∃ fd, Fun K x x st f fd ∧ Binds K fd ps []
  g : mg x = some (.ref f)
/-- a def that keeps its promise, ready to be called by its name -/
structure Cb (P : Program) (w : World) (K : PySem.W.Frag) (mg : Str → Option Value) (base : Heap) (CX : CXT) (k : Nat) (x : Str) (f : Addr) (ps : List Str) (sp : Sp) : Prop where
  ex : ∃ fd, FnOk P w K mg base CX k f fd ps sp ∧ Binds K fd ps []
  g : mg x = some (.ref f)
  kp : PySem.W.keepIn K (.ref f) = true
/-- an own exception's class -/
structure ExF (K : PySem.W.Frag) (mg : Str → Option Value) (x : Str) (c : Addr) : Prop where
  g : mg x = some (.ref c)
  x : PySem.W.excIn K c [.type "ValueError", .type "Exception", .type "BaseException", .type "object"] "ValueError.__new__" = true
  k : PySem.W.keepIn K (.ref c) = true
  b : PySem.W.subIn K (.ref c) (.type "BaseException") = some true
  t : PySem.W.typeIn K (.ref c) = some (.type "type")
theorem df_mk {K : PySem.W.Frag} {mg : Str → Option Value} {x : Str} {st : Stmt} {ps : List Str} {f : Addr} {fd : FuncData} (F : Fun K x x st f fd)
    (h : ∀ (kV doc pm : Value) (an : Option Addr) (cdv ct : Value) (us : List Value), us.length = ps.length → bindArgs (PySem.W.fnOf x x (defArgs st) (defBody st) (defScope st) .none kV doc pm an cdv ct) ⟨us, []⟩ = pure (ps.zip us)) (g : mg x = some (.ref f)) : DF K mg x st ps f :=
  ⟨⟨fd, F, F.binds h⟩, g⟩
/-! ### readings by short names -/
def rAddI : R2 := rI0 fun i j => .int (i + j)
def rSubI : R2 := rI0 fun i j => .int (i - j)
def rMulI : R2 := rI CMul fun i j => .int (i * j)
def rModI : R2 := rI (fun _ j => 0 < j) fun i j => .int (i % j)
def rDivI : R2 := rI CDiv fun i j => .int (i / j)
def rPowI : R2 := rI CPow fun i j => .int (i ^ j.toNat)
def rLtI : R2 := rI0 fun i j => .bl (decide (i < j))
def rLeI : R2 := rI0 fun i j => .bl (decide (i ≤ j))
def rGtI : R2 := rI0 fun i j => .bl (decide (j < i))
def rGeI : R2 := rI0 fun i j => .bl (decide (j ≤ i))
def rIsTyB : R2 := fun x y H Q => ∃ a b, x = .ty a ∧ y = .ty b ∧ Q (.bl (decide (a = b))) H
def rIsB1 : R2 := fun x y H Q => ∃ a b, x = .bl a ∧ y = .bl b ∧ Q (.bl (decide (a = b))) H
def rLenSq (K : PySem.W.Frag) : List V → Hp → VK → Prop := fun xs H Q => ∃ p ys, xs = [.ref p] ∧ (SqL K H p ys ∨ SqT K H p ys) ∧ Q (.int ys.length) H
def rAddStr : R2 := fun x y H Q => ∃ i j, x = .str i ∧ y = .str j ∧ i.length + j.length ≤ sizeLine ∧ Q (.str (i ++ j)) H
def rMin2 : List V → Hp → VK → Prop := fun xs H Q => ∃ i j, xs = [.int i, .int j] ∧ Q (.int (if j < i then j else i)) H
def rMax2 : List V → Hp → VK → Prop := fun xs H Q => ∃ i j, xs = [.int i, .int j] ∧ Q (.int (if j > i then j else i)) H
def rInt1 : List V → Hp → VK → Prop := fun xs H Q => (∃ i, xs = [.int i] ∧ Q (.int i) H) ∨ ∃ k, xs = [.bl k] ∧ Q (.int (if k then 1 else 0)) H
def rListOf (K : PySem.W.Frag) : List V → Hp → VK → Prop := fun xs H Q => ∃ p ys, xs = [.ref p] ∧ (SqL K H p ys ∨ SqT K H p ys) ∧ ∀ l, H l = none → Q (.ref l) (upd H l (.lst ys))
def rTupleOf (K : PySem.W.Frag) : List V → Hp → VK → Prop := fun xs H Q => ∃ p ys, xs = [.ref p] ∧ ((SqL K H p ys ∧ ∀ l, H l = none → Q (.ref l) (upd H l (.tup ys))) ∨ (SqT K H p ys ∧ Q (.ref p) H))
def ipAdd : TIp := ipI fun i j => i + j
def ipSub : TIp := ipI fun i j => i - j
def tTru (K : PySem.W.Frag) (te : TE) : TT := fun σ H Q => te σ H fun x H' => ∃ k, TruV K x H' k ∧ Q k H'
def tRaise (c : Addr) (E : XK) : TS := fun _ _ H => E (.ref c) none H
def iSeq (K : PySem.W.Frag) (tl : TE) : TI := fun σ H R => iList K tl σ H R ∨ iTup K tl σ H R
def SqA (K : PySem.W.Frag) (H : Hp) (a : Addr) (xs : List V) : Prop := SqL K H a xs ∨ SqT K H a xs
theorem item_of0 {ns : List Int} {i : Nat} {y : V} (hi : (ns.map V.int)[i]? = some y) : ∃ z, ns[i]? = some z ∧ y = V.int z := by
  rw [List.getElem?_map] at hi
  cases e : ns[i]? with
  | none => rw [e] at hi; cases hi
  | some z => rw [e] at hi; exact ⟨z, rfl, (Option.some.inj hi).symm⟩
/-! ### rules -/
section
variable {X : Cx}
theorem pe_gl {x : Str} {v : V} {pos : Pos} (hg : Gl X x) (h : ∃ u, X.mg x = some u ∧ RelV v u) (hd : (x == ("__debug__" : Str)) = false := by decide) : PE X (.Name x pos) (tC v) := by
  obtain ⟨u, hm, r⟩ := h
  exact pe_glob hg hm r hd
theorem pe_cb {CX : CXT} {k : Nat} {f : Addr} {ps : List Str} {sp : Sp} {E : XK} {x : Str} {p pos : Pos} {e : Expr} {es : List Expr} {t : TA} (G : Cb X.prog X.w X.K X.mg X.base CX k x f ps sp) (hr : Room k X.A) (hg : Gl X x) (hx : Passes CX X E) (ha : PA X (e :: es) t)
    (hdb : (x == ("__debug__" : Str)) = false := by decide) (he : starEach (e :: es) X.env = (false, eval e X.env) :: starEach es X.env := by rfl) (hpl : (backTo pos (starEach es X.env)).any (·.1) = false := by rfl) :
    PE X (.Call (.Name x p) (e :: es) [] pos) (tCall sp [] E t) := by
  obtain ⟨⟨fd, F, b⟩, g, kp⟩ := G
  exact pe_call F hr hg g kp b .nil hx ha hdb he hpl
theorem pe_cbS {CX : CXT} {k : Nat} {f : Addr} {ps : List Str} {sp : Sp} {E : L2.St → XK} {x : Str} {p pos : Pos} {e : Expr} {es : List Expr} {t : TA} (G : Cb X.prog X.w X.K X.mg X.base CX k x f ps sp) (hr : Room k X.A) (hg : Gl X x) (hx : ∀ σ, PassesAt CX X σ (E σ)) (ha : PA X (e :: es) t)
    (hdb : (x == ("__debug__" : Str)) = false := by decide) (he : starEach (e :: es) X.env = (false, eval e X.env) :: starEach es X.env := by rfl) (hpl : (backTo pos (starEach es X.env)).any (·.1) = false := by rfl) :
    PE X (.Call (.Name x p) (e :: es) [] pos) (tCallS sp E t) := by
  obtain ⟨⟨fd, F, b⟩, g, kp⟩ := G
  exact pe_callS F hr hg g kp b hx ha hdb he hpl
theorem pi_seq {tg l : Expr} {tl : TE} (hl : PE X l tl) : PI X tg l (iSeq X.K tl) :=
  ⟨fun pins s σ H R I h => h.elim (fun h => (pi_list hl).run pins s σ H R I h) (fun h => (pi_tup hl).run pins s σ H R I h)⟩
/-- xs[i], by values: for xs[i] += e -/
theorem gt_list : PGet X (rIxL X.K) := by
  intro pins s σ H x y v u Q I rx ry h
  obtain ⟨p, xs, i, z, rfl, rfl, hq, he, q⟩ := h
  cases rx
  obtain ⟨t, rfl⟩ := ry
  obtain ⟨its, r, pl, hz⟩ := I.list hq
  obtain ⟨j, h1, h2, h3, h4, h5⟩ := atI_get he
  obtain ⟨w, ew, rw'⟩ := r.get h2
  have hl := r.length
  have hn := line63
  have fin : EP X pins σ Q w s := ⟨z, H, I, rw', q⟩
  by_cases h0 : 0 ≤ i
  · have hj : i.toNat = j := by
      rw [seqIndex_of h0 h5] at h1
      exact Option.some.inj h1
    exact wpAny_getItem_list pl.isList h0 (by omega) (by rw [hj]; simpa using ew) fin
  · have hj : (i + (its.toArray.size : Int)).toNat = j := by
      rw [seqIndex_neg (by omega) h4] at h1
      rw [List.size_toArray, ← hl]
      exact Option.some.inj h1
    exact wpAny_getItem_list_neg pl.isList (by omega) (by rw [List.size_toArray] <;> omega) (by omega) (by rw [hj]; simpa using ew) fin
/-! ### min(xs, default=d), xs a list of whole numbers -/
theorem minOf_int : ∀ (ys : List Int) (y : Int), PySem.W.minOf y ys ∈ y :: ys ∧ ∀ z ∈ y :: ys, PySem.W.minOf y ys ≤ z
  | [], y => ⟨List.mem_singleton.mpr rfl, fun z hz => by rw [List.mem_singleton.mp hz]; exact Int.le_refl _⟩
  | x :: r, y => by
    have e : PySem.W.minOf y (x :: r) = PySem.W.minOf (if x < y then x else y) r := by
      show PySem.W.minOf (if (decide (x < y)) = true then x else y) r = _
      by_cases h : x < y <;> simp [h]
    obtain ⟨h1, h2⟩ := minOf_int r (if x < y then x else y)
    rw [e]
    refine ⟨?_, fun z hz => ?_⟩
    · rcases List.mem_cons.mp h1 with k | k
      · rw [k]
        by_cases h : x < y <;> simp [h]
      · simp [k]
    · have hc := h2 _ (List.mem_cons_self)
      rcases List.mem_cons.mp hz with k | k
      · subst k
        by_cases h : x < z
        · rw [if_pos h] at hc ⊢
          omega
        · rw [if_neg h] at hc ⊢
          exact hc
      · rcases List.mem_cons.mp k with k | k
        · subst k
          by_cases h : z < y
          · rw [if_pos h] at hc ⊢
            exact hc
          · rw [if_neg h] at hc ⊢
            omega
        · exact h2 z (List.mem_cons_of_mem _ k)
def rMinD (K : PySem.W.Frag) : List V → List V → Hp → VK → Prop := fun vs zs H Q => ∃ (p : Addr) (d : V) (ns : List Int), vs = [.ref p] ∧ zs = [d] ∧ SqL K H p (ns.map V.int) ∧
  (ns = [] → Q d H) ∧ ∀ m, m ∈ ns → (∀ y ∈ ns, m ≤ y) → Q (.int m) H
def tMinD (K : PySem.W.Frag) (ta td : TE) : TE := tCKw (rMinD K) (tCons ta tNil) (tCons td tNil)
theorem dp_ints {K : PySem.W.Frag} {H : Hp} : ∀ ns : List Int, DpAll K H (ns.map V.int) (ns.map PyData.int)
  | [] => .nil
  | n :: r => .cons (.int n) (dp_ints r)
theorem cr_minD (hc : X.calm = true) (hu : X.A.units + 64 < cLine) : CallRK X (.builtin "min") [Str.ofString "default"] (rMinD X.K) := by
  intro pins s σ H vs zs us ws Q I r rz h
  obtain ⟨p, d, ns, rfl, rfl, hs, q0, q1⟩ := h
  obtain ⟨w, rfl, rw'⟩ := vals1 rz
  obtain ⟨its, rv, hl, _⟩ := I.list hs
  rw [Vals.ref1 r]
  obtain ⟨as, ra⟩ := Dp.readsAll I (ns.map PyData.int) _ its (dp_ints ns) rv
  have HA : PySem.W.HoldAll s.heap its.toArray.toList ns := ⟨as, ra⟩
  refine PySem.W.min_list_datum_default (I.ok.hd hc) hl.isList HA (by show X.A.units + 1 + PySem.W.Datum.depth Int < cLine; have e : PySem.W.Datum.depth Int = 0 := rfl; rw [e]; omega) (fun e h' tk hk => ⟨d, H, I.kept hk, rw', q0 e⟩) fun y ys i v h' tk e hi hv hk => ?_
  subst e
  obtain ⟨as2, r2⟩ := hv
  have hi' : its[i]? = some v := by simpa using hi
  have hlen := rv.length
  have hlt : i < ((y :: ys).map V.int).length := by rw [hlen]; exact (List.getElem?_eq_some_iff.mp hi').1
  obtain ⟨u, hu1, hu2⟩ := rv.get (List.getElem?_eq_getElem hlt)
  rw [hi'] at hu1
  cases hu1
  obtain ⟨z, hz, ez⟩ := item_of0 (List.getElem?_eq_getElem hlt)
  rw [ez] at hu2
  obtain ⟨t, rfl⟩ := hu2
  have em : PySem.W.minOf y ys = z := by
    have r2' : Reads h' (.int z t) (.int (PySem.W.minOf y ys)) as2 := r2
    cases r2'
    rfl
  obtain ⟨m1, m2⟩ := minOf_int ys y
  rw [em] at m1 m2
  exact ⟨.int z, H, I.kept hk, ⟨_, rfl⟩, q1 z m1 m2⟩
theorem pe_minD {p pos kpos : Pos} {e d : Expr} {ta td : TE} (hc : X.calm = true) (hu : X.A.units + 64 < cLine) (hg : Gl X "min") (hm : X.mg "min" = none) (ha : PE X e ta) (hd : PE X d td)
    (he : backTo pos (starEach (e :: []) X.env) = (false, eval e X.env) :: backTo pos (starEach [] X.env) := by rfl) (hse : starEach (e :: []) X.env = (false, eval e X.env) :: starEach [] X.env := by rfl) (hpl : (backTo pos (starEach (e :: []) X.env)).any (·.1) = false := by rfl)
    (hall : (backToKw pos (keywordEach [⟨some (Str.ofString "default"), d, kpos⟩] X.env)).all (·.1.isSome) = true := by rfl) (hnone : (backToKw pos (keywordEach [⟨some (Str.ofString "default"), d, kpos⟩] X.env)).any (·.1.isNone) = false := by rfl)
    (hks : (backToKw pos (keywordEach [⟨some (Str.ofString "default"), d, kpos⟩] X.env)).filterMap (·.1) = [Str.ofString "default"] := by rfl) :
    PE X (.Call (.Name "min" p) [e] [⟨some (Str.ofString "default"), d, kpos⟩] pos) (tMinD X.K ta td) :=
  pe_callBK (cr_minD hc hu) hg hm (by decide +kernel) (pa_cons ha pa_nil hse) (pk_cons hd pk_nil) (by decide) (by decide) he hpl hall hnone hks
end
/-! ### == and != of data -/
def rEqT (K : PySem.W.Frag) : R2 := fun x y H Q => ∃ (α : Type) (_ : DecidableEq α) (_ : PySem.W.Datum α) (a b : α), Dp K H x (PySem.W.Datum.toD a) ∧ Dp K H y (PySem.W.Datum.toD b) ∧ PySem.W.Datum.depth α ≤ 64 ∧ Q (.bl (decide (a = b))) H
def rNeT (K : PySem.W.Frag) : R2 := fun x y H Q => ∃ (α : Type) (_ : DecidableEq α) (_ : PySem.W.Datum α) (a b : α), Dp K H x (PySem.W.Datum.toD a) ∧ Dp K H y (PySem.W.Datum.toD b) ∧ PySem.W.Datum.depth α ≤ 64 ∧ Q (.bl (decide (a ≠ b))) H
section
variable {X : Cx}
theorem op_eqT (hu : X.A.units + 64 < cLine) : OpR X (compareOp .Eq) (rEqT X.K) := by
  intro pins s σ H x y v u Q I rx ry h
  obtain ⟨α, d1, d2, a, b, ha, hb, hd, q⟩ := h
  exact PySem.W.eq_datum (Dp.reads I _ x v ha rx) (Dp.reads I _ y u hb ry) (by omega) ⟨.bl _, H, I, rfl, q⟩
theorem op_neT (hu : X.A.units + 64 < cLine) : OpR X (compareOp .NotEq) (rNeT X.K) := by
  intro pins s σ H x y v u Q I rx ry h
  obtain ⟨α, d1, d2, a, b, ha, hb, hd, q⟩ := h
  exact PySem.W.ne_datum (Dp.reads I _ x v ha rx) (Dp.reads I _ y u hb ry) (by omega) ⟨.bl _, H, I, rfl, q⟩
end
theorem eqT_of {K : PySem.W.Frag} {x y : V} {H : Hp} {Q : VK} {α : Type} [DecidableEq α] [PySem.W.Datum α] {a b : α} (ha : Dp K H x (PySem.W.Datum.toD a)) (hb : Dp K H y (PySem.W.Datum.toD b)) (hd : PySem.W.Datum.depth α ≤ 64) (q : Q (.bl (decide (a = b))) H) : rEqT K x y H Q := ⟨α, _, _, a, b, ha, hb, hd, q⟩
theorem neT_of {K : PySem.W.Frag} {x y : V} {H : Hp} {Q : VK} {α : Type} [DecidableEq α] [PySem.W.Datum α] {a b : α} (ha : Dp K H x (PySem.W.Datum.toD a)) (hb : Dp K H y (PySem.W.Datum.toD b)) (hd : PySem.W.Datum.depth α ≤ 64) (q : Q (.bl (decide (a ≠ b))) H) : rNeT K x y H Q := ⟨α, _, _, a, b, ha, hb, hd, q⟩
theorem ho_ints {K : PySem.W.Frag} {H : Hp} {p : Addr} {ns : List Int} (h : SqL K H p (ns.map V.int)) : Dp K H (.ref p) (PySem.W.Datum.toD ns) := .lst h (dp_ints ns)
/-! ### heaps -/
theorem same_new {H : Hp} {p : Addr} {o : HO} (h : H p = none) : Same H (upd H p o) := fun b x e => by
  rw [upd_ne (ne_of_none e h)]
  exact e
/-- what stood ahead of an object's making stands behind a store into it -/
theorem _root_.L2.Same.store {H H' : Hp} {p : Addr} {o : HO} (s : Same H H') (h : H p = none) : Same H (upd H' p o) := fun b x e => by
  rw [upd_ne (ne_of_none e h)]
  exact s b x e
theorem _root_.L2.Same.seqT {K : PySem.W.Frag} {H H' : Hp} {a : Addr} {xs : List V} (e : Same H H') (h : SqT K H a xs) : SqT K H' a xs := by
  rcases h with (h | ⟨o, h⟩) | h
  · exact .inl (.inl (e _ _ h))
  · exact .inl (.inr ⟨o, e _ _ h⟩)
  · exact .inr h
theorem _root_.L2.Same.seqA {K : PySem.W.Frag} {H H' : Hp} {a : Addr} {xs : List V} (e : Same H H') (h : SqA K H a xs) : SqA K H' a xs := h.elim (fun h => .inl (e.seq h)) (fun h => .inr (e.seqT h))
theorem sqL_of {K : PySem.W.Frag} {H : Hp} {a : Addr} {xs : List V} (h : H a = some (.lst xs)) : SqL K H a xs := .inl (.inl h)
theorem sqT_of {K : PySem.W.Frag} {H : Hp} {a : Addr} {xs : List V} (h : H a = some (.tup xs)) : SqT K H a xs := .inl (.inl h)
/-! ### loops and comprehensions in short -/
theorem for_seq {K : PySem.W.Frag} {a : Addr} {xs : List V} {tl : TE} {g : TG} {tb : TS} {D : Ends} {σ : L2.St} {H0 H : Hp} (ht : ∀ Q : VK, Q (.ref a) H → tl σ H Q) (hA : SqA K H0 a xs) (Pv : Nat → L2.St → Hp → Prop) (h0 : Pv 0 σ H) (hl : ∀ i σ H', Pv i σ H' → Same H0 H')
    (hs : ∀ i x σ H, xs[i]? = some x → Pv i σ H → g x σ H fun σ2 H2 => tb { D with nx := Pv (i + 1), ct := Pv (i + 1), bk := D.nx } σ2 H2) (hd : ∀ σ H, Pv xs.length σ H → D.nx σ H) : tFor (iSeq K tl) g tb D σ H := by
  rcases hA with h | h
  · exact .inl (ht _ ⟨a, rfl, ⟨_, (hl _ _ _ h0).seq h⟩, for_list (K := K) (a := a) Pv h0 (fun i σ H' _ p => (hl i σ H' p).seq h) hs hd⟩)
  · exact .inr (ht _ ⟨a, rfl, ⟨_, (hl _ _ _ h0).seqT h⟩, for_tup (K := K) (a := a) Pv h0 (fun i σ H' _ p => (hl i σ H' p).seqT h) hs hd⟩)
theorem take_more {α : Type} : ∀ {l : List α} {i : Nat} {x : α}, l[i]? = some x → l.take (i + 1) = l.take i ++ [x] := fun {l i x} h => by
  rw [List.take_add_one, h]
  rfl
theorem item_of {ns : List Int} {i : Nat} {y : V} (hi : (ns.map V.int)[i]? = some y) : ∃ z, ns[i]? = some z ∧ y = V.int z := by
  rw [List.getElem?_map] at hi
  cases e : ns[i]? with
  | none => rw [e] at hi; cases hi
  | some z => rw [e] at hi; exact ⟨z, rfl, (Option.some.inj hi).symm⟩
/-- a comprehension over anything that gives n values it 0, it 1 .. and leaves what is tracked; p the test, f the element -/
theorem lc_pure {J : It} {n : Nat} {G : Hp → Prop} {tt : TT} {te : TE} {g : TG} {vs : List Nat} {σ : L2.St} {H1 : Hp} {Qd : Addr → Hp → Prop} {Y : Nat → Hp → V → Hp → Prop} {α : Type} (w : Walk J n G Y) (hn : n < sizeLine) (xs : List α) (hx : xs.length = n) (p : α → Bool) (f : α → V) (hG : ∀ H', Same H1 H' → G H')
    (hs : ∀ i (x : α) (v : V) (H H' : Hp) (R : Bool → V → Hp → Prop), xs[i]? = some x → Same H1 H → Y i H v H' → (∀ y H'', Same H H'' → (p x = true → y = f x) → R (p x) y H'') →
      g v (wipe σ vs) H' fun σ2 H2 => wipe σ2 vs = wipe σ vs ∧ tt σ2 H2 fun b H3 => if b = true then te σ2 H3 fun y H4 => R true y H4 else R false .non H3)
    (hQ : ∀ D H', H1 D = none → Same H1 H' → H' D = some (.lst ((xs.filter p).map f)) → Qd D H') :
    ∀ D, H1 D = none → ∃ W : Nat → Nat → Hp → Prop, (∃ m, W 0 m (upd H1 D (.lst []))) ∧ ∀ i m H, W i m H →
      (J.stop i H ∧ Qd D H) ∨ (J.go i H ∧ ∃ Nx : Hp → Prop, (∀ H', Nx H' → ∃ m', m' < m ∧ W (i + 1) m' H') ∧ ∀ x H', J.yld i H x H' → g x (wipe σ vs) H' fun σ2 H2 => wipe σ2 vs = wipe σ vs ∧ tt σ2 H2 fun b H3 =>
        if b = true then te σ2 H3 fun y H4 => ∃ acc, H4 D = some (.lst acc) ∧ acc.length < sizeLine ∧ Nx (upd H4 D (.lst (acc ++ [y]))) else Nx H3) := by
  intro D hD
  refine lc_it w (fun i H => Same H1 H ∧ H D = some (.lst (((xs.take i).filter p).map f))) ⟨same_new hD, upd_same⟩ (fun i H _ h => hG H h.1) ?_ ?_
  · intro i v H H' hi ⟨s, e⟩ y
    have hi' : i < xs.length := by omega
    have hx' : xs[i]? = some xs[i] := List.getElem?_eq_getElem hi'
    have fin := hs i xs[i] v H H' (fun b y H4 => if b = true then ∃ acc, H4 D = some (.lst acc) ∧ acc.length < sizeLine ∧ (Same H1 (upd H4 D (.lst (acc ++ [y]))) ∧ (upd H4 D (.lst (acc ++ [y]))) D = some (.lst (((xs.take (i + 1)).filter p).map f))) else Same H1 H4 ∧ H4 D = some (.lst (((xs.take (i + 1)).filter p).map f))) hx' s y ?_
    · exact fin
    · intro y H4 s4 hy
      have e4 := s4 _ _ e
      rw [take_more hx', List.filter_append, List.map_append]
      cases hp : p xs[i] with
      | true =>
        rw [if_pos rfl]
        refine ⟨_, e4, ?_, (s.trans s4).store hD, ?_⟩
        · rw [List.length_map]
          refine Nat.lt_of_le_of_lt (List.length_filter_le _ _) (Nat.lt_of_le_of_lt (List.length_take_le _ _) ?_)
          omega
        · rw [upd_same, hy hp]
          simp [List.filter, hp]
      | false =>
        rw [if_neg Bool.false_ne_true]
        refine ⟨s.trans s4, ?_⟩
        rw [e4]
        simp [List.filter, hp]
  · intro H ⟨s, e⟩
    rw [← hx, List.take_length] at e
    exact hQ D H hD s e

/-! ### what is a number, a quay, wishes -/
def isInt : V → Bool
  | .int _ => true
  | _ => false
def inB (lo hi : Int) : V → Bool
  | .int i => decide (lo ≤ i) && decide (i ≤ hi)
  | _ => false
def goodW (n : Nat) (xs : List V) : Bool := decide (xs.length ≤ 400) && xs.all (inB 1 n)
/-- what a check of a quay and of wishes for it comes to: R behind a good one -/
def ChkQ (K : PySem.W.Frag) (a : Ad) (b : V) (H : Hp) (E : XK) (R : Nat → Prop) : Prop := ∃ T, TyB K H b T ∧ ((inB 1 400 b = false ∧ E (.ref a.e_NoQuay) none H) ∨ ∃ n : Nat, b = .int n ∧ 1 ≤ n ∧ n ≤ 400 ∧ R n)
def ChkW (K : PySem.W.Frag) (a : Ad) (b w : V) (H : Hp) (E : XK) (R : Nat → List Int → Addr → Prop) : Prop := ChkQ K a b H E fun n =>
  (∃ T, TyB K H w T ∧ T ≠ "list" ∧ T ≠ "tuple" ∧ E (.ref a.e_NoWishes) none H) ∨
  ∃ p xs, w = .ref p ∧ SqA K H p xs ∧ (∀ x ∈ xs, ∃ T, TyB K H x T) ∧ ((goodW n xs = false ∧ E (.ref a.e_NoWishes) none H) ∨
    ∃ ws : List Int, xs = ws.map V.int ∧ ws.length ≤ 400 ∧ (∀ x ∈ ws, 1 ≤ x ∧ x ≤ n) ∧ R n ws p)
theorem ChkQ.imp {K : PySem.W.Frag} {a : Ad} {b : V} {H : Hp} {E : XK} {R R' : Nat → Prop} (h : ChkQ K a b H E R) (k : ∀ n : Nat, b = .int n → 1 ≤ n → n ≤ 400 → R n → R' n) : ChkQ K a b H E R' := by
  obtain ⟨T, ty, h | ⟨n, e, h1, h2, r⟩⟩ := h
  · exact ⟨T, ty, .inl h⟩
  · exact ⟨T, ty, .inr ⟨n, e, h1, h2, k n e h1 h2 r⟩⟩
theorem ChkW.imp {K : PySem.W.Frag} {a : Ad} {b w : V} {H : Hp} {E : XK} {R R' : Nat → List Int → Addr → Prop} (h : ChkW K a b w H E R)
    (k : ∀ (n : Nat) (ws : List Int) (p : Addr), b = .int n → w = .ref p → 1 ≤ n → n ≤ 400 → SqA K H p (ws.map V.int) → ws.length ≤ 400 → (∀ x ∈ ws, 1 ≤ x ∧ x ≤ n) → R n ws p → R' n ws p) : ChkW K a b w H E R' := by
  refine ChkQ.imp h fun n e h1 h2 r => ?_
  rcases r with r | ⟨p, xs, ew, hs, ht, r | ⟨ws, ex, hl, hb, r⟩⟩
  · exact .inl r
  · exact .inr ⟨p, xs, ew, hs, ht, .inl r⟩
  · exact .inr ⟨p, xs, ew, hs, ht, .inr ⟨ws, ex, hl, hb, k n ws p e ew h1 h2 (ex ▸ hs) hl hb r⟩⟩
/-- a check that is passed -/
theorem ChkQ.ok {K : PySem.W.Frag} {a : Ad} {H : Hp} {E : XK} {R : Nat → Prop} {n : Nat} (h1 : 1 ≤ n) (h2 : n ≤ 400) (r : R n) : ChkQ K a (.int n) H E R := ⟨_, .int _, .inr ⟨n, rfl, h1, h2, r⟩⟩
theorem ChkW.ok {K : PySem.W.Frag} {a : Ad} {H : Hp} {E : XK} {R : Nat → List Int → Addr → Prop} {n : Nat} {ws : List Int} {p : Addr} (h1 : 1 ≤ n) (h2 : n ≤ 400) (hs : SqA K H p (ws.map V.int)) (hl : ws.length ≤ 400) (hb : ∀ x ∈ ws, 1 ≤ x ∧ x ≤ n) (r : R n ws p) : ChkW K a (.int n) (.ref p) H E R :=
  ChkQ.ok h1 h2 (.inr ⟨p, _, rfl, hs, fun x hx => by
    obtain ⟨i, _, rfl⟩ := List.mem_map.mp hx
    exact ⟨_, .int i⟩, .inr ⟨ws, rfl, hl, hb, r⟩⟩)
theorem goodW_ints {n : Nat} {ws : List Int} : goodW n (ws.map V.int) = true ↔ ws.length ≤ 400 ∧ ∀ x ∈ ws, 1 ≤ x ∧ x ≤ n := by
  unfold goodW
  simp [inB]
theorem inB_int {lo hi : Int} {v : V} (h : inB lo hi v = true) : ∃ i, v = .int i ∧ lo ≤ i ∧ i ≤ hi := by
  cases v with
  | int i =>
    simp only [inB, Bool.and_eq_true, decide_eq_true_eq] at h
    exact ⟨i, rfl, h⟩
  | _ => cases h
theorem goodW_of {n : Nat} {xs : List V} (h : goodW n xs = true) : ∃ ws : List Int, xs = ws.map V.int ∧ ws.length ≤ 400 ∧ ∀ x ∈ ws, 1 ≤ x ∧ x ≤ n := by
  unfold goodW at h
  simp only [Bool.and_eq_true, decide_eq_true_eq, List.all_eq_true] at h
  obtain ⟨h1, h2⟩ := h
  have e : ∃ ws : List Int, xs = ws.map V.int := by
    clear h1
    induction xs with
    | nil => exact ⟨[], rfl⟩
    | cons x r ih =>
      obtain ⟨ws, e⟩ := ih fun y hy => h2 y (List.mem_cons_of_mem _ hy)
      obtain ⟨i, ei, _⟩ := inB_int (h2 x List.mem_cons_self)
      exact ⟨i :: ws, by rw [ei, e]; rfl⟩
  obtain ⟨ws, rfl⟩ := e
  refine ⟨ws, rfl, by simpa using h1, fun x hx => ?_⟩
  obtain ⟨i, ei, h3, h4⟩ := inB_int (h2 (.int x) (List.mem_map_of_mem hx))
  cases ei
  exact ⟨h3, h4⟩
theorem tyb_int {K : PySem.W.Frag} {H : Hp} {x : V} {T : String} (h : TyB K H x T) : decide (T = "int") = isInt x := by
  cases h <;> first | rfl | decide
theorem tyb_ref {K : PySem.W.Frag} {H : Hp} {x : V} {T : String} (h : TyB K H x T) (e : T = "list" ∨ T = "tuple") : ∃ p xs, x = .ref p ∧ SqA K H p xs := by
  cases h with
  | lst h => exact ⟨_, _, rfl, .inl h⟩
  | tup h => exact ⟨_, _, rfl, .inr h⟩
  | non => rcases e with e | e <;> exact absurd e (by decide)
  | bl => rcases e with e | e <;> exact absurd e (by decide)
  | int => rcases e with e | e <;> exact absurd e (by decide)
  | str => rcases e with e | e <;> exact absurd e (by decide)
  | byt => rcases e with e | e <;> exact absurd e (by decide)
  | dK => rcases e with e | e <;> exact absurd e (by decide)
theorem SqA.ty {K : PySem.W.Frag} {H : Hp} {p : Addr} {xs : List V} (h : SqA K H p xs) : ∃ T, TyB K H (.ref p) T ∧ (decide (T = "list") || decide (T = "tuple")) = true := by
  rcases h with h | h
  · exact ⟨_, .lst h, by decide⟩
  · exact ⟨_, .tup h, by decide⟩
/-! is_number, is_from_to, is_row -/
def sp_is_number (K : PySem.W.Frag) (a : Ad) : Sp := fun vs H Q _ => ∃ x T, vs = [x] ∧ TyB K H x T ∧ Q (.bl (isInt x)) H
abbrev N_is_number : List Str := ["thing"]
def t_is_number (K : PySem.W.Frag) (a : Ad) : TS :=
  (tRet (tOp rIsTyB (tCB (rTyp K) (tCons (tVar 0) tNil)) (tC (.ty "int"))))
theorem len_is_number {K : PySem.W.Frag} {a : Ad} {vs : List V} {H : Hp} {Q : VK} {E : XK} (h : sp_is_number K a vs H Q E) : vs.length = 1 := by
  obtain ⟨x, T, rfl, _⟩ := h
  rfl
theorem pu_is_number {K : PySem.W.Frag} {a : Ad} {vs : List V} {H : Hp} {Q : VK} {E : XK} (h : sp_is_number K a vs H Q E) : t_is_number K a { nx := fun _ H' => Q .non H', rt := Q } (start N_is_number vs) H := by
  obtain ⟨x, T, rfl, ty, q⟩ := h
  refine ⟨x, rfl, x, T, rfl, ty, _, _, rfl, rfl, ?_⟩
  rw [tyb_int ty]
  exact q
def sp_is_from_to (K : PySem.W.Frag) (a : Ad) : Sp := fun vs H Q _ => ∃ lo hi x T, vs = [.int lo, .int hi, x] ∧ TyB K H x T ∧ Q (.bl (inB lo hi x)) H
abbrev N_is_from_to : List Str := ["low", "high", "thing"]
def t_is_from_to (K : PySem.W.Frag) (a : Ad) : TS :=
  (tRet (tAndV (tCall (sp_is_number K a) [] E0 (tCons (tVar 2) tNil)) (tChain rLeI rLeI (tVar 0) (tVar 2) (tVar 1))))
theorem len_is_from_to {K : PySem.W.Frag} {a : Ad} {vs : List V} {H : Hp} {Q : VK} {E : XK} (h : sp_is_from_to K a vs H Q E) : vs.length = 3 := by
  obtain ⟨lo, hi, x, T, rfl, _⟩ := h
  rfl
theorem pu_is_from_to {K : PySem.W.Frag} {a : Ad} {vs : List V} {H : Hp} {Q : VK} {E : XK} (h : sp_is_from_to K a vs H Q E) : t_is_from_to K a { nx := fun _ H' => Q .non H', rt := Q } (start N_is_from_to vs) H := by
  obtain ⟨lo, hi, x, T, rfl, ty, q⟩ := h
  refine ⟨x, rfl, x, T, rfl, ty, isInt x, rfl, ?_⟩
  cases x with
  | int i =>
    refine iteT ⟨_, rfl, _, rfl, lo, i, rfl, rfl, _, rfl, ?_⟩
    by_cases h1 : lo ≤ i
    · rw [decide_eq_true h1]
      refine iteT ⟨_, rfl, i, hi, rfl, rfl, ?_⟩
      have e : inB lo hi (.int i) = decide (i ≤ hi) := by simp [inB, h1]
      rw [e] at q
      exact q
    · rw [decide_eq_false h1]
      have e : inB lo hi (.int i) = false := by simp [inB, h1]
      rw [e] at q
      exact iteF q
  | _ => exact iteF q
def sp_is_row (K : PySem.W.Frag) (a : Ad) : Sp := fun vs H Q _ => ∃ x T, vs = [x] ∧ TyB K H x T ∧ Q (.bl (decide (T = "list") || decide (T = "tuple"))) H
abbrev N_is_row : List Str := ["thing"]
def t_is_row (K : PySem.W.Frag) (a : Ad) : TS :=
  (tRet (tOrV (tOp rIsTyB (tCB (rTyp K) (tCons (tVar 0) tNil)) (tC (.ty "list"))) (tOp rIsTyB (tCB (rTyp K) (tCons (tVar 0) tNil)) (tC (.ty "tuple")))))
theorem len_is_row {K : PySem.W.Frag} {a : Ad} {vs : List V} {H : Hp} {Q : VK} {E : XK} (h : sp_is_row K a vs H Q E) : vs.length = 1 := by
  obtain ⟨x, T, rfl, _⟩ := h
  rfl
theorem pu_is_row {K : PySem.W.Frag} {a : Ad} {vs : List V} {H : Hp} {Q : VK} {E : XK} (h : sp_is_row K a vs H Q E) : t_is_row K a { nx := fun _ H' => Q .non H', rt := Q } (start N_is_row vs) H := by
  obtain ⟨x, T, rfl, ty, q⟩ := h
  refine ⟨x, rfl, x, T, rfl, ty, _, _, rfl, rfl, _, rfl, ?_⟩
  by_cases h1 : T = "list"
  · rw [decide_eq_true h1] at q ⊢
    exact iteT q
  · rw [decide_eq_false h1] at q ⊢
    exact iteF ⟨x, rfl, x, T, rfl, ty, _, _, rfl, rfl, q⟩
/-! check_quay, check_wishes -/
def sp_check_quay (K : PySem.W.Frag) (a : Ad) : Sp := fun vs H Q E => ∃ b, vs = [b] ∧ ChkQ K a b H E fun _ => Q .non H
abbrev N_check_quay : List Str := ["berths"]
def t_check_quay (K : PySem.W.Frag) (a : Ad) (E : XK) : TS :=
  (tIfS (tNot (tB (tCall (sp_is_from_to K a) [] E0 (tCons (tC (.int 1)) (tCons (tC (.int 400)) (tCons (tVar 0) tNil)))))) (tRaise a.e_NoQuay E) tNext)
theorem len_check_quay {K : PySem.W.Frag} {a : Ad} {vs : List V} {H : Hp} {Q : VK} {E : XK} (h : sp_check_quay K a vs H Q E) : vs.length = 1 := by
  obtain ⟨b, rfl, _⟩ := h
  rfl
theorem pu_check_quay {K : PySem.W.Frag} {a : Ad} {vs : List V} {H : Hp} {Q : VK} {E : XK} (h : sp_check_quay K a vs H Q E) : t_check_quay K a E { nx := fun _ H' => Q .non H', rt := Q } (start N_check_quay vs) H := by
  obtain ⟨b, rfl, T, ty, h⟩ := h
  refine ⟨b, rfl, 1, 400, b, T, rfl, ty, inB 1 400 b, rfl, ?_⟩
  rcases h with ⟨e, q⟩ | ⟨n, rfl, h1, h2, q⟩
  · rw [e]
    exact iteT q
  · have e : inB 1 400 (.int n) = true := by simp [inB]; omega
    rw [e]
    exact iteF q
def sp_check_wishes (K : PySem.W.Frag) (a : Ad) : Sp := fun vs H Q E => ∃ b w, vs = [b, w] ∧ ChkW K a b w H E fun _ _ _ => Q .non H
abbrev N_check_wishes : List Str := ["berths", "wishes", "wish"]
def t_check_wishes (K : PySem.W.Frag) (a : Ad) (E : XK) : TS :=
  (tSeq (tDrop (tCall (sp_check_quay K a) [] E (tCons (tVar 0) tNil)))
    (tSeq (tIfS (tNot (tB (tCall (sp_is_row K a) [] E0 (tCons (tVar 1) tNil)))) (tRaise a.e_NoWishes E) tNext)
    (tSeq (tIfS (tTest (tOp rGtI (tCB (rLenSq K) (tCons (tVar 1) tNil)) (tC (.int 400)))) (tRaise a.e_NoWishes E) tNext)
    (tFor (iSeq K (tVar 1)) (gName 2)
    (tIfS (tNot (tB (tCall (sp_is_from_to K a) [] E0 (tCons (tC (.int 1)) (tCons (tVar 0) (tCons (tVar 2) tNil)))))) (tRaise a.e_NoWishes E) tNext)))))
theorem len_check_wishes {K : PySem.W.Frag} {a : Ad} {vs : List V} {H : Hp} {Q : VK} {E : XK} (h : sp_check_wishes K a vs H Q E) : vs.length = 2 := by
  obtain ⟨b, w, rfl, _⟩ := h
  rfl
theorem pu_check_wishes {K : PySem.W.Frag} {a : Ad} {vs : List V} {H : Hp} {Q : VK} {E : XK} (h : sp_check_wishes K a vs H Q E) : t_check_wishes K a E { nx := fun _ H' => Q .non H', rt := Q } (start N_check_wishes vs) H := by
  obtain ⟨b, w, rfl, h⟩ := h
  refine ⟨b, rfl, b, rfl, ChkQ.imp h fun n e h1 h2 r => ?_⟩
  rcases r with ⟨T, ty, n1, n2, q⟩ | ⟨p, xs, rfl, hs, ht, r⟩
  · refine ⟨w, rfl, w, T, rfl, ty, _, rfl, ?_⟩
    rw [decide_eq_false n1, decide_eq_false n2]
    exact iteT q
  · obtain ⟨T, ty, eT⟩ := hs.ty
    refine ⟨.ref p, rfl, .ref p, T, rfl, ty, _, rfl, ?_⟩
    rw [eT]
    refine iteF ⟨.ref p, rfl, p, xs, rfl, hs, _, _, rfl, rfl, _, rfl, ?_⟩
    have done : (goodW n xs = false → E (.ref a.e_NoWishes) none H) ∧ (goodW n xs = true → Q .non H) := by
      rcases r with ⟨g, q⟩ | ⟨ws, ex, hl, hb, q⟩
      · exact ⟨fun _ => q, fun g' => by rw [g] at g'; cases g'⟩
      · have g : goodW n xs = true := by rw [ex]; exact goodW_ints.mpr ⟨hl, hb⟩
        exact ⟨fun g' => (by rw [g] at g'; cases g'), fun _ => q⟩
    by_cases hl : xs.length ≤ 400
    · rw [decide_eq_false (show ¬ ((400 : Int) < (xs.length : Int)) by omega)]
      refine iteF (for_seq (K := K) (H0 := H) (fun Q q => ⟨.ref p, rfl, q⟩) hs (fun i σ H' => H' = H ∧ (xs.take i).all (inB 1 n) = true ∧ ∃ y, σ = [some b, some (.ref p), y]) ⟨rfl, rfl, none, rfl⟩ (fun i σ H' e => by rw [e.1]; exact Same.refl H) ?_ ?_)
      · rintro i x σ H' hx ⟨rfl, ha, y, rfl⟩
        obtain ⟨T, ty⟩ := ht x (List.mem_of_getElem? hx)
        refine ⟨b, rfl, x, rfl, 1, n, x, T, by rw [e] <;> rfl, ty, inB 1 n x, rfl, ?_⟩
        cases g : inB 1 n x with
        | true => exact iteF ⟨rfl, by rw [take_more hx, List.all_append, ha]; simp [g], some x, rfl⟩
        | false =>
          refine iteT (done.1 ?_)
          unfold goodW
          have : xs.all (inB 1 n) = false := by
            cases z : xs.all (inB 1 n) with
            | false => rfl
            | true =>
              rw [List.all_eq_true] at z
              rw [z x (List.mem_of_getElem? hx)] at g
              cases g
          rw [this, Bool.and_false]
      · rintro σ H' ⟨rfl, ha, y, rfl⟩
        rw [List.take_length] at ha
        refine done.2 ?_
        unfold goodW
        rw [ha, decide_eq_true hl]
        rfl
    · rw [decide_eq_true (show (400 : Int) < (xs.length : Int) by omega)]
      refine iteT (done.1 ?_)
      unfold goodW
      rw [decide_eq_false hl]
      rfl

/-! ### the straight quay: the mathematics of laying -/
/-- the first free one of k berths from w on -/
def ffr (occ : Int → Bool) : Nat → Int → Option Int
  | 0, _ => none
  | k + 1, w => if occ w = true then ffr occ k (w + 1) else some w
def ffree (n : Nat) (occ : Int → Bool) (w : Int) : Option Int := ffr occ ((n : Int) + 1 - w).toNat w
def setO (occ : Int → Bool) (b : Int) : Int → Bool := fun x => decide (x = b) || occ x
def pstep (n : Nat) (s : (Int → Bool) × List (Option Int)) (w : Int) : (Int → Bool) × List (Option Int) :=
  match ffree n s.1 w with
  | none => (s.1, s.2 ++ [none])
  | some b => (setO s.1 b, s.2 ++ [some b])
def prun (n : Nat) (ws : List Int) : (Int → Bool) × List (Option Int) := ws.foldl (pstep n) (fun _ => false, [])
def placedL (n : Nat) (ws : List Int) : List (Option Int) := (prun n ws).2
def vO : Option Int → V
  | none => .non
  | some b => .int b
def heldL (n : Nat) (occ : Int → Bool) : List V := (List.range (n + 1)).map fun (i : Nat) => V.bl (occ (i : Int))
theorem ffr_spec {occ : Int → Bool} : ∀ (k : Nat) (w : Int), (∀ b, ffr occ k w = some b → w ≤ b ∧ b < w + k ∧ occ b = false ∧ ∀ x, w ≤ x → x < b → occ x = true) ∧ (ffr occ k w = none → ∀ x, w ≤ x → x < w + k → occ x = true)
  | 0, w => ⟨fun b h => (by cases h), fun _ x h1 h2 => by omega⟩
  | k + 1, w => by
    obtain ⟨i1, i2⟩ := ffr_spec (occ := occ) k (w + 1)
    unfold ffr
    cases e : occ w with
    | true =>
      rw [if_pos rfl]
      refine ⟨fun b h => ?_, fun h x h1 h2 => ?_⟩
      · obtain ⟨j1, j2, j3, j4⟩ := i1 b h
        refine ⟨by omega, by omega, j3, fun x h1 h2 => ?_⟩
        by_cases z : x = w
        · rw [z]; exact e
        · exact j4 x (by omega) h2
      · by_cases z : x = w
        · rw [z]; exact e
        · exact i2 h x (by omega) (by omega)
    | false =>
      rw [if_neg Bool.false_ne_true]
      refine ⟨fun b h => ?_, fun h => (by cases h)⟩
      cases h
      exact ⟨Int.le_refl _, by omega, e, fun x h1 h2 => by omega⟩
theorem ffree_some {n : Nat} {occ : Int → Bool} {w b : Int} (h : ffree n occ w = some b) : w ≤ b ∧ b ≤ n ∧ occ b = false ∧ ∀ x, w ≤ x → x < b → occ x = true := by
  obtain ⟨h1, h2, h3, h4⟩ := (ffr_spec _ _).1 b h
  exact ⟨h1, by omega, h3, h4⟩
theorem ffree_none {n : Nat} {occ : Int → Bool} {w : Int} (h : ffree n occ w = none) : ∀ x, w ≤ x → x ≤ n → occ x = true := fun x h1 h2 => (ffr_spec _ _).2 h x h1 (by omega)
theorem prun_more {n : Nat} {ws : List Int} {i : Nat} {w : Int} (h : ws[i]? = some w) : prun n (ws.take (i + 1)) = pstep n (prun n (ws.take i)) w := by
  unfold prun
  rw [take_more h, List.foldl_append]
  rfl
theorem prun_snoc {n : Nat} {ws : List Int} {w : Int} : prun n (ws ++ [w]) = pstep n (prun n ws) w := by
  unfold prun
  rw [List.foldl_append]
  rfl
theorem pstep_len {n : Nat} {s : (Int → Bool) × List (Option Int)} {w : Int} : (pstep n s w).2.length = s.2.length + 1 := by
  unfold pstep
  cases ffree n s.1 w <;> simp
theorem snoc_ind {α : Type} {p : List α → Prop} (h0 : p []) (h1 : ∀ l x, p l → p (l ++ [x])) : ∀ l, p l := fun l => by
  have : ∀ n, ∀ l : List α, l.length = n → p l := by
    intro n
    induction n with
    | zero => intro l h; rw [List.length_eq_zero_iff.mp h]; exact h0
    | succ n ih =>
      intro l h
      have hne : l ≠ [] := fun z => by rw [z] at h; cases h
      rw [← List.dropLast_concat_getLast hne]
      exact h1 _ _ (ih _ (by rw [List.length_dropLast, h]; rfl))
  exact this _ l rfl
theorem prun_len {n : Nat} : ∀ ws : List Int, (prun n ws).2.length = ws.length := snoc_ind rfl fun ws w ih => by
  rw [prun_snoc, pstep_len, ih]
  simp
theorem placedL_len {n : Nat} {ws : List Int} : (placedL n ws).length = ws.length := prun_len ws
theorem heldL_at {n : Nat} {occ : Int → Bool} {i : Nat} (h : i ≤ n) : (heldL n occ)[i]? = some (.bl (occ (i : Int))) := by
  unfold heldL
  rw [List.getElem?_map, List.getElem?_range (by omega)]
  rfl
theorem heldL_len {n : Nat} {occ : Int → Bool} : (heldL n occ).length = n + 1 := by simp [heldL]
theorem heldL_set {n : Nat} {occ : Int → Bool} {b : Int} (h0 : 0 ≤ b) (h : b ≤ n) : (heldL n occ).set b.toNat (.bl true) = heldL n (setO occ b) := by
  apply List.ext_getElem?
  intro i
  by_cases hi : i ≤ n
  · rw [heldL_at hi]
    by_cases e : i = b.toNat
    · subst e
      rw [List.getElem?_set_self (by rw [heldL_len]; omega)]
      have : ((b.toNat : Nat) : Int) = b := by omega
      simp [setO, this]
    · rw [List.getElem?_set_ne (Ne.symm e), heldL_at hi]
      have : ¬ ((i : Nat) : Int) = b := by omega
      simp [setO, this]
  · rw [List.getElem?_eq_none (show ((heldL n occ).set b.toNat (V.bl true)).length ≤ i by rw [List.length_set, heldL_len]; omega), List.getElem?_eq_none (show (heldL n (setO occ b)).length ≤ i by rw [heldL_len]; omega)]
theorem heldL_new {n : Nat} : (List.replicate (n + 1) [V.bl false]).flatten = heldL n (fun _ => false) := by
  apply List.ext_getElem?
  intro i
  have e : (List.replicate (n + 1) [V.bl false]).flatten = List.replicate (n + 1) (V.bl false) := by
    generalize n + 1 = m
    induction m with
    | zero => rfl
    | succ m ih => rw [List.replicate_succ, List.replicate_succ, List.flatten_cons, ih]; rfl
  rw [e]
  by_cases hi : i ≤ n
  · rw [heldL_at hi, List.getElem?_replicate_of_lt (by omega)]
  · rw [List.getElem?_eq_none (show (List.replicate (n + 1) (V.bl false)).length ≤ i by rw [List.length_replicate]; omega), List.getElem?_eq_none (show (heldL n fun _ => false).length ≤ i by rw [heldL_len]; omega)]
theorem l1000 {n : Nat} (h : n ≤ 1000) : n ≤ sizeLine := Nat.le_of_lt (small1000 h)
/-! ### first_free -/
/-! ### placed -/
/-! ### taken, gone_on -/
def somes (l : List (Option Int)) : List Int := l.filterMap id
def sortI (l : List Int) : List Int := l.mergeSort fun x y => decide (x ≤ y)
theorem sortI_perm (l : List Int) : (sortI l).Perm l := List.mergeSort_perm l _
theorem sortI_sorted (l : List Int) : (sortI l).Pairwise (· ≤ ·) := by
  have h := List.pairwise_mergeSort (le := fun (x y : Int) => decide (x ≤ y)) (fun a b c h1 h2 => by simp only [decide_eq_true_eq] at *; omega) (fun a b => by simp only [Bool.or_eq_true, decide_eq_true_eq]; omega) l
  exact List.Pairwise.imp (fun h => of_decide_eq_true h) h
theorem sortI_uniq {l l' : List Int} (hp : l'.Perm l) (hs : l'.Pairwise (· ≤ ·)) : l' = sortI l := PySem.W.ksm_same (hp.trans (sortI_perm l).symm) hs (sortI_sorted l)
def takenL (n : Nat) (ws : List Int) : List Int := sortI (somes (placedL n ws))
/-- of each ship that lies, how far behind its wish -/
def goneL (ws : List Int) (bs : List (Option Int)) : List Int := (ws.zip bs).filterMap fun p => p.2.map fun b => b - p.1
theorem filter_some : ∀ l : List (Option Int), (l.filter Option.isSome).map vO = (somes l).map V.int
  | [] => rfl
  | none :: l => filter_some l
  | some b :: l => congrArg (V.int b :: ·) (filter_some l)
theorem vO_not (o : Option Int) : (!decide (vO o = .non)) = o.isSome := by
  cases o <;> rfl
theorem zip_gone : ∀ (ws : List Int) (bs : List (Option Int)), ((ws.zip bs).filter fun p => p.2.isSome).map (fun p => V.int ((p.2.getD 0) - p.1)) = (goneL ws bs).map V.int
  | [], _ => by simp [goneL]
  | _ :: _, [] => by simp [goneL]
  | w :: ws, none :: bs => by
    have ih := zip_gone ws bs
    simp only [List.zip_cons_cons, goneL] at ih ⊢
    simpa using ih
  | w :: ws, some b :: bs => by
    have ih := zip_gone ws bs
    simp only [List.zip_cons_cons, goneL] at ih ⊢
    simpa using ih
theorem zip_at {ws : List Int} {bs : List (Option Int)} {i : Nat} {x : Int × Option Int} (h : (ws.zip bs)[i]? = some x) : ws[i]? = some x.1 ∧ bs[i]? = some x.2 := by
  rw [List.getElem?_zip_eq_some] at h
  exact h
/-! ### tuple * k, k of nought and one, too; tuple(range(a, b, -1)), list(range(a, b, -1)) -/
theorem tuple_mulS (l : Addr) (items : Array Value) (n : Nat) (dd : Option Addr) (sl : Array (Option Value)) (u : Tok) :
    Meets (Builtin.«tuple.__mul__» ⟨[.ref l, .int 1 u], []⟩) (fun _ R s => s.heap.get? l = some { cls := .type "tuple", dict := dd, data := .seq items n, slots := sl } ∧ R (.ok (.ret (.ref l))) s) :=
  .of_wp fun prog w A R s h => by
    obtain ⟨hp, g, d, tk, os⟩ := s
    obtain ⟨hl, h⟩ := h
    have f1 := AutoSeq1.idx_int
    wp_walk using wpAny_loadPart' hl
    repeat (first
      | (refine wpAny_ite_false (by decide) ?_; wp_walk using wpAny_loadPart' hl)
      | (refine wpAny_ite_true (by simp) ?_; wp_walk using wpAny_loadPart' hl))
    exact ⟨_, rfl, h⟩
theorem tuple_mulZ (l : Addr) (items : Array Value) (n : Nat) (dd : Option Addr) (sl : Array (Option Value)) (x : Int) (u : Tok) (c0 : (decide (x < -(2 ^ 63)) || decide (x ≥ 2 ^ 63)) = false) (c1 : (items.isEmpty || x == 1) = false) (c2 : (decide (x ≤ 0) || items.isEmpty) = true) :
    Meets (Builtin.«tuple.__mul__» ⟨[.ref l, .int x u], []⟩) (fun _ R s => s.heap.get? l = some { cls := .type "tuple", dict := dd, data := .seq items n, slots := sl } ∧
      R (.ok (.ret (Value.ref s.heap.objs.size))) { s with heap := s.heap.push { cls := Value.type "tuple", data := Data.seq #[] }, toks := s.toks }) :=
  .of_wp fun prog w A R s h => by
    obtain ⟨hp, g, d, tk, os⟩ := s
    obtain ⟨hl, h⟩ := h
    have f1 := AutoSeq1.idx_int
    wp_walk using wpAny_loadPart' hl
    repeat (first
      | (refine wpAny_ite_false (decide_eq_false (by rw [c0]; exact Bool.false_ne_true)) ?_; wp_walk using wpAny_loadPart' hl)
      | (refine wpAny_ite_false (decide_eq_false (by rw [c1]; exact Bool.false_ne_true)) ?_; wp_walk using wpAny_loadPart' hl)
      | (refine wpAny_ite_true (decide_eq_true c2) ?_; wp_walk using wpAny_loadPart' hl))
    exact ⟨_, rfl, h⟩
def rRepTA (K : PySem.W.Frag) : R2 := fun x y H Q => ∃ l k xs, x = .ref l ∧ y = .int k ∧ SqT K H l xs ∧ xs ≠ [] ∧ 0 ≤ k ∧ k ≤ 1000 ∧ xs.length ≤ 1000 ∧ (k = 1 → Q (.ref l) H) ∧ (k ≠ 1 → ∀ p, H p = none → Q (.ref p) (upd H p (.tup (List.replicate k.toNat xs).flatten)))
section
variable {X : Cx}
theorem op_repTA : OpR X (binaryOp .Mult) (rRepTA X.K) := by
  intro pins s σ H x y v u Q I rx ry h
  obtain ⟨l, k, xs, rfl, rfl, hT, hne, h1, h2, hz, q1, q2⟩ := h
  by_cases hk : 2 ≤ k
  · exact op_repT pins s σ H _ _ v u Q I rx ry ⟨l, k, xs, rfl, rfl, hT, hne, hk, h2, hz, q2 (by omega)⟩
  cases rx
  obtain ⟨t, rfl⟩ := ry
  obtain ⟨its, r, ⟨⟨cls, dd, data, sl⟩, ho, hc, n, hd⟩, hs⟩ := I.tuple hT
  simp only at hc hd
  subst hc hd
  have hle : its.length = xs.length := r.length.symm
  have hn : its ≠ [] := fun e => hne (by
    rw [e] at hle
    exact List.eq_nil_of_length_eq_zero hle.symm)
  have hi : its.toArray.isEmpty = false := by
    cases its with
    | nil => exact absurd rfl hn
    | cons a b => rfl
  by_cases h1k : k = 1
  · subst h1k
    refine wpAny_binaryOp_repeat_ref (T := "tuple") (U := "int") (by decide) ⟨_, ho, rfl⟩ (fun s' => typeIs_int s' 1 t) noFill_tuple_mul F.fills_int_mul F.slot_int_rmul repeat_tuple F.slot_int_index.lookup
      (call_meets F.slot_int_rmul (typeIs_int s 1 t) F.entry_int_rmul (F.args_int_rmul_2 _ _) (int_rmul_tuple 1 t l its.toArray n dd sl)
        ⟨ho, rfl, ⟨_, ho, rfl⟩, call_meets F.slot_tuple_mul ⟨_, ho, rfl⟩ F.entry_tuple_mul (F.args_tuple_mul_2 _ _) (tuple_mulS l its.toArray n dd sl t) ⟨ho, ?_⟩⟩)
    exact ⟨.ref l, H, I, rfl, q1 rfl⟩
  · have hk0 : k = 0 := by omega
    subst hk0
    have c0 : (decide ((0 : Int) < -(2 ^ 63)) || decide ((0 : Int) ≥ 2 ^ 63)) = false := by decide
    have c1 : (its.toArray.isEmpty || (0 : Int) == 1) = false := by
      rw [hi]
      rfl
    have c2 : (decide ((0 : Int) ≤ 0) || its.toArray.isEmpty) = true := by
      rw [hi]
      rfl
    refine wpAny_binaryOp_repeat_ref (T := "tuple") (U := "int") (by decide) ⟨_, ho, rfl⟩ (fun s' => typeIs_int s' 0 t) noFill_tuple_mul F.fills_int_mul F.slot_int_rmul repeat_tuple F.slot_int_index.lookup
      (call_meets F.slot_int_rmul (typeIs_int s 0 t) F.entry_int_rmul (F.args_int_rmul_2 _ _) (int_rmul_tuple 0 t l its.toArray n dd sl)
        ⟨ho, rfl, ⟨_, ho, rfl⟩, call_meets F.slot_tuple_mul ⟨_, ho, rfl⟩ F.entry_tuple_mul (F.args_tuple_mul_2 _ _) (tuple_mulZ l its.toArray n dd sl 0 t c0 c1 c2) ⟨ho, ?_⟩⟩)
    refine ⟨.ref s.heap.objs.size, _, I.laid (t' := s.toks) (o := .tup []) (fun b ob q => Heap.get?_push_of_some _ q) (Nat.le_refl _) ?_, rfl, q2 h1k _ (I.hok.fresh (Nat.le_refl _))⟩
    exact ⟨Nat.zero_le _, [], .nil, IsTup.new _ _⟩
/-- a, a - 1 .. b + 1 -/
def rgD (a b : Int) : List V := (List.range (a - b).toNat).map fun i => V.int (a - (i : Nat))
theorem rgD_length (a b : Int) : (rgD a b).length = (a - b).toNat := by unfold rgD; rw [List.length_map, List.length_range]
theorem vals_rgD {a b : Int} {acc : Array Value} (h : ItemsOf (fun i v => ∃ t, v = .int (a + i * -1) t) acc (a - b).toNat) : Vals (rgD a b) acc.toList := by
  have e : acc.toList.length = (a - b).toNat := by rw [Array.length_toList]; exact h.1
  unfold rgD
  rw [← e]
  refine vals_of_get acc.toList _ fun j u hj => ?_
  obtain ⟨t, rfl⟩ := h.2 j u (by rw [← hj, Array.getElem?_toList])
  exact ⟨t, by congr 1; omega⟩
/-- an expression that makes a range downwards -/
def PRgD (X : Cx) (e : Expr) (t : L2.St → Hp → (Int → Int → Hp → Prop) → Prop) : Prop :=
  ∀ (pins : List (Addr × Obj)) (s : Shared) (σ : L2.St) (H : Hp) (Q : Int → Int → Hp → Prop), Inv X pins σ H s → t σ H Q →
    wpAny (model X.prog X.w) X.A (eval e X.env) (fun x s' => ∃ r a b t u v H', x = .ref r ∧ IsRange s'.heap r a b (-1) t u v ∧ Inv X pins σ H' s' ∧ Q a b H') X.xe s
def tRg3D (t : TA) : L2.St → Hp → (Int → Int → Hp → Prop) → Prop := fun σ H Q => t σ H fun xs H1 => ∃ i j, xs = [.int i, .int j, .int (-1)] ∧ Q i j H1
theorem prg_3D {e : Expr} {es : List Expr} {t : TA} {p pos : Pos} (hg : Gl X "range") (hm : X.mg "range" = none) (ha : PA X (e :: es) t)
    (he : starEach (e :: es) X.env = (false, eval e X.env) :: starEach es X.env := by rfl) (hpl : (backTo pos (starEach es X.env)).any (·.1) = false := by rfl) : PRgD X (.Call (.Name "range" p) (e :: es) [] pos) (tRg3D t) := by
  intro pins s σ H Q I h
  refine wpAny_Call_Name_kw (ld_blt I hg hm boot_range ?_)
  refine PyProof.Rows.callWith_type1 (thn (ha.run pos pins s σ H _ I h) fun us s1 ⟨vs, H1, I1, r1, q1⟩ => ?_) he hpl
  obtain ⟨i, j, rfl, q⟩ := q1
  obtain ⟨u1, us1, rfl, r2, r3⟩ : ∃ u1 us1, us = u1 :: us1 ∧ RelV (.int i) u1 ∧ Vals [.int j, .int (-1)] us1 := by cases r1 with | cons a b => exact ⟨_, _, rfl, a, b⟩
  obtain ⟨u2, u3, rfl, r4, r5⟩ := vals2 r3
  obtain ⟨t1, rfl⟩ := r2
  obtain ⟨t2, rfl⟩ := r4
  obtain ⟨t3, rfl⟩ := r5
  exact call_range_3 (by decide) ⟨_, i, j, _, _, _, H1, rfl, IsRange.new _ _ _ _ _ _ _, I1.kept fun b u e => Heap.get?_push_of_some _ e, q⟩ (.inl (PyProof.noPylong_small (by decide)))
def tLstRg3 (t : TA) : TE := fun σ H Q => tRg3D t σ H fun a b H1 => RgOk b a ∧ ∀ q, H1 q = none → Q (.ref q) (upd H1 q (.lst (rgD a b)))
def tTupRg3 (t : TA) : TE := fun σ H Q => tRg3D t σ H fun a b H1 => RgOk b a ∧ ∀ q, H1 q = none → Q (.ref q) (upd H1 q (.tup (rgD a b)))
theorem pe_listRg3 {e : Expr} {es : List Expr} {t : TA} {p2 pos2 p pos : Pos} (hc : X.calm = true) (hg : Gl X "list") (hm : X.mg "list" = none) (hg2 : Gl X "range") (hm2 : X.mg "range" = none) (ha : PA X (e :: es) t)
    (he : starEach (e :: es) X.env = (false, eval e X.env) :: starEach es X.env := by rfl) (hpl : (backTo pos2 (starEach es X.env)).any (·.1) = false := by rfl)
    (na : starEach [.Call (.Name "range" p2) (e :: es) [] pos2] X.env = (false, eval (.Call (.Name "range" p2) (e :: es) [] pos2) X.env) :: starEach [] X.env := by rfl) : PE X (.Call (.Name "list" p) [.Call (.Name "range" p2) (e :: es) [] pos2] [] pos) (tLstRg3 t) := by
  refine ⟨fun pins s σ H Q I h => ?_⟩
  refine Call_ (ld_blt I hg hm boot_list (PyProof.Rows.callWith_type1 (args_cons (thn (prg_3D hg2 hm2 ha he hpl pins s σ H _ I h) fun x s1 ⟨r, a, b, t, u, v, H1, ex, hr, I1, ok, q⟩ => args_nil ?_) na) na))
  subst ex
  obtain ⟨b1, b2, b3, b4, b5⟩ := ok
  refine call_list_range (n := (a - b).toNat) (I1.ok.hd hc) hr (PySem.W.small_down b3 b4 b1 b2) (PySem.W.rangeSize_downNat a b) b5 fun h' tk acc c' hk e' hi => ?_
  refine ⟨.ref s1.heap.objs.size, upd H1 s1.heap.objs.size (.lst (rgD a b)), I1.laid hk (Nat.le_refl _) (show ObjOk X.prog X.w _ _ _ (.lst (rgD a b)) from ⟨?_, acc.toList, c', vals_rgD hi, ?_⟩), rfl, q _ (I1.hok.fresh (Nat.le_refl _))⟩
  · rw [rgD_length, sizeLine_eq]; omega
  · rw [Array.toArray_toList]; exact e'
theorem pe_tupRg3 {e : Expr} {es : List Expr} {t : TA} {p2 pos2 p pos : Pos} (hc : X.calm = true) (hg : Gl X "tuple") (hm : X.mg "tuple" = none) (hg2 : Gl X "range") (hm2 : X.mg "range" = none) (ha : PA X (e :: es) t)
    (he : starEach (e :: es) X.env = (false, eval e X.env) :: starEach es X.env := by rfl) (hpl : (backTo pos2 (starEach es X.env)).any (·.1) = false := by rfl)
    (na : starEach [.Call (.Name "range" p2) (e :: es) [] pos2] X.env = (false, eval (.Call (.Name "range" p2) (e :: es) [] pos2) X.env) :: starEach [] X.env := by rfl) : PE X (.Call (.Name "tuple" p) [.Call (.Name "range" p2) (e :: es) [] pos2] [] pos) (tTupRg3 t) := by
  refine ⟨fun pins s σ H Q I h => ?_⟩
  refine Call_ (ld_blt I hg hm boot_tuple (PyProof.Rows.callWith_type1 (args_cons (thn (prg_3D hg2 hm2 ha he hpl pins s σ H _ I h) fun x s1 ⟨r, a, b, t, u, v, H1, ex, hr, I1, ok, q⟩ => args_nil ?_) na) na))
  subst ex
  obtain ⟨b1, b2, b3, b4, b5⟩ := ok
  refine call_tuple_range (n := (a - b).toNat) (I1.ok.hd hc) hr (PySem.W.small_down b3 b4 b1 b2) (PySem.W.rangeSize_downNat a b) b5 fun h' tk acc hk hi => ?_
  have I2 : Inv X pins σ H1 { s1 with heap := h', toks := tk } := I1.kept hk
  refine ⟨.ref h'.objs.size, upd H1 h'.objs.size (.tup (rgD a b)), I2.laid (t' := tk) (fun c o e => Heap.get?_push_of_some _ e) (Nat.le_refl _) (show ObjOk X.prog X.w _ _ _ (.tup (rgD a b)) from ⟨?_, acc.toList, vals_rgD hi, ?_⟩), rfl, q _ (I2.hok.fresh (Nat.le_refl _))⟩
  · rw [rgD_length, sizeLine_eq]; omega
  · rw [Array.toArray_toList]; exact IsTup.new _ _
end

/-! ### list + list, whatever lists -/
theorem list_addW (l : Addr) (items : Array Value) (n : Nat) (dd : Option Addr) (sl : Array (Option Value)) (b : Addr) (items2 : Array Value) (n2 : Nat) (dd2 : Option Addr) (sl2 : Array (Option Value)) (hc0 : items.size + items2.size ≤ sizeLine) :
    Meets (Builtin.«list.__add__» ⟨[.ref l, .ref b], []⟩) (fun _ R s => s.heap.get? l = some { cls := .type "list", dict := dd, data := .seq items n, slots := sl } ∧ s.heap.get? b = some { cls := .type "list", dict := dd2, data := .seq items2 n2, slots := sl2 } ∧
      R (.ok (.ret (Value.ref s.heap.objs.size))) { s with heap := s.heap.push { cls := Value.type "list", data := Data.seq (items ++ items2) }, toks := s.toks }) :=
  .of_wp fun prog w A R s h => by
    obtain ⟨hp, g, d, tk, os⟩ := s
    obtain ⟨hl, hb, h⟩ := h
    have f1 := AutoSeq1.idx_int
    have f2 := AutoSeq1.sub_tuple_tuple
    have f3 := AutoSeq1.sub_list_list
    have f4 := AutoSeq1.sub_tuple_list
    have f5 := AutoSeq1.sub_list_tuple
    wp_walk using wpAny_loadPart' hl, wpAny_loadPart' hb
    exact ⟨_, rfl, h⟩
def rCatS (K : PySem.W.Frag) : R2 := fun x y H Q => ∃ l b xs zs, x = .ref l ∧ y = .ref b ∧ SqL K H l xs ∧ SqL K H b zs ∧ xs.length + zs.length ≤ sizeLine ∧ ∀ p, H p = none → Q (.ref p) (upd H p (.lst (xs ++ zs)))
theorem op_catS {X : Cx} : OpR X (binaryOp .Add) (rCatS X.K) := by
  intro pins s σ H x y v u Q I rx ry h
  obtain ⟨l, b, xs, zs, rfl, rfl, hH, hB, hz, q⟩ := h
  cases rx
  cases ry
  obtain ⟨its, r, ⟨⟨c1, d1, t1, sl1⟩, n, e, g1, g2, g3⟩, z⟩ := I.list hH
  obtain ⟨its2, r2, ⟨⟨c2, d2, t2, sl2⟩, n2, e2, k1, k2, k3⟩, z2⟩ := I.list hB
  simp only at g1 g2 g3 k1 k2 k3
  subst g1 g2 g3 k1 k2 k3
  have h1 := r.length
  have h2 := r2.length
  refine concat_meets ⟨_, e, rfl⟩ ⟨_, e2, rfl⟩ noFill_list_add seq_list_add F.slot_list_add F.entry_list_add (F.args_list_add_2 _ _) (list_addW l its.toArray n none sl1 b its2.toArray n2 none sl2 (by rw [List.size_toArray, List.size_toArray]; omega)) ⟨e, e2, ?_⟩
  have ea : its.toArray ++ its2.toArray = (its ++ its2).toArray := by simp
  rw [ea]
  exact ⟨.ref _, _, I.lnew (t' := s.toks) (r.append r2) (by rw [List.length_append]; omega), rfl, q _ I.fresh⟩

/-! ### sorted, min, max of a tuple of whole numbers; slices, sums of tuples with one answer -/
def rSortedT (K : PySem.W.Frag) : List V → Hp → VK → Prop := fun vs H Q => ∃ (a : Addr) (ns : List Int), vs = [V.ref a] ∧ SqT K H a (ns.map V.int) ∧
  ∀ (ns' : List Int) (p : Addr), ns'.Perm ns → ns'.Pairwise (· ≤ ·) → H p = none → Q (.ref p) (upd H p (.lst (ns'.map V.int)))
def rMinT (K : PySem.W.Frag) : List V → Hp → VK → Prop := fun vs H Q => ∃ (a : Addr) (ns : List Int), vs = [V.ref a] ∧ SqT K H a (ns.map V.int) ∧ 0 < ns.length ∧ ∀ m, m ∈ ns → (∀ y, y ∈ ns → m ≤ y) → Q (.int m) H
def rMaxT (K : PySem.W.Frag) : List V → Hp → VK → Prop := fun vs H Q => ∃ (a : Addr) (ns : List Int), vs = [V.ref a] ∧ SqT K H a (ns.map V.int) ∧ 0 < ns.length ∧ ∀ m, m ∈ ns → (∀ y, y ∈ ns → y ≤ m) → Q (.int m) H
theorem maxOf_int : ∀ (ys : List Int) (y : Int), PySem.W.maxOf y ys ∈ y :: ys ∧ ∀ z ∈ y :: ys, z ≤ PySem.W.maxOf y ys
  | [], y => ⟨List.mem_singleton.mpr rfl, fun z hz => by rw [List.mem_singleton.mp hz]; exact Int.le_refl _⟩
  | x :: r, y => by
    have e : PySem.W.maxOf y (x :: r) = PySem.W.maxOf (if y < x then x else y) r := by
      show PySem.W.maxOf (if (decide (y < x)) = true then x else y) r = _
      by_cases h : y < x <;> simp [h]
    obtain ⟨h1, h2⟩ := maxOf_int r (if y < x then x else y)
    rw [e]
    refine ⟨?_, fun z hz => ?_⟩
    · rcases List.mem_cons.mp h1 with k | k
      · rw [k]
        by_cases h : y < x <;> simp [h]
      · simp [k]
    · have hc := h2 _ (List.mem_cons_self)
      rcases List.mem_cons.mp hz with k | k
      · subst k
        by_cases h : z < x
        · rw [if_pos h] at hc ⊢
          omega
        · rw [if_neg h] at hc ⊢
          exact hc
      · rcases List.mem_cons.mp k with k | k
        · subst k
          by_cases h : y < z
          · rw [if_pos h] at hc ⊢
            exact hc
          · rw [if_neg h] at hc ⊢
            omega
        · exact h2 z (List.mem_cons_of_mem _ k)
section
variable {X : Cx}
theorem cr_sortedT : CallR X (.builtin "sorted") (rSortedT X.K) := by
  intro pins s σ H vs us Q I r h
  obtain ⟨a, ns, rfl, hs, q⟩ := h
  obtain ⟨its, rv, ⟨o, ho, hc, n, hd⟩, hz⟩ := I.tuple hs
  rw [Vals.ref1 r]
  have hi := rv.ints
  have hlen0 : its.length ≤ sizeLine := by rw [← rv.length]; exact hz
  refine Calls.call_function_entry kind_sorted plain_sorted entry_sorted (args_sorted1 _) ?_
  unfold Builtin.«sorted»
  refine wpAny_bind (m := checkCount "sorted" 1 1 _) (wpAny_pure ?_)
  refine wpAny_bind (wpAny_collect_seq a (.inr rfl) ho hc hd (fun h1 k1 => ?_) (by rw [List.size_toArray]; exact hlen0))
  have I1 : Inv X pins σ H { s with heap := h1 } := I.kept (t' := s.toks) k1
  refine wpAny_bind (wpAny_newList ?_ hlen0)
  have hoL : (h1.push (seqObj "list" its.toArray 0)).get? h1.objs.size = some (seqObj "list" its.toArray 0) := Heap.get?_push_size _ rfl
  refine wpAny_bind (wpAny_holding (wpAny_call_entry slot_list_sort ⟨_, hoL, rfl⟩ entry_list_sort (SrtO.list_sort_ord SrtO.swo_int hoL hlen0 (fun h2 => SrtO.ints_sortable hi h2) fun out h3 h4 => ⟨_, rfl, ?_⟩) (args_list_sort _)))
  obtain ⟨j1, j2, j3⟩ := SrtO.ints_out hi h3 h4
  obtain ⟨ep, he'⟩ := PyProof.Rows.sortedHeap_at (vs := its) (out := out.toArray) hoL
  have hlen : ((out.map SrtO.iv).map V.int).length ≤ sizeLine := by
    rw [List.length_map, j2.length_eq]
    rw [List.length_map] at hz
    exact hz
  refine wpAny_pure ⟨_, rfl, ?_⟩
  refine ⟨.ref h1.objs.size, upd H h1.objs.size (.lst ((out.map SrtO.iv).map V.int)), I1.laid (t' := s.toks) (fun b u hb => ?_) (Nat.le_refl _) ⟨hlen, out, ep, vals_of_ints j1, he'⟩, rfl, q _ _ j2 j3 (I1.hok.fresh (Nat.le_refl _))⟩
  have hlt : b < h1.objs.size := Heap.lt_size hb
  rw [PyProof.Rows.sortedHeap_old (Nat.ne_of_lt hlt) (Heap.lt_size (Heap.get?_push_of_some _ hb))]
  exact Heap.get?_push_of_some _ hb
theorem cr_minT (hc : X.calm = true) (hu : X.A.units + 64 < cLine) : CallR X (.builtin "min") (rMinT X.K) := by
  intro pins s σ H vs us Q I r h
  obtain ⟨p, ns, rfl, hs, hne, q⟩ := h
  obtain ⟨its, rv, hl, _⟩ := I.tuple hs
  rw [Vals.ref1 r]
  obtain ⟨as, ra⟩ := Dp.readsAll I (ns.map PyData.int) _ its (dp_ints ns) rv
  cases ns with
  | nil => cases hne
  | cons x xs =>
    have HA : PySem.W.HoldAll s.heap its.toArray.toList (x :: xs) := ⟨as, ra⟩
    refine PySem.W.min_tuple_datum (I.ok.hd hc) hl HA (by show X.A.units + 1 + PySem.W.Datum.depth Int < cLine; have e : PySem.W.Datum.depth Int = 0 := rfl; rw [e]; omega) fun i v h' tk hi hv hk => ?_
    obtain ⟨as2, r2⟩ := hv
    have hi' : its[i]? = some v := by simpa using hi
    have hlen := rv.length
    have hlt : i < ((x :: xs).map V.int).length := by rw [hlen]; exact (List.getElem?_eq_some_iff.mp hi').1
    obtain ⟨u, hu1, hu2⟩ := rv.get (List.getElem?_eq_getElem hlt)
    rw [hi'] at hu1
    cases hu1
    obtain ⟨z, hz, ez⟩ := item_of0 (List.getElem?_eq_getElem hlt)
    rw [ez] at hu2
    obtain ⟨t, rfl⟩ := hu2
    have em : PySem.W.minOf x xs = z := by
      have r2' : Reads h' (.int z t) (.int (PySem.W.minOf x xs)) as2 := r2
      cases r2'
      rfl
    obtain ⟨m1, m2⟩ := minOf_int xs x
    rw [em] at m1 m2
    exact ⟨.int z, H, I.kept hk, ⟨_, rfl⟩, q z m1 m2⟩
theorem cr_maxT (hc : X.calm = true) (hu : X.A.units + 64 < cLine) : CallR X (.builtin "max") (rMaxT X.K) := by
  intro pins s σ H vs us Q I r h
  obtain ⟨p, ns, rfl, hs, hne, q⟩ := h
  obtain ⟨its, rv, hl, _⟩ := I.tuple hs
  rw [Vals.ref1 r]
  obtain ⟨as, ra⟩ := Dp.readsAll I (ns.map PyData.int) _ its (dp_ints ns) rv
  cases ns with
  | nil => cases hne
  | cons x xs =>
    have HA : PySem.W.HoldAll s.heap its.toArray.toList (x :: xs) := ⟨as, ra⟩
    refine PySem.W.max_tuple_datum (I.ok.hd hc) hl HA (by show X.A.units + 1 + PySem.W.Datum.depth Int < cLine; have e : PySem.W.Datum.depth Int = 0 := rfl; rw [e]; omega) fun i v h' tk hi hv hk => ?_
    obtain ⟨as2, r2⟩ := hv
    have hi' : its[i]? = some v := by simpa using hi
    have hlen := rv.length
    have hlt : i < ((x :: xs).map V.int).length := by rw [hlen]; exact (List.getElem?_eq_some_iff.mp hi').1
    obtain ⟨u, hu1, hu2⟩ := rv.get (List.getElem?_eq_getElem hlt)
    rw [hi'] at hu1
    cases hu1
    obtain ⟨z, hz, ez⟩ := item_of0 (List.getElem?_eq_getElem hlt)
    rw [ez] at hu2
    obtain ⟨t, rfl⟩ := hu2
    have em : PySem.W.maxOf x xs = z := by
      have r2' : Reads h' (.int z t) (.int (PySem.W.maxOf x xs)) as2 := r2
      cases r2'
      rfl
    obtain ⟨m1, m2⟩ := maxOf_int xs x
    rw [em] at m1 m2
    exact ⟨.int z, H, I.kept hk, ⟨_, rfl⟩, q z m1 m2⟩
end
/-- t[lo:hi] -/
theorem slA_of {K : PySem.W.Frag} {a : Addr} {xs : List V} {lo hi : Option Int} {H : Hp} {Q : VK} (h : SqT K H a xs) (q : ∀ (l : Addr) (H' : Hp), Same H H' → SqT K H' l (cutV xs lo hi) → Q (.ref l) H') : rSlA K (.ref a) lo hi H Q := by
  refine ⟨a, xs, rfl, h, fun e => q a H (Same.refl _) ?_, fun _ p np => q p _ (same_new np) (sqT_of upd_same)⟩
  have ec : cutV xs lo hi = xs := by
    unfold cutV
    rw [e.1, e.2, List.drop_zero, Nat.sub_zero, List.take_of_length_le (Nat.le_refl _)]
  rw [ec]
  exact h
/-- t + u -/
theorem catA_of {K : PySem.W.Frag} {a b : Addr} {xs ys : List V} {H : Hp} {Q : VK} (ha : SqT K H a xs) (hb : SqT K H b ys) (hz : xs.length + ys.length ≤ 1000) (q : ∀ (l : Addr) (H' : Hp), Same H H' → SqT K H' l (xs ++ ys) → Q (.ref l) H') : rCatA K (.ref a) (.ref b) H Q := by
  refine ⟨a, b, xs, ys, rfl, rfl, ha, hb, Nat.le_of_lt (small1000 hz), fun e => q b H (Same.refl _) ?_, fun _ e => q a H (Same.refl _) ?_, fun _ _ p np => q p _ (same_new np) (sqT_of upd_same)⟩
  · rw [e]
    exact hb
  · rw [e, List.append_nil]
    exact ha
/-- t + u, with u (or t, if u is empty) an own one -/
theorem catX_of {K : PySem.W.Frag} {a b : Addr} {xs ys : List V} {H : Hp} {Q : VK} (ha : SqT K H a xs) (hb : H b = some (.tup ys)) (hne : ys ≠ [] ∨ H a = some (.tup xs)) (hz : xs.length + ys.length ≤ 1000) (q : ∀ (l : Addr) (H' : Hp), Same H H' → H' l = some (.tup (xs ++ ys)) → Q (.ref l) H') : rCatA K (.ref a) (.ref b) H Q := by
  refine ⟨a, b, xs, ys, rfl, rfl, ha, sqT_of hb, Nat.le_of_lt (small1000 hz), fun e => q b H (Same.refl _) ?_, fun _ e => q a H (Same.refl _) ?_, fun _ _ p np => q p _ (same_new np) upd_same⟩
  · rw [e]
    exact hb
  · rcases hne with h | h
    · exact absurd e h
    · rw [e, List.append_nil]
      exact h

/-! ### try: .. except C as e: kept = e: the caught one stays known by its class -/
def ExK (cls : Value) (d : Option Addr) (a : Addr) : HO := .ext fun h => ∃ (oe : Obj) (vs : Array Value), h.get? a = some oe ∧ Zc cls d oe ∧ oe.data = .fields vs
theorem exK_ok {P : Program} {w : World} {H : Hp} {h : Heap} {a : Addr} {cls : Value} {d : Option Addr} {oe : Obj} {vs : Array Value} (e : h.get? a = some oe) (z : Zc cls d oe) (dd : oe.data = .fields vs) : ObjOk P w H h a (ExK cls d a) :=
  ⟨⟨oe, vs, e, z, dd⟩, ⟨oe, e⟩, fun _ _ ⟨o, v, q, r⟩ k => ⟨o, v, k o q, r⟩⟩
section
variable {X : Cx} {pins : List (Addr × Obj)} {σ : L2.St} {H : Hp} {s : Shared}
/-- a pinned exception that came behind the entry becomes tracked -/
theorem keep_exc {a : Addr} {oe : Obj} {vs : Array Value} {cls : Value} {d : Option Addr} (J : Inv X ((a, oe) :: pins) σ H s) (z : Zc cls d oe) (dd : oe.data = .fields vs) (h0 : X.s_0.heap.get? a = none) (np : ∀ p ∈ X.pn ++ pins, p.1 ≠ a) : Inv X pins σ (upd H a (ExK cls d a)) s := by
  obtain ⟨ea, na, nL, nF, nc⟩ := J.pin (a, oe) (List.mem_append_right _ List.mem_cons_self)
  have ne : ∀ {b : Addr} {o : HO}, H b = some o → b ≠ a := fun e q => by
    rw [q] at e
    have na' : H a = none := na
    rw [na'] at e
    cases e
  refine ⟨J.ok, J.os, J.bare, ⟨J.base.keep, J.base.slot, fun b o e n hx => ?_, J.base.there, fun b xs e => ?_, fun b o u e => ?_, fun b ps e => ?_⟩, J.loc, J.cell, ?_, fun x c e => ?_, fun p hp => ?_, fun b o e => ?_, J.len⟩
  · have hb : b ≠ a := fun q => by
      rw [q, h0] at e
      cases e
    rw [upd_ne hb]
    exact J.base.free b o e n hx
  · have e2 := J.base.tups b xs e
    rw [upd_ne (ne e2)]
    exact e2
  · have e2 := J.base.frzs b o u e
    rw [upd_ne (ne e2)]
    exact e2
  · obtain ⟨more, e2⟩ := J.base.tbls b ps e
    refine ⟨more, ?_⟩
    rw [upd_ne (ne e2)]
    exact e2
  · rw [upd_ne (fun q => nL q.symm)]
    exact J.free
  · have hc : c ≠ a := fun q => by
      obtain ⟨v, o, e1, e2⟩ := J.cell x c e
      rw [q] at e1
      have ea' : s.heap.get? a = some oe := ea
      rw [ea'] at e1
      cases e1
      rw [dd] at e2
      cases e2
    rw [upd_ne hc]
    exact J.freeC x c e
  · have hp' : p ∈ X.pn ++ (a, oe) :: pins := by
      rcases List.mem_append.mp hp with k | k
      · exact List.mem_append_left _ k
      · exact List.mem_append_right _ (List.mem_cons_of_mem _ k)
    obtain ⟨q1, q2, q3, q4, q5⟩ := J.pin p hp'
    exact ⟨q1, by rw [upd_ne (np p hp)]; exact q2, q3, q4, q5⟩
  · by_cases hb : b = a
    · subst hb
      rw [upd_same] at e
      cases e
      exact exK_ok ea z dd
    · rw [upd_ne hb] at e
      refine (J.hok b o e).stay (fun c u _ q => q) (fun c q => ?_) fun c xs q => ?_
      · rw [upd_ne (ne q)]
        exact q
      · rw [upd_ne (ne q)]
        exact q
end
/-- what the clause wishes of an exception of the body: it is caught, kept in slot j; the clause's own name, slot i, is empty behind it -/
def wKeep (K : PySem.W.Frag) (c : Addr) (i j : Nat) (D : Ends) : WX := fun cls d σ H =>
  PySem.W.exmOne K cls (.ref c) = some true ∧ ∀ a, H a = none → D.nx (((σ.set i (some (.ref a))).set j (some (.ref a))).set i none) (upd H a (ExK cls d a))
def tTryKeep (K : PySem.W.Frag) (c : Addr) (i j : Nat) (tb : WX → TS) : TS := fun D σ H => tb (wKeep K c i j D) D σ H
section
variable {X : Cx} {x n : Str} {c : Addr} {i j : Nat} {body suite : List Stmt} {b1 : Stmt} {np pos pos' : Pos} {tb : WX → TS}
/-- an exception caught, its clause ended, it is tracked -/
theorem caught_kept {a : Addr} {pins : List (Addr × Obj)} {σ : L2.St} {H : Hp} {B : Heap} {sI s' : Shared} {cls : Value} {d : Option Addr} {D : Ends}
    (hs : X.stack = X.env :: X.outer) (hf : X.env.frame = some X.env.locals) (hex : X.ex = []) (hN : X.N.Nodup) (hi : X.N[i]? = some n) (hln : X.env.kindOf n = some .local) (hc : Names X x (.ref c)) (ok : X.Ok)
    (hsu : ∀ (a : Addr) (oe : Obj) (cls : Value) (d : Option Addr) (pn : List (Addr × Obj)), Zc cls d oe → (∃ vs, oe.data = .fields vs) → PSs (X.suite a ((a, oe) :: pn)) (b1 :: suite) (tAsg (tVar i) (gName j)))
    (hln2 : i < σ.length)
    (J : Inv X pins σ H sI) (nb : ∀ b o, sI.heap.get? b = some o → b ∉ frs X.stack → B.get? b = some o) (up : sI.heap.UpToSlots s'.heap) (sky : Sky B X.stack a (Zc cls d) X.env.locals s'.heap) (na : H a = none) (os : s'.os = sI.os) (ag : AllBare s'.gens)
    (w : wKeep X.K c i j D cls d σ H) :
    wpAny (model X.prog X.w) X.A (noteFrame (.ref a) X.env) (fun _ s₂ => wpAny (model X.prog X.w) X.A (setFlight (.ref a) none) (fun _ s₃ =>
      wpAny (model X.prog X.w) X.A (handleBy (.ref a) X.env [.ExceptHandler (some (.Name x np)) (some n) (b1 :: suite) pos']) (SP X pins D) X.xe s₃) X.xe s₂) X.xe s' := by
  obtain ⟨hb, hyes⟩ := w
  have frames : X.A.frames = some (X.env :: X.outer) := ok.frames.trans (congrArg some hs)
  have sky2 : Sky B (X.env :: X.outer) a (Zc cls d) X.env.locals s'.heap := hs ▸ sky
  -- the exception stands apart from all that stood
  have hB : B.get? a = none := by
    rcases sky with q | q | q
    · exact q.2.1
    · exact q.2.1
    · exact q.2.1
  refine Sky.land Zc.steady frames hf sky2 fun h3 fl3 up3 => ?_
  have J3 : Inv X pins σ H { s' with heap := h3 } := J.landed nb fl3.1 (up.trans up3) os ag
  obtain ⟨oe3, vs3, he3, hz3, hd3⟩ := fl3.there
  have notIn : a ∉ frs (X.env :: X.outer) := fun hm => by
    obtain ⟨_, o, e, hnf⟩ := fl3.2.2.1.mem hm
    rw [he3] at e
    cases e
    exact hnf _ hd3
  have nL : a ≠ X.env.locals := fun z => notIn (List.mem_filterMap.mpr ⟨X.env, List.mem_cons_self, hf.trans (congrArg some z.symm)⟩)
  have nF : a ∉ X.fs := fun hm => by
    obtain ⟨e, he, q⟩ := List.mem_filterMap.mp hm
    exact notIn (List.mem_filterMap.mpr ⟨e, List.mem_cons_of_mem _ he, q⟩)
  have nS : a ∉ frs X.stack := hs ▸ notIn
  have h0 : X.s_0.heap.get? a = none := by
    cases q : X.s_0.heap.get? a with
    | none => rfl
    | some o =>
      obtain ⟨o', e⟩ := J.base.there a o q (by rw [hex]; simp)
      rw [nb a o' e nS] at hB
      cases hB
  have npin : ∀ p ∈ X.pn ++ pins, p.1 ≠ a := fun p hp z => by
    obtain ⟨e, _, p3, p4, _⟩ := J.pin p hp
    rw [z] at e
    rw [nb a p.2 e nS] at hB
    cases hB
  refine wpAny_handleBy_cons (codeAny_handlers_test ?_) (by intro q; cases q)
  have S3 := J3.suite he3 hd3 na nL nF
  have LT : PySem.W.Looks (model X.prog X.w) h3 (typeOf (.ref a)) cls := fun A Q E s k q => wpAny_typeOf_ref (k _ _ he3) (by rw [hz3.1]; exact q)
  have test : ∀ {Q : Value → Shared → Prop} {E : Value → Shared → Prop}, Q (.ref c) { s' with heap := h3 } → wpAny (model X.prog X.w) (X.A.mark (some (.ref a))) (eval (.Name x np) X.env) Q E { s' with heap := h3 } := fun {Q E} q => by
    obtain ⟨hg, hdbg, hm | ⟨hm, hv, hnn⟩⟩ := hc
    · exact ld_glob (X := X.suite a ((a, oe3) :: (X.pn ++ pins))) S3 hg hm q hdbg
    · exact ld_blt (X := X.suite a ((a, oe3) :: (X.pn ++ pins))) S3 hg hm hv q hnn hdbg
  refine test ((PySem.W.exm_one (M := model X.prog X.w) J3.kIn LT hb).here ?_)
  refine codeAny_handlers_suite_as (HandSPX.lands_againZ fl3 fun h4 fl4 up4 => ?_)
  have J4 : Inv X pins σ H { s' with heap := h4 } := J.landed nb fl4.1 ((up.trans up3).trans up4) os ag
  obtain ⟨oe4, vs4, he4, hz4, hd4⟩ := fl4.there
  have S4 := J4.suite he4 hd4 na nL nF
  refine store_ok (X := X.suite a ((a, oe4) :: (X.pn ++ pins))) (v := .ref a) S4 hN hi (.inl hln) rfl (fun s5 S5 => ?_) (.inr hln)
  have q5 : (tAsg (tVar i) (gName j)) { nx := fun σ' H' => H' = H ∧ σ' = (σ.set i (some (.ref a))).set j (some (.ref a)), rt := fun _ _ => False } (σ.set i (some (.ref a))) H := by
    exact ⟨.ref a, by rw [List.getElem?_set_self hln2], rfl, rfl⟩
  refine wpAny_mono ((hsu a oe4 cls d (X.pn ++ pins) hz4 ⟨_, hd4⟩).run [] s5 _ H _ S5 q5) (fun f s6 hsp => ?_) (fun _ _ z => False.elim z)
  cases f with
  | next =>
    obtain ⟨σ6, H6, S6, rfl, rfl⟩ := hsp
    have P6 : Inv X ((a, oe4) :: pins) ((σ.set i (some (.ref a))).set j (some (.ref a))) H6 s6 :=
      ⟨ok, S6.os, S6.bare, S6.base, S6.loc, S6.cell, S6.free, S6.freeC, fun p hp => S6.pin p (by
        rw [List.append_nil]
        rcases List.mem_append.mp hp with k | k
        · exact List.mem_cons_of_mem _ (List.mem_append_left _ k)
        · rcases List.mem_cons.mp k with k | k
          · rw [k]; exact List.mem_cons_self
          · exact List.mem_cons_of_mem _ (List.mem_append_right _ k)), S6.hok, S6.len⟩
    refine gone_ok P6 hN hi hln fun s7 J7 => ?_
    exact ⟨_, _, keep_exc J7 hz4 hd4 h0 npin, hyes a na⟩
  | brk =>
    obtain ⟨_, _, _, q⟩ := hsp
    exact q.elim
  | cont =>
    obtain ⟨_, _, _, q⟩ := hsp
    exact q.elim
  | ret u =>
    obtain ⟨_, _, _, _, _, q⟩ := hsp
    exact q.elim
theorem ps_try_keep (hs : X.stack = X.env :: X.outer) (hf : X.env.frame = some X.env.locals) (hex : X.ex = []) (hN : X.N.Nodup) (hi : X.N[i]? = some n) (hln : X.env.kindOf n = some .local) (hc : Names X x (.ref c))
    (hb : ∀ (W : WX) (pn : List (Addr × Obj)) (xe : Value → Shared → Prop), Takes (X.tr pn xe) W → PassesOwn (model X.prog X.w) X.A X.env xe → PSs (X.tr pn xe) body (tb W))
    (hsu : ∀ (a : Addr) (oe : Obj) (cls : Value) (d : Option Addr) (pn : List (Addr × Obj)), Zc cls d oe → (∃ vs, oe.data = .fields vs) → PSs (X.suite a ((a, oe) :: pn)) (b1 :: suite) (tAsg (tVar i) (gName j))) :
    PS X (.Try body [.ExceptHandler (some (.Name x np)) (some n) (b1 :: suite) pos'] [] [] pos) (tTryKeep X.K c i j tb) := by
  refine ⟨fun pins s σ H D I h => wpAny_Try_except ?_⟩
  have ok := I.ok
  refine wpAny_mono ((hb (wKeep X.K c i j D) (X.pn ++ pins) (fun e s₁ => wpAny (model X.prog X.w) X.A (noteFrame e X.env) (fun _ s₂ => wpAny (model X.prog X.w) X.A (setFlight e none) (fun _ s₃ =>
    wpAny (model X.prog X.w) X.A (handleBy e X.env [.ExceptHandler (some (.Name x np)) (some n) (b1 :: suite) pos']) (SP X pins D) X.xe s₃) X.xe s₂) X.xe s₁) (fun u s' xx => ?_) PassesOwn.looking).run [] s σ H D (I.toTry _) h) (fun f s1 hsp => ?_) (fun e s1 he => he)
  · obtain ⟨a, B, sI, pins', σ', H', cls, d, rfl, J', nb, up, sky, na, os, ag, w⟩ := xx
    have il : i < σ'.length := by
      have e1 := (List.getElem?_eq_some_iff.mp hi).1
      have e2 := J'.len
      have e3 : σ'.length = X.N.length := e2
      omega
    exact caught_kept hs hf hex hN hi hln hc ok hsu il (J'.ofTry ok) nb up sky na os ag w
  · cases f with
    | next =>
      obtain ⟨σ', H', J', q⟩ := hsp
      exact wpAny_execs_nil ⟨σ', H', J'.ofTry ok, q⟩
    | brk =>
      obtain ⟨σ', H', J', q⟩ := hsp
      exact ⟨σ', H', J'.ofTry ok, q⟩
    | cont =>
      obtain ⟨σ', H', J', q⟩ := hsp
      exact ⟨σ', H', J'.ofTry ok, q⟩
    | ret u =>
      obtain ⟨v, σ', H', J', r, q⟩ := hsp
      exact ⟨v, σ', H', J'.ofTry ok, r, q⟩
end

/-! ### isinstance of a kept exception; a call, inside a try, of a local that holds a def -/
structure ExG (K : PySem.W.Frag) (C : Addr) : Prop where
  c : ExcC K C
  ty : PySem.W.typeIn K (.ref C) = some (.type "type")
  self : PySem.W.subIn K (.ref C) (.ref C) = some true
theorem cls_some {K : PySem.W.Frag} {C : Addr} (h : PySem.W.hasDictIn K C = true) : (PySem.W.clsIn K C).isSome = true := by
  obtain ⟨cd, hc, _⟩ := PySem.W.any_some h
  rw [hc]
  rfl
theorem kit_ref {K : PySem.W.Frag} {C D : Addr} {b : Bool} (g : ExG K C) (h : PySem.W.subIn K (.ref D) (.ref C) = some b) : PySem.W.kitOne K (.ref D) (.ref C) = some b := by
  unfold PySem.W.kitOne
  by_cases e : (Value.ref D == Value.ref C) = true
  · rw [if_pos e]
    have e2 : D = C := Value.ref.inj (beq_iff_eq.mp e)
    subst e2
    rw [g.self] at h
    exact h
  · rw [if_neg e]
    have e2 : ((PySem.W.clsIn K C).isSome && PySem.W.typeIn K (.ref C) == some (.type "type")) = true := by rw [cls_some g.c.hd, g.ty] <;> rfl
    show (if ((PySem.W.clsIn K C).isSome && PySem.W.typeIn K (.ref C) == some (.type "type")) = true then PySem.W.subIn K (.ref D) (.ref C) else none) = some b
    rw [if_pos e2]
    exact h
theorem kit_typ {K : PySem.W.Frag} {D : Addr} {T : String} {b : Bool} (hm : PySem.W.kitMeta T = true) (h : PySem.W.subIn K (.ref D) (.type T) = some b) : PySem.W.kitOne K (.ref D) (.type T) = some b := by
  unfold PySem.W.kitOne
  have e : ¬ (Value.ref D == Value.type T) = true := fun z => by cases beq_iff_eq.mp z
  rw [if_neg e]
  show (if PySem.W.kitMeta T = true then PySem.W.subIn K (.ref D) (.type T) else none) = some b
  rw [if_pos hm]
  exact h
theorem exm_of {K : PySem.W.Frag} {C : Addr} {cls : Value} {b : Bool} (g : ExG K C) (h : PySem.W.subIn K cls (.ref C) = some b) : PySem.W.exmOne K cls (.ref C) = some b := PySem.W.exm_ref g.c.hs g.c.hd g.ty h
inductive TyE (K : PySem.W.Frag) (H : Hp) : V → Value → Prop where
  | old {x : V} {t : Value} : TyX K H x t → TyE K H x t
  | exc {a D : Addr} : H a = some (ExK (.ref D) none a) → ExcC K D → TyE K H (.ref a) (.ref D)
def rIsiE (K : PySem.W.Frag) : List V → Hp → VK → Prop := fun xs H Q => ∃ (x c : V) (t u : Value) (b : Bool), xs = [x, c] ∧ ClsV c u ∧ TyE K H x t ∧ PySem.W.kitOne K t u = some b ∧ Q (.bl b) H
def rIsiTE (K : PySem.W.Frag) : List V → Hp → VK → Prop := fun xs H Q => ∃ (x : V) (tp : Addr) (cs : List V) (t : Value) (us : List Value) (b : Bool), xs = [x, .ref tp] ∧ H tp = some (.tup cs) ∧ Paired ClsV cs us ∧ TyE K H x t ∧ PySem.W.kitAny K t us = some b ∧ Q (.bl b) H
section
variable {X : Cx} {pins : List (Addr × Obj)} {σ : L2.St} {H : Hp} {s : Shared}
theorem kit_ofE {x : V} {u t : Value} (I : Inv X pins σ H s) (rx : RelV x u) (ty : TyE X.K H x t) : ∃ P : Heap → Prop, PySem.W.KitX X.K u t P ∧ P s.heap ∧ u ≠ .builtin "__main__.__loader__#opaque" := by
  cases ty with
  | old ty => exact kit_of I rx ty
  | @exc a D e C =>
    cases (show u = Value.ref a from rx)
    obtain ⟨⟨oe, vs, e1, z, dd⟩, _, _⟩ := (show ObjOk X.prog X.w H s.heap a (ExK (.ref D) none a) from I.hok a _ e)
    have J : PySem.W.InstAt s.heap a oe D none := by
      obtain ⟨oc, od, oda, osl⟩ := oe
      obtain ⟨h1, h2⟩ := z
      dsimp only at h1 h2 dd
      subst h1 h2 dd
      exact ⟨e1, rfl, rfl, trivial⟩
    exact ⟨_, PySem.W.handS_kitx_exc C.hg C.hk C.hs C.hd C.ha C.hn C.ht C.hm, J, fun z => nomatch z⟩
theorem call_isiE : CallR X (.builtin "isinstance") (rIsiE X.K) := by
  intro pins s σ H xs us Q I r h
  obtain ⟨x, c, t, u, b, rfl, k, ty, e, q⟩ := h
  obtain ⟨u1, u2, rfl, r1, r2⟩ := vals2 r
  have e2 := k.eq r2
  subst e2
  obtain ⟨P, Z, p, hx⟩ := kit_ofE I r1 ty
  exact PySem.W.kia_one Z I.kIn p e hx fun tk => ⟨.bl b, H, I.tok tk, rfl, q⟩
theorem call_isiTE : CallR X (.builtin "isinstance") (rIsiTE X.K) := by
  intro pins s σ H xs us Q I r h
  obtain ⟨x, tp, cs, t, ws, b, rfl, hT, k, ty, e, q⟩ := h
  obtain ⟨u1, u2, rfl, r1, r2⟩ := vals2 r
  cases (show u2 = Value.ref tp from r2)
  obtain ⟨P, Z, p, hx⟩ := kit_ofE I r1 ty
  obtain ⟨_, its, rv, o, h1, h2, n, h3⟩ := (show ObjOk X.prog X.w H s.heap tp (.tup cs) from I.hok tp _ hT)
  have e3 := ClsV.all k rv
  subst e3
  obtain ⟨oc, od, dt, sl⟩ := o
  simp only at h2 h3
  subst h2 h3
  exact PySem.W.kia_tup Z I.kIn p h1 e hx fun tk => ⟨.bl b, H, I.tok tk, rfl, q⟩
end
/-- a def that a local may hold -/
structure Hd (P : Program) (w : World) (K : PySem.W.Frag) (mg : Str → Option Value) (base : Heap) (CX : CXT) (kk : Nat) (f : Addr) (sp : Sp) : Prop where
  ex : ∃ (k : Nat) (fd : FuncData) (ps : List Str), k ≤ kk ∧ FnOk P w K mg base CX k f fd ps sp ∧ Binds K fd ps []
  kp : PySem.W.keepIn K (.ref f) = true
theorem hd_of {P : Program} {w : World} {K : PySem.W.Frag} {mg : Str → Option Value} {base : Heap} {CX : CXT} {k kk : Nat} {x : Str} {f : Addr} {ps : List Str} {sp : Sp} (G : Cb P w K mg base CX k x f ps sp) (h : k ≤ kk) : Hd P w K mg base CX kk f sp := by
  obtain ⟨⟨fd, F, b⟩, g, kp⟩ := G
  exact ⟨⟨k, fd, ps, h, F, b⟩, kp⟩
def tCallD (i : Nat) (S : Addr → Sp → Prop) (E : L2.St → XK) (t : TA) : TE := fun σ H Q => ∃ f sp, σ[i]? = some (some (.ref f)) ∧ S f sp ∧ t σ H fun vs H1 => sp vs H1 Q (E σ)
theorem pe_callD {X : Cx} {CX : CXT} {kk i : Nat} {S : Addr → Sp → Prop} {E : L2.St → XK} {x : Str} {p pos : Pos} {e : Expr} {es : List Expr} {t : TA} (A : ∀ f sp, S f sp → Hd X.prog X.w X.K X.mg X.base CX kk f sp) (hr : Room kk X.A) (hx : ∀ σ, PassesAt CX X σ (E σ))
    (ha : PA X (e :: es) t) (hN : X.N[i]? = some x := by rfl) (hv : Vis X.env.scope x := by first | exact Or.inl rfl | exact Or.inr (Or.inl rfl) | exact Or.inr (Or.inr rfl))
    (hdb : (x == ("__debug__" : Str)) = false := by decide) (hcd : (x == ("__classdict__" : Str)) = false := by decide)
    (he : starEach (e :: es) X.env = (false, eval e X.env) :: starEach es X.env := by rfl) (hpl : (backTo pos (starEach es X.env)).any (·.1) = false := by rfl) : PE X (.Call (.Name x p) (e :: es) [] pos) (tCallD i S E t) := by
  refine ⟨fun pins s σ H Q I h => ?_⟩
  obtain ⟨f, sp, hs, hS, ht⟩ := h
  obtain ⟨⟨k, fd, ps, hk, F, hb⟩, kp⟩ := A f sp hS
  refine wpAny_Call_Name_kw (thn ((pe_var (pos := p) hN hv hdb hcd).run pins s σ H (fun v H1 => v = .ref f ∧ H1 = H) I ⟨.ref f, hs, rfl, rfl⟩) fun u s1 ⟨v, H1, I1, r1, q1⟩ => ?_)
  obtain ⟨rfl, rfl⟩ := q1
  cases r1
  refine PySem.W.callWith_K (h₀ := X.base) I.ok.mod.kin kp (thn (ha.run pos pins s1 σ _ _ I1 ht) fun us s2 ⟨vs, H2, I2, r, q⟩ => ⟨I2.kIn, ?_⟩) he hpl
  exact run_fnS F (hr.mono hk) hb (hx σ) I2 r q

/-! ### good wishes: counting -/
theorem sub_len : ∀ {l1 l2 : List Int}, l1.Nodup → (∀ x ∈ l1, x ∈ l2) → l1.length ≤ l2.length
  | [], _, _, _ => Nat.zero_le _
  | x :: r, l2, nd, h => by
    obtain ⟨n1, n2⟩ := List.nodup_cons.mp nd
    have hx := h x List.mem_cons_self
    have ih := sub_len (l1 := r) (l2 := l2.erase x) n2 fun y hy => by
      have ne : y ≠ x := fun e => n1 (e ▸ hy)
      exact (List.mem_erase_of_ne ne).mpr (h y (List.mem_cons_of_mem _ hy))
    have e := List.length_erase_of_mem hx
    have p : 0 < l2.length := List.length_pos_of_mem hx
    rw [List.length_cons]
    omega
def upTo (lo : Int) (k : Nat) : List Int := (List.range k).map fun (i : Nat) => lo + (i : Int)
theorem mem_upTo {lo x : Int} {k : Nat} : x ∈ upTo lo k ↔ lo ≤ x ∧ x < lo + k := by
  unfold upTo
  simp only [List.mem_map, List.mem_range]
  constructor
  · rintro ⟨i, hi, rfl⟩
    omega
  · rintro ⟨h1, h2⟩
    exact ⟨(x - lo).toNat, by omega, by omega⟩
theorem upTo_len {lo : Int} {k : Nat} : (upTo lo k).length = k := by simp [upTo]
theorem upTo_nodup {lo : Int} {k : Nat} : (upTo lo k).Nodup := by
  unfold upTo
  exact (List.pairwise_map.mpr (List.Pairwise.imp (fun h => by omega) List.pairwise_lt_range))
theorem len_le_of {l : List Int} {lo : Int} {k : Nat} (nd : l.Nodup) (h : ∀ x ∈ l, lo ≤ x ∧ x < lo + k) : l.length ≤ k := by
  have := sub_len nd fun x hx => mem_upTo.mpr (h x hx)
  rw [upTo_len] at this
  exact this
theorem le_len_of {l : List Int} {lo : Int} {k : Nat} (h : ∀ x, lo ≤ x → x < lo + k → x ∈ l) : k ≤ l.length := by
  have := sub_len (upTo_nodup (lo := lo) (k := k)) fun x hx => by
    obtain ⟨h1, h2⟩ := mem_upTo.mp hx
    exact h x h1 h2
  rw [upTo_len] at this
  exact this
/-- how many of them are b or more -/
def cntGe (l : List Int) (b : Int) : Nat := (l.filter fun w => decide (b ≤ w)).length
theorem cntGe_snoc (l : List Int) (w b : Int) : cntGe (l ++ [w]) b = cntGe l b + if b ≤ w then 1 else 0 := by
  unfold cntGe
  rw [List.filter_append, List.length_append]
  by_cases h : b ≤ w <;> simp [List.filter, h]
theorem cntGe_le (l : List Int) (b : Int) : cntGe l b ≤ l.length := List.length_filter_le _ _
theorem cntGe_perm {l l' : List Int} (h : l.Perm l') (b : Int) : cntGe l b = cntGe l' b := (h.filter _).length_eq
theorem somes_snoc (l : List (Option Int)) (o : Option Int) : somes (l ++ [o]) = somes l ++ o.toList := by
  unfold somes
  rw [List.filterMap_append]
  cases o <;> rfl
/-- what holds behind ships that came -/
structure Lay (n : Nat) (ws : List Int) : Prop where
  occ : ∀ x, (prun n ws).1 x = true ↔ x ∈ somes (placedL n ws)
  nd : (somes (placedL n ws)).Nodup
  bd : ∀ x ∈ somes (placedL n ws), 1 ≤ x ∧ x ≤ n
  few : ∀ b, (b ≤ 1 ∨ (prun n ws).1 (b - 1) = false) → cntGe (somes (placedL n ws)) b ≤ cntGe ws b
  many : none ∉ placedL n ws → ∀ b, cntGe ws b ≤ cntGe (somes (placedL n ws)) b
  crowd : none ∈ placedL n ws → ∃ b : Int, 1 ≤ b ∧ b ≤ n ∧ (n : Int) - b + 1 < cntGe ws b
theorem placedL_snoc {n : Nat} {ws : List Int} {w : Int} : placedL n (ws ++ [w]) = placedL n ws ++ [ffree n (prun n ws).1 w] := by
  unfold placedL
  rw [prun_snoc]
  unfold pstep
  cases ffree n (prun n ws).1 w <;> rfl
theorem occ_snoc {n : Nat} {ws : List Int} {w : Int} : (prun n (ws ++ [w])).1 = match ffree n (prun n ws).1 w with | none => (prun n ws).1 | some b => setO (prun n ws).1 b := by
  rw [prun_snoc]
  unfold pstep
  cases ffree n (prun n ws).1 w <;> rfl
/-- the least one from which on all are held -/
theorem least_full {occ : Int → Bool} : ∀ (k : Nat), (∀ x, (k : Int) + 1 ≤ x → x ≤ k + 1 → occ x = true) → ∀ m : Int, (∀ x, (k : Int) + 1 ≤ x → x ≤ m → occ x = true) → ∃ b : Int, 1 ≤ b ∧ b ≤ k + 1 ∧ (∀ x, b ≤ x → x ≤ m → occ x = true) ∧ (b ≤ 1 ∨ occ (b - 1) = false)
  | 0, _, m, h => ⟨1, by omega, by omega, fun x h1 h2 => h x (by omega) h2, .inl (by omega)⟩
  | k + 1, h0, m, h => by
    cases e : occ ((k : Int) + 1) with
    | false => exact ⟨(k : Int) + 1 + 1, by omega, by omega, fun x h1 h2 => h x (by omega) h2, .inr (by rw [show (k : Int) + 1 + 1 - 1 = (k : Int) + 1 by omega]; exact e)⟩
    | true =>
      obtain ⟨b, b1, b2, b3, b4⟩ := least_full (occ := occ) k (fun x h1 h2 => by rw [show x = (k : Int) + 1 by omega]; exact e) m fun x h1 h2 => by
        by_cases z : x = (k : Int) + 1
        · rw [z]; exact e
        · exact h x (by omega) h2
      exact ⟨b, b1, by omega, b3, b4⟩
theorem lay (n : Nat) : ∀ ws : List Int, (∀ w ∈ ws, 1 ≤ w ∧ w ≤ n) → Lay n ws := snoc_ind (fun _ => ⟨fun x => by simp [prun, placedL, somes], List.nodup_nil, fun x hx => (by cases hx), fun b _ => Nat.zero_le _, fun _ b => Nat.le_refl _, fun h => (by cases h)⟩) fun ws w ih hb => by
  have hw := hb w (List.mem_append_right _ (List.mem_singleton.mpr rfl))
  obtain ⟨i1, i2, i3, i4, i5, i6⟩ := ih fun x hx => hb x (List.mem_append_left _ hx)
  cases e : ffree n (prun n ws).1 w with
  | none =>
    have es : somes (placedL n (ws ++ [w])) = somes (placedL n ws) := by rw [placedL_snoc, e, somes_snoc]; simp
    have eo : (prun n (ws ++ [w])).1 = (prun n ws).1 := by rw [occ_snoc, e]
    have full := ffree_none e
    refine ⟨fun x => by rw [eo, es]; exact i1 x, by rw [es]; exact i2, by rw [es]; exact i3, fun b h => ?_, fun h => ?_, fun _ => ?_⟩
    · rw [es, cntGe_snoc]
      rw [eo] at h
      have := i4 b h
      omega
    · rw [placedL_snoc, e] at h
      exact absurd (List.mem_append_right _ (List.mem_singleton.mpr rfl)) h
    · obtain ⟨b, b1, b2, b3, b4⟩ := least_full (occ := (prun n ws).1) (w - 1).toNat (fun x h1 h2 => full x (by omega) (by omega)) n fun x h1 h2 => full x (by omega) h2
      have c1 := i4 b b4
      have c2 : ((n : Int) - b + 1).toNat ≤ cntGe (somes (placedL n ws)) b := le_len_of (lo := b) fun x h1 h2 => List.mem_filter.mpr ⟨(i1 x).mp (b3 x h1 (by omega)), by simpa using h1⟩
      refine ⟨b, b1, by omega, ?_⟩
      rw [cntGe_snoc, if_pos (by omega)]
      omega
  | some x =>
    have es : somes (placedL n (ws ++ [w])) = somes (placedL n ws) ++ [x] := by rw [placedL_snoc, e, somes_snoc]; rfl
    have eo : (prun n (ws ++ [w])).1 = setO (prun n ws).1 x := by rw [occ_snoc, e]
    obtain ⟨x1, x2, x3, x4⟩ := ffree_some e
    have hn : x ∉ somes (placedL n ws) := fun z => by
      rw [(i1 x).mpr z] at x3
      cases x3
    refine ⟨fun y => ?_, ?_, ?_, fun b h => ?_, fun h b => ?_, fun h => ?_⟩
    · rw [eo, es, List.mem_append, List.mem_singleton, ← i1 y]
      unfold setO
      by_cases z : y = x <;> simp [z]
    · rw [es, List.nodup_append]
      exact ⟨i2, by simp, fun a ha b hb => by rw [List.mem_singleton.mp hb]; exact fun z => hn (z ▸ ha)⟩
    · intro y hy
      rw [es] at hy
      rcases List.mem_append.mp hy with k | k
      · exact i3 y k
      · rw [List.mem_singleton.mp k]
        omega
    · rw [es, cntGe_snoc, cntGe_snoc]
      have h' : b ≤ 1 ∨ (prun n ws).1 (b - 1) = false := by
        rcases h with h | h
        · exact .inl h
        · rw [eo] at h
          unfold setO at h
          exact .inr (Bool.or_eq_false_iff.mp h).2
      have := i4 b h'
      by_cases hbx : b ≤ x
      · have hbw : b ≤ w := by
          by_cases z : b ≤ w
          · exact z
          · rcases h' with h' | h'
            · omega
            · rw [x4 (b - 1) (by omega) (by omega)] at h'
              cases h'
        rw [if_pos hbx, if_pos hbw]
        omega
      · rw [if_neg hbx]
        omega
    · have h' : none ∉ placedL n ws := fun z => h (by rw [placedL_snoc]; exact List.mem_append_left _ z)
      have := i5 h' b
      rw [es, cntGe_snoc, cntGe_snoc]
      by_cases z : b ≤ w
      · rw [if_pos z, if_pos (by omega)]
        omega
      · rw [if_neg z]
        omega
    · rw [placedL_snoc, e] at h
      rcases List.mem_append.mp h with k | k
      · obtain ⟨b, b1, b2, b3⟩ := i6 k
        refine ⟨b, b1, b2, ?_⟩
        rw [cntGe_snoc]
        omega
      · simp at k
/-- the last berth from which on more wish -/
def downTo (n : Nat) : List Int := (List.range n).map fun (i : Nat) => (n : Int) - (i : Int)
def crowdedL (n : Nat) (ws : List Int) : Option Int := (downTo n).find? fun b => decide ((n : Int) - b + 1 < (cntGe ws b : Int))
theorem mem_downTo {n : Nat} {x : Int} : x ∈ downTo n ↔ 1 ≤ x ∧ x ≤ n := by
  unfold downTo
  simp only [List.mem_map, List.mem_range]
  constructor
  · rintro ⟨i, hi, rfl⟩
    omega
  · rintro ⟨h1, h2⟩
    exact ⟨(n - x).toNat, by omega, by omega⟩
theorem crowded_none {n : Nat} {ws : List Int} : crowdedL n ws = none ↔ ∀ b : Int, 1 ≤ b → b ≤ n → (cntGe ws b : Int) ≤ n - b + 1 := by
  unfold crowdedL
  rw [List.find?_eq_none]
  simp only [decide_eq_true_eq, Int.not_lt]
  exact ⟨fun h b b1 b2 => h b (mem_downTo.mpr ⟨b1, b2⟩), fun h b hb => h b (mem_downTo.mp hb).1 (mem_downTo.mp hb).2⟩
theorem good_iff {n : Nat} {ws : List Int} (hb : ∀ w ∈ ws, 1 ≤ w ∧ w ≤ n) : crowdedL n ws = none ↔ none ∉ placedL n ws := by
  have L := lay n ws hb
  rw [crowded_none]
  constructor
  · intro h z
    obtain ⟨b, b1, b2, b3⟩ := L.crowd z
    have := h b b1 b2
    omega
  · intro h b b1 b2
    have h1 := L.many h b
    have h2 : cntGe (somes (placedL n ws)) b ≤ ((n : Int) - b + 1).toNat := len_le_of (lo := b) (L.nd.filter _) fun x hx => by
      obtain ⟨k1, k2⟩ := List.mem_filter.mp hx
      have := L.bd x k1
      have k3 : b ≤ x := by simpa using k2
      omega
    omega
/-! in rising order -/
theorem sorted_cut {b : Int} : ∀ {o : List Int}, o.Pairwise (· ≤ ·) → o = o.filter (fun w => !decide (b ≤ w)) ++ o.filter (fun w => decide (b ≤ w))
  | [], _ => rfl
  | x :: r, h => by
    obtain ⟨h1, h2⟩ := List.pairwise_cons.mp h
    by_cases z : b ≤ x
    · have e1 : r.filter (fun w => !decide (b ≤ w)) = [] := List.filter_eq_nil_iff.mpr fun y hy => by
        have := h1 y hy
        simp only [Bool.not_eq_true', decide_eq_false_iff_not]
        omega
      have e2 : r.filter (fun w => decide (b ≤ w)) = r := List.filter_eq_self.mpr fun y hy => by
        have := h1 y hy
        simp only [decide_eq_true_eq]
        omega
      simp [List.filter_cons, z, e1, e2]
    · have ih := sorted_cut (b := b) h2
      simp only [List.filter_cons, z, decide_false, Bool.not_false, if_true, Bool.false_eq_true, if_false, List.cons_append]
      rw [← ih]
def goodS (n : Nat) (o : List Int) : Bool := (List.range o.length).all fun (i : Nat) => decide (o.getD i 0 ≤ (n : Int) - o.length + i + 1)
theorem goodS_iff {n : Nat} {ws : List Int} (hb : ∀ w ∈ ws, 1 ≤ w ∧ w ≤ n) : goodS n (sortI ws) = true ↔ crowdedL n ws = none := by
  have hp := sortI_perm ws
  have hs := sortI_sorted ws
  rw [crowded_none]
  unfold goodS
  simp only [List.all_eq_true, List.mem_range, decide_eq_true_eq]
  generalize hO : sortI ws = o at hp hs
  have hbo : ∀ w ∈ o, 1 ≤ w ∧ w ≤ n := fun w hw => hb w (hp.mem_iff.mp hw)
  constructor
  · intro h b b1 b2
    rw [← cntGe_perm hp b]
    have cut := sorted_cut (b := b) hs
    by_cases z : cntGe o b = 0
    · rw [z]
      omega
    · have hlen : (o.filter (fun w => !decide (b ≤ w))).length + cntGe o b = o.length := by
        unfold cntGe
        rw [← List.length_append, ← cut]
      have hi : (o.filter (fun w => !decide (b ≤ w))).length < o.length := by omega
      have h1 := h _ hi
      have e : o.getD (o.filter (fun w => !decide (b ≤ w))).length 0 = o[(o.filter (fun w => !decide (b ≤ w))).length] := by simp [List.getD_eq_getElem?_getD, List.getElem?_eq_getElem hi]
      rw [e] at h1
      have hm : o[(o.filter (fun w => !decide (b ≤ w))).length] ∈ o.filter (fun w => decide (b ≤ w)) := by
        have e2 : o[(o.filter (fun w => !decide (b ≤ w))).length]? = (o.filter (fun w => decide (b ≤ w)))[0]? := by
          conv => lhs; arg 1; rw [cut]
          rw [List.getElem?_append_right (Nat.le_refl _), Nat.sub_self]
        rw [List.getElem?_eq_getElem hi] at e2
        exact List.mem_of_getElem? e2.symm
      have h2 : b ≤ o[(o.filter (fun w => !decide (b ≤ w))).length] := by simpa using (List.mem_filter.mp hm).2
      omega
  · intro h i hi
    have e : o.getD i 0 = o[i] := by simp [List.getD_eq_getElem?_getD, List.getElem?_eq_getElem hi]
    rw [e]
    have hbi := hbo o[i] (List.getElem_mem hi)
    have h1 := h o[i] hbi.1 hbi.2
    rw [← cntGe_perm hp] at h1
    have h2 : o.length - i ≤ cntGe o o[i] := by
      have e3 : (o.drop i).filter (fun w => decide (o[i] ≤ w)) = o.drop i := List.filter_eq_self.mpr fun y hy => by
        obtain ⟨j, hj, ej⟩ := List.getElem_of_mem hy
        rw [List.getElem_drop] at ej
        simp only [decide_eq_true_eq]
        rw [← ej]
        by_cases z : j = 0
        · subst z
          simp
        · exact List.pairwise_iff_getElem.mp hs i (i + j) hi (by rw [List.length_drop] at hj; omega) (by omega)
      have e4 : (o.filter (fun w => decide (o[i] ≤ w))).length = ((o.take i).filter (fun w => decide (o[i] ≤ w))).length + ((o.drop i).filter (fun w => decide (o[i] ≤ w))).length := by
        rw [← List.length_append, ← List.filter_append, List.take_append_drop]
      unfold cntGe
      rw [e4, e3, List.length_drop]
      omega
    omega

/-! ### crowded, is_good -/
def cntEq (l : List Int) (b : Int) : Nat := (l.filter fun w => decide (w = b)).length
theorem cntEq_snoc (l : List Int) (w b : Int) : cntEq (l ++ [w]) b = cntEq l b + if w = b then 1 else 0 := by
  unfold cntEq
  rw [List.filter_append, List.length_append]
  by_cases h : w = b <;> simp [List.filter, h]
theorem cntGe_step (l : List Int) (b : Int) : cntGe l b = cntGe l (b + 1) + cntEq l b := by
  refine snoc_ind (p := fun l => cntGe l b = cntGe l (b + 1) + cntEq l b) rfl (fun l w ih => ?_) l
  rw [cntGe_snoc, cntGe_snoc, cntEq_snoc, ih]
  by_cases h1 : w = b
  · subst h1
    rw [if_pos (Int.le_refl _), if_neg (by omega), if_pos rfl]
    omega
  · rw [if_neg h1]
    by_cases h2 : b ≤ w
    · rw [if_pos h2, if_pos (by omega)]
      omega
    · rw [if_neg h2, if_neg (by omega)]
      omega
theorem cntGe_top {n : Nat} {ws : List Int} (hb : ∀ w ∈ ws, 1 ≤ w ∧ w ≤ n) : cntGe ws ((n : Int) + 1) = 0 := by
  unfold cntGe
  rw [List.length_eq_zero_iff, List.filter_eq_nil_iff]
  intro w hw
  have := hb w hw
  simp only [decide_eq_true_eq]
  omega
def tallyL (n : Nat) (ws : List Int) : List V := (List.range (n + 1)).map fun (i : Nat) => V.int (cntEq ws (i : Int))
theorem tallyL_at {n : Nat} {ws : List Int} {i : Nat} (h : i ≤ n) : (tallyL n ws)[i]? = some (.int (cntEq ws (i : Int))) := by
  unfold tallyL
  rw [List.getElem?_map, List.getElem?_range (by omega)]
  rfl
theorem tallyL_len {n : Nat} {ws : List Int} : (tallyL n ws).length = n + 1 := by simp [tallyL]
theorem tallyL_set {n : Nat} {ws : List Int} {w : Int} (h0 : 0 ≤ w) (h : w ≤ n) : (tallyL n ws).set w.toNat (.int (cntEq ws w + 1)) = tallyL n (ws ++ [w]) := by
  apply List.ext_getElem?
  intro i
  by_cases hi : i ≤ n
  · rw [tallyL_at hi, cntEq_snoc]
    by_cases e : i = w.toNat
    · subst e
      rw [List.getElem?_set_self (by rw [tallyL_len]; omega)]
      have : ((w.toNat : Nat) : Int) = w := by omega
      rw [this, if_pos rfl]
      rfl
    · rw [List.getElem?_set_ne (Ne.symm e), tallyL_at hi]
      have : ¬ w = ((i : Nat) : Int) := by omega
      rw [if_neg this]
      rfl
  · rw [List.getElem?_eq_none (show ((tallyL n ws).set w.toNat (.int (cntEq ws w + 1))).length ≤ i by rw [List.length_set, tallyL_len]; omega), List.getElem?_eq_none (show (tallyL n (ws ++ [w])).length ≤ i by rw [tallyL_len]; omega)]
theorem tallyL_new {n : Nat} : (List.replicate (n + 1) [V.int 0]).flatten = tallyL n [] := by
  apply List.ext_getElem?
  intro i
  have e : (List.replicate (n + 1) [V.int 0]).flatten = List.replicate (n + 1) (V.int 0) := by
    generalize n + 1 = m
    induction m with
    | zero => rfl
    | succ m ih => rw [List.replicate_succ, List.replicate_succ, List.flatten_cons, ih]; rfl
  rw [e]
  by_cases hi : i ≤ n
  · rw [tallyL_at hi, List.getElem?_replicate_of_lt (by omega)]
    rfl
  · rw [List.getElem?_eq_none (show (List.replicate (n + 1) (V.int 0)).length ≤ i by rw [List.length_replicate]; omega), List.getElem?_eq_none (show (tallyL n []).length ≤ i by rw [tallyL_len]; omega)]
theorem downTo_at {n i : Nat} (h : i < n) : (downTo n)[i]? = some ((n : Int) - i) := by
  unfold downTo
  rw [List.getElem?_map, List.getElem?_range h]
  rfl
theorem find_drop {α : Type} {p : α → Bool} {l : List α} {i : Nat} {x : α} (h : l[i]? = some x) : (l.drop i).find? p = if p x = true then some x else (l.drop (i + 1)).find? p := by
  obtain ⟨hi, rfl⟩ := List.getElem?_eq_some_iff.mp h
  rw [List.drop_eq_getElem_cons hi, List.find?_cons]
  cases p l[i] <;> rfl
def sp_crowded (K : PySem.W.Frag) (a : Ad) : Sp := fun vs H Q E => ∃ b w, vs = [b, w] ∧ ChkW K a b w H E fun n ws _ => ∀ (H' : Hp), Same H H' → Q (vO (crowdedL n ws)) H'
abbrev N_crowded : List Str := ["berths", "wishes", "tally", "wish", "many", "berth"]
def t_crowded (K : PySem.W.Frag) (a : Ad) (E : XK) : TS :=
  (tSeq (tDrop (tCall (sp_check_wishes K a) [] E (tCons (tVar 0) (tCons (tVar 1) tNil))))
    (tSeq (tAsg (tOp rRep (tLst (tCons (tC (.int 0)) tNil)) (tOp rAddI (tVar 0) (tC (.int 1)))) (gName 2))
    (tSeq (tFor (iSeq K (tVar 1)) (gName 3)
    (tAugS (tVar 2) (tVar 3) (tC (.int 1)) (rIxL K) ipAdd rSetL))
    (tSeq (tAsg (tC (.int 0)) (gName 4))
    (tSeq (tFor (iRng3 (tCons (tVar 0) (tCons (tC (.int 0)) (tCons (tUn (rU fun i => .int (-i)) (tC (.int 1))) tNil)))) (gName 5)
    (tSeq (tAug 4 (tOp (rIxL K) (tVar 2) (tVar 5)) ipAdd)
    (tIfS (tTest (tOp rGtI (tVar 4) (tOp rAddI (tOp rSubI (tVar 0) (tVar 5)) (tC (.int 1))))) (tRet (tVar 5)) tNext)))
    (tRet (tC .non)))))))
theorem len_crowded {K : PySem.W.Frag} {a : Ad} {vs : List V} {H : Hp} {Q : VK} {E : XK} (h : sp_crowded K a vs H Q E) : vs.length = 2 := by
  obtain ⟨b, w, rfl, _⟩ := h
  rfl
theorem pu_crowded {K : PySem.W.Frag} {a : Ad} {vs : List V} {H : Hp} {Q : VK} {E : XK} (h : sp_crowded K a vs H Q E) : t_crowded K a E { nx := fun _ H' => Q .non H', rt := Q } (start N_crowded vs) H := by
  obtain ⟨b, w, rfl, h⟩ := h
  refine ⟨b, rfl, w, rfl, b, w, rfl, ChkW.imp h fun n ws p eb ew h1 h2 hs hl hb q => ?_⟩
  subst eb
  subst ew
  -- tally = [0] * (berths + 1)
  refine ⟨by decide, fun l0 nl0 => ⟨.int n, rfl, n, 1, rfl, rfl, l0, _, _, rfl, rfl, upd_same, by omega, by omega, ?_, fun l1 nl1 => ?_⟩⟩
  · refine l1000 ?_
    show 1 * _ ≤ _
    omega
  have e1 : ((n : Int) + 1).toNat = n + 1 := by omega
  rw [e1, tallyL_new]
  have s0 : Same H (upd H l0 (.lst [.int 0])) := same_new nl0
  have n1 : H l1 = none := s0.free nl1
  have s1 := s0.store n1 (o := .lst (tallyL n []))
  refine for_seq (K := K) (H0 := H) (fun Q q => ⟨.ref p, rfl, q⟩) hs (fun i σ H' => (∃ y, σ = [some (.int n), some (.ref p), some (.ref l1), y, none, none]) ∧ Same H H' ∧ H' l1 = some (.lst (tallyL n (ws.take i)))) ⟨⟨none, rfl⟩, s1, upd_same⟩ (fun i σ H' h => h.2.1) ?_ ?_
  · rintro i x σ H' hx ⟨⟨y, rfl⟩, s, eh⟩
    obtain ⟨w, hw, rfl⟩ := item_of hx
    have bw := hb w (List.mem_of_getElem? hw)
    have ex : (tallyL n (ws.take i))[w.toNat]? = some (.int (cntEq (ws.take i) w)) := by
      rw [tallyL_at (by omega)]
      have : ((w.toNat : Nat) : Int) = w := by omega
      rw [this]
    refine ⟨.ref l1, rfl, .int w, rfl, l1, _, w, _, rfl, rfl, sqL_of eh, at_of (j := w.toNat) (by omega) ex, _, 1, rfl, rfl, l1, _, w, w.toNat, rfl, rfl, eh, ?_, ?_⟩
    · unfold ixN
      rw [if_pos (by omega), tallyL_len, if_pos (by omega)]
    refine ⟨⟨_, rfl⟩, s.store n1, ?_⟩
    rw [upd_same]
    rw [tallyL_set (by omega) bw.2, take_more hw]
  · rintro σ H' ⟨⟨y, rfl⟩, s, eh⟩
    rw [List.length_map, List.take_length] at eh
    refine ⟨.int n, rfl, _, rfl, n, 0, -1, ((n : Int) - 0).toNat, rfl, RgC.neg (by omega) (by omega) (by omega) (by omega), ?_⟩
    have en : ((n : Int) - 0).toNat = n := by omega
    rw [en]
    refine for_it walk_rangeC (fun i σ H2 => H2 = H' ∧ (∃ z, σ = [some (.int n), some (.ref p), some (.ref l1), y, some (.int (cntGe ws ((n : Int) - i + 1))), z]) ∧ crowdedL n ws = ((downTo n).drop i).find? fun b => decide ((n : Int) - b + 1 < (cntGe ws b : Int))) ⟨rfl, ⟨none, ?_⟩, rfl⟩ (fun _ _ _ _ _ => trivial) ?_ ?_
    · rw [show (n : Int) - ((0 : Nat) : Int) + 1 = (n : Int) + 1 by omega, cntGe_top hb]
      rfl
    · rintro i x σ H2 H3 hi ⟨rfl, ⟨z, rfl⟩, e⟩ ⟨rfl, ex0⟩
      rw [find_drop (downTo_at hi)] at e
      have ex : (tallyL n ws)[n - i]? = some (.int (cntEq ws ((n : Int) - i))) := by
        rw [tallyL_at (by omega)]
        have : (((n - i : Nat)) : Int) = (n : Int) - i := by omega
        rw [this]
      have ev : (n : Int) + (i : Int) * -1 = (n : Int) - i := by omega
      obtain rfl : x = .int ((n : Int) - i) := by
        rw [ex0]
        show V.int ((n : Int) + (i : Int) * -1) = _
        rw [ev]
      refine ⟨_, rfl, .ref l1, rfl, .int ((n : Int) - i), rfl, l1, _, (n : Int) - i, _, rfl, rfl, sqL_of eh, at_of (j := n - i) (by omega) ex, _, _, rfl, rfl, ?_⟩
      have step := cntGe_step ws ((n : Int) - i)
      refine ⟨_, rfl, .int n, rfl, .int ((n : Int) - i), rfl, n, _, rfl, rfl, _, 1, rfl, rfl, _, _, rfl, rfl, _, rfl, ?_⟩
      have e3 : ((cntGe ws ((n : Int) - i + 1) : Nat) : Int) + (cntEq ws ((n : Int) - i) : Nat) = (cntGe ws ((n : Int) - i) : Nat) := by omega
      refine ite2 (fun h => ?_) (fun h => ?_)
      · have h : (n : Int) - ((n : Int) - i) + 1 < ((cntGe ws ((n : Int) - i + 1) : Nat) : Int) + (cntEq ws ((n : Int) - i) : Nat) := of_decide_eq_true h
        rw [e3] at h
        rw [if_pos (decide_eq_true h)] at e
        refine ⟨.int ((n : Int) - i), rfl, ?_⟩
        have := q _ s
        rw [e] at this
        exact this
      · have h : ¬ (n : Int) - ((n : Int) - i) + 1 < ((cntGe ws ((n : Int) - i + 1) : Nat) : Int) + (cntEq ws ((n : Int) - i) : Nat) := fun z => h (decide_eq_true z)
        rw [e3] at h
        rw [if_neg (by simpa using h)] at e
        have e5 : ((cntGe ws ((n : Int) - i + 1) : Nat) : Int) + (cntEq ws ((n : Int) - i) : Nat) = (cntGe ws ((n : Int) - ((i + 1 : Nat) : Int) + 1) : Nat) := by
          rw [e3]
          have : (n : Int) - ((i + 1 : Nat) : Int) + 1 = (n : Int) - i := by omega
          rw [this]
        exact ⟨rfl, ⟨some (.int ((n : Int) - i)), congrArg (fun t => [some (V.int n), some (V.ref p), some (V.ref l1), y, some (V.int t), some (V.int ((n : Int) - i))]) e5⟩, e⟩
    · rintro σ H2 ⟨rfl, ⟨z, rfl⟩, e⟩
      have hd : (downTo n).drop n = [] := List.drop_eq_nil_of_le (by simp [downTo])
      rw [hd] at e
      have := q _ s
      rw [e] at this
      exact this
def sp_is_good (K : PySem.W.Frag) (a : Ad) : Sp := fun vs H Q E => ∃ b w, vs = [b, w] ∧ ChkW K a b w H E fun n ws _ => ∀ (H' : Hp), Same H H' → Q (.bl (crowdedL n ws).isNone) H'
abbrev N_is_good : List Str := ["berths", "wishes"]
def t_is_good (K : PySem.W.Frag) (a : Ad) (E : XK) : TS :=
  (tRet (tIsN (tCall (sp_crowded K a) [] E (tCons (tVar 0) (tCons (tVar 1) tNil)))))
theorem len_is_good {K : PySem.W.Frag} {a : Ad} {vs : List V} {H : Hp} {Q : VK} {E : XK} (h : sp_is_good K a vs H Q E) : vs.length = 2 := by
  obtain ⟨b, w, rfl, _⟩ := h
  rfl
theorem vO_isN (o : Option Int) : decide (vO o = .non) = o.isNone := by
  cases o <;> rfl
theorem pu_is_good {K : PySem.W.Frag} {a : Ad} {vs : List V} {H : Hp} {Q : VK} {E : XK} (h : sp_is_good K a vs H Q E) : t_is_good K a E { nx := fun _ H' => Q .non H', rt := Q } (start N_is_good vs) H := by
  obtain ⟨b, w, rfl, h⟩ := h
  refine ⟨b, rfl, w, rfl, b, w, rfl, ChkW.imp h fun n ws p eb ew h1 h2 hs hl hb q => ?_⟩
  intro H' s
  have := q H' s
  show Q (.bl (decide (vO (crowdedL n ws) = .non))) H'
  rw [vO_isN]
  exact this

/-! ### what the laws read of a script -/
def cellAt (ns : List Int) (k : Int) : Int := ns.getD k.toNat 0
theorem cut_drop (xs : List V) (k : Nat) : cutV xs (some (k : Int)) none = xs.drop k := by
  unfold cutV
  rw [HT.sIx_nat, HT.sIx_none]
  by_cases h : k ≤ xs.length
  · rw [Nat.min_eq_left h]
    exact List.take_of_length_le (by rw [List.length_drop]; omega)
  · rw [Nat.min_eq_right (by omega), Nat.sub_self, List.take_zero, List.drop_eq_nil_of_le (by omega)]
theorem cut2 (xs : List V) : cutV xs (some 2) none = xs.drop 2 := cut_drop xs 2
theorem atI_lit (xs : List V) (j : Nat) {v : V} (h : xs[j]? = some v) : atI xs (j : Int) = some v := atI_nat h
def sp_l_cell_at (K : PySem.W.Frag) : Sp := fun vs H Q _ => ∃ (s : Addr) (ns : List Int) (k : Int), vs = [.ref s, .int k] ∧ SqL K H s (ns.map V.int) ∧ 0 ≤ k ∧ Q (.int (cellAt ns k)) H
abbrev N_l_cell_at : List Str := ["_law_script", "_law_k"]
def t_l_cell_at (K : PySem.W.Frag) (a : Ad) : TS :=
  (tSeq (tIfS (tTest (tOp rLtI (tVar 1) (tCB (rLenSq K) (tCons (tVar 0) tNil)))) (tRet (tOp (rIxL K) (tVar 0) (tVar 1))) tNext)
    (tRet (tC (.int 0))))
theorem len_l_cell_at {K : PySem.W.Frag} {vs : List V} {H : Hp} {Q : VK} {E : XK} (h : sp_l_cell_at K vs H Q E) : vs.length = 2 := by
  obtain ⟨s, ns, k, rfl, _⟩ := h
  rfl
theorem pu_l_cell_at {K : PySem.W.Frag} {a : Ad} {vs : List V} {H : Hp} {Q : VK} {E : XK} (h : sp_l_cell_at K vs H Q E) : t_l_cell_at K a { nx := fun _ H' => Q .non H', rt := Q } (start N_l_cell_at vs) H := by
  obtain ⟨s, ns, k, rfl, hs, h0, q⟩ := h
  refine ⟨.int k, rfl, .ref s, rfl, s, _, rfl, .inl hs, _, _, rfl, rfl, _, rfl, ?_⟩
  by_cases h : k < ((ns.map V.int).length : Nat)
  · rw [decide_eq_true h]
    rw [List.length_map] at h
    have e : ns[k.toNat]? = some (cellAt ns k) := by
      unfold cellAt
      rw [List.getD_eq_getElem?_getD, List.getElem?_eq_getElem (by omega)]
      rfl
    refine iteT ⟨.ref s, rfl, .int k, rfl, s, _, k, _, rfl, rfl, hs, at_of (j := k.toNat) (by omega) (by rw [List.getElem?_map, e]; rfl), q⟩
  · rw [decide_eq_false h]
    rw [List.length_map] at h
    have e : cellAt ns k = 0 := by
      unfold cellAt
      rw [List.getD_eq_getElem?_getD, List.getElem?_eq_none (by omega)]
      rfl
    rw [e] at q
    exact iteF q
theorem p3 : (0 : Int) < 3 := by decide
theorem p4 : (0 : Int) < 4 := by decide
theorem d2 {n : Int} : CDiv n 2 := ⟨by decide, by decide⟩
theorem d3 {n : Int} : CDiv n 3 := ⟨by decide, by decide⟩
theorem d12 {n : Int} : CDiv n 12 := ⟨by decide, by decide⟩
theorem pick3 (c : Int) (x y z : V) : ∃ v, atI [x, y, z] (c % 3) = some v ∧ (v = x ∨ v = y ∨ v = z) := by
  have h : c % 3 = 0 ∨ c % 3 = 1 ∨ c % 3 = 2 := by omega
  rcases h with h | h | h <;> rw [h]
  · exact ⟨x, rfl, .inl rfl⟩
  · exact ⟨y, rfl, .inr (.inl rfl)⟩
  · exact ⟨z, rfl, .inr (.inr rfl)⟩
theorem pick4 (c : Int) (x y z u : V) : ∃ v, atI [x, y, z, u] (c % 4) = some v ∧ (v = x ∨ v = y ∨ v = z ∨ v = u) := by
  have h : c % 4 = 0 ∨ c % 4 = 1 ∨ c % 4 = 2 ∨ c % 4 = 3 := by omega
  rcases h with h | h | h | h <;> rw [h]
  · exact ⟨x, rfl, .inl rfl⟩
  · exact ⟨y, rfl, .inr (.inl rfl)⟩
  · exact ⟨z, rfl, .inr (.inr (.inl rfl))⟩
  · exact ⟨u, rfl, .inr (.inr (.inr rfl))⟩
/-! ### enumerate of a tuple -/
theorem draws_tup {prog : Program} {w : World} {A : Around} (hh : A.handled = none) (it l : Addr) (hne : l ≠ it) (items : Array Value) :
    Draws prog w A it [it, l] items.size (fun i v => items[i]? = some v) fun i h => h.IsTupleIter it l i ∧ h.IsTuple l items where
  live := fun i h ⟨⟨o, ho, _⟩, _⟩ => ⟨o, ho⟩
  frame := fun i h h' ⟨⟨o, ho, r⟩, ⟨o2, ho2, r2⟩⟩ hk => ⟨⟨o, hk it (by simp) o ho, r⟩, ⟨o2, hk l (by simp) o2 ho2, r2⟩⟩
  item := fun i s Q E hi ⟨st1, st2⟩ hQ => RZ.nextOf_tuple_item st1 st2 (Array.getElem?_eq_getElem hi) fun h' hit' hs' => by
    refine hQ _ h' s.toks (Array.getElem?_eq_getElem hi) ⟨hit', ?_⟩ hs'
    obtain ⟨o2, ho2, r2⟩ := st2
    exact ⟨o2, (hs'.2 l hne).trans ho2, r2⟩
  done := fun s Q E ⟨st1, st2⟩ hE => RZ.nextOf_tuple_end hh st1 st2 (by simp) hE
theorem draws_tupEnd {prog : Program} {w : World} {A : Around} (hh : A.handled = none) (it l : Addr) (hne : l ≠ it) (items : Array Value) (i : Nat) (hi : items[i]? = none) :
    Draws prog w A it [it, l] i (fun _ _ => False) fun j h => j = i ∧ h.IsTupleIter it l j ∧ h.IsTuple l items where
  live := fun i h ⟨_, ⟨o, ho, _⟩, _⟩ => ⟨o, ho⟩
  frame := fun i h h' ⟨e, ⟨o, ho, r⟩, ⟨o2, ho2, r2⟩⟩ hk => ⟨e, ⟨o, hk it (by simp) o ho, r⟩, ⟨o2, hk l (by simp) o2 ho2, r2⟩⟩
  item := fun j s Q E hj ⟨e, _⟩ hQ => by omega
  done := fun s Q E ⟨_, st1, st2⟩ hE => RZ.nextOf_tuple_end hh st1 st2 hi hE
theorem meets_enumerate_newT (l : Addr) (items : Array Value) : Meets (Builtin.«enumerate.__new__» { pos := [Value.type "enumerate", Value.ref l] }) fun x R s =>
    s.heap.IsTuple l items ∧ R (Except.ok (Flow.ret (Value.ref (s.heap.push { cls := Value.type "tuple_iterator", data := Data.fields #[Value.ref l, Value.int 0 0] }).objs.size)))
      { heap := (s.heap.push { cls := Value.type "tuple_iterator", data := Data.fields #[Value.ref l, Value.int 0 0] }).push { cls := Value.type "enumerate", data := Data.fields #[Value.none, Value.bool false, Value.ref s.heap.objs.size, rawInt 0, Value.none, Value.none] },
        gens := s.gens, drawn := s.drawn, toks := s.toks, os := s.os } := by
  refine Meets.of_wp fun prog w A R s h => ?_
  obtain ⟨hp, g, d, tk, os⟩ := s
  obtain ⟨hT, h⟩ := h
  have hsub := sub_enumerate
  have fin : ∀ (k : Sem PySem.Fin), k = (do
      let __do_lift ← pyIter (Value.ref l)
      let __do_lift ← Builtin.SmallTypes.newRecord (Value.type "enumerate") (Builtin.SmallTypes.ownedTupleFields ++ [__do_lift, rawInt 0, Value.none, Value.none])
      ret __do_lift) → wpAny (model prog w) A.in1 k (fun fin s' => ∃ v, fin = Fin.done (Flow.ret v) ∧ R (Except.ok (Flow.ret v)) s') (fun e s' => R (Except.error e) s') ⟨hp, g, d, tk, os⟩ := by
    rintro k rfl
    refine wpAny_bind ?_
    refine wpAny_pyIter_tuple (items := items) hT ?_
    refine wpAny_bind ?_
    unfold Builtin.SmallTypes.newRecord
    dsimp only
    unfold newObj
    refine wpAny_ite_false rfl (wpAny_bind (wpAny_alloc' ?_))
    exact wpAny_pure (wpAny_pure ⟨_, rfl, h⟩)
  unfold Builtin.«enumerate.__new__»
  refine wpAny_bind ?_
  unfold Builtin.SmallTypes.newClass
  refine wpAny_bind ?_
  refine wpAny_pure ?_
  refine wpAny_ite_false rfl (wpAny_bind (wpAny_of_eq hsub (wpAny_ite_false rfl (wpAny_pure (wpAny_ite_true rfl (wpAny_bind ?_))))))
  refine wpAny_bind (wpAny_stack_any fun st => wpAny_pure ?_)
  have both : ∀ b : Bool, b = true ∨ b = false := fun b => by cases b <;> simp
  split
  · rename_i c tail kw snd tail_1 _
    rcases both (c == Value.type "enumerate") with e | e
    · rw [e]
      exact wpAny_ite_true rfl (wpAny_bind (wpAny_of_eq (a := (Value.ref l, (none : Option Value))) rfl (fin _ rfl)))
    · rw [e]
      exact wpAny_ite_false rfl (wpAny_bind (wpAny_of_eq (a := (Value.ref l, (none : Option Value))) rfl (fin _ rfl)))
  · exact wpAny_ite_false rfl (wpAny_bind (wpAny_of_eq (a := (Value.ref l, (none : Option Value))) rfl (fin _ rfl)))
theorem call_enumerate_tup {prog : Program} {w : World} {A : Around} {E : Value → Shared → Prop} {s : Shared} {l : Addr} {items : Array Value} {Q : Value → Shared → Prop} (hL : s.heap.IsTuple l items)
    (h : ∀ h' : Heap, IsEnum h' (s.heap.objs.size + 1) s.heap.objs.size 0 Value.none → h'.IsTupleIter s.heap.objs.size l 0 → h'.objs.size = s.heap.objs.size + 2 → (∀ (b : Addr) (o : Obj), s.heap.get? b = some o → h'.get? b = some o) →
      Q (Value.ref (s.heap.objs.size + 1)) { heap := h', gens := s.gens, drawn := s.drawn, toks := s.toks, os := s.os }) : wpAny (model prog w) A (call (Value.type "enumerate") [Value.ref l]) Q E s := by
  refine callType_new F.called_enumerate (by decide) (F.typeCall_enumerate_1 (Value.ref l)) (F.newCall_enumerate_1 (Value.ref l)) (fun obj => F.args_object_init_2 obj (Value.ref l)) F.entry_enumerate_new (meets_enumerate_newT l items) ⟨hL, ?_⟩
  have hz := Heap.size_push s.heap { cls := Value.type "tuple_iterator", data := Data.fields #[Value.ref l, Value.int 0 0] }
  have he := Heap.get?_push_size (s.heap.push { cls := Value.type "tuple_iterator", data := Data.fields #[Value.ref l, Value.int 0 0] }) (o := { cls := Value.type "enumerate", data := Data.fields #[Value.none, Value.bool false, Value.ref s.heap.objs.size, rawInt 0, Value.none, Value.none] }) rfl
  show _ ∧ _
  rw [hz] at he ⊢
  refine ⟨⟨_, he, rfl⟩, h _ he ⟨_, Heap.get?_push_of_some _ (Heap.get?_push_size s.heap rfl), rfl, rfl⟩ ?_ fun b o x => Heap.get?_push_of_some _ (Heap.get?_push_of_some _ x)⟩
  rw [Heap.size_push, hz]
def Iet (K : PySem.W.Frag) (a : Addr) : It where
  go := fun i H => ∃ xs x, SqT K H a xs ∧ xs[i]? = some x
  yld := fun i H v H' => ∃ T x, v = V.ref T ∧ H T = none ∧ H' = upd H T (HO.tup [V.int (i : Nat), x]) ∧ ∀ (xs : List V), SqT K H a xs → xs[i]? = some x
  stop := fun i H => ∃ xs, SqT K H a xs ∧ xs.length ≤ i
theorem turn_enumT {P : Program} {w : World} {K : PySem.W.Frag} {elts : List PySem.Expr} {kk : Nat} {tpos : Pos} (a e it : Addr) :
    Turn P w K (Expr.Tuple elts kk tpos) (Iet K a) [e, it] e fun i h => (∃ old, IsEnum h e it (i : Nat) old) ∧ h.IsTupleIter it a i ∧ e ≠ it ∧ a ≠ it ∧ a ≠ e where
  mem := by simp
  obj := by
    rintro i h ⟨⟨old, he⟩, ⟨o, ho, hc, hd⟩, _⟩ b hb
    rcases (by simpa using hb : b = e ∨ b = it) with z | z
    · rw [z]
      exact ⟨_, he, fun v q => nomatch q⟩
    · rw [z]
      refine ⟨o, ho, fun v q => ?_⟩
      rw [hd] at q
      cases q
  keep := by
    rintro i h h' ⟨⟨old, he⟩, ⟨o, ho, r⟩, hne⟩ k
    exact ⟨⟨old, k e (by simp) _ he⟩, ⟨o, k it (by simp) _ ho, r⟩, hne⟩
  item := by
    rintro X rfl rfl rfl hc i pins s σ H E I hf ⟨⟨old, he⟩, hit, hne, hai, hae⟩ ⟨xs, x, hq, hx⟩
    obtain ⟨its, rv, p, hz⟩ := I.tuple hq
    obtain ⟨u, hu, ru⟩ := rv.get hx
    have hel := Heap.lt_size he
    have hil : it < s.heap.objs.size := by
      obtain ⟨o, ho, _⟩ := hit
      exact Heap.lt_size ho
    have hsz := its.size_toArray
    have hi : i < its.toArray.size := by
      rw [hsz]
      exact (List.getElem?_eq_some_iff.mp hu).1
    have D := draws_tup (prog := X.prog) (w := X.w) (A := X.A.in1) (I.ok.hd hc) it a hai its.toArray
    refine wpAny_pyNext_enum_itemD D he ⟨hit, p⟩ hi hne (by simp [hne, Ne.symm hae]) fun y h' tk hy ho hst hT hsz' hk => ?_
    have ey : y = u := by
      have : its.toArray[i]? = some u := by simpa using hu
      rw [this] at hy
      exact (Option.some.inj hy).symm
    subst ey
    refine ⟨_, rfl, wpAny_letOwnedTupleGo_enum ho fun h'' he' sb => ?_⟩
    have hT2 := (sb.2 s.heap.objs.size (Nat.ne_of_gt hel)).trans hT
    have k2 : ∀ (b : Addr) (o : Obj), b ∉ [e, it] → s.heap.get? b = some o → h''.get? b = some o := fun b o hb q => by
      have hb' : b ≠ e ∧ b ≠ it := by simpa using hb
      exact (sb.2 b hb'.1).trans (hk b o hb'.1 hb'.2 q)
    have I1 : L2.Inv X pins σ (upd H s.heap.objs.size (.tup [V.int (i : Nat), x])) { heap := h'', gens := s.gens, drawn := s.drawn, toks := tk + 1, os := s.os } :=
      Inv.turnedNew I k2 hf (Nat.le_refl _) ⟨(by show (2 : Nat) ≤ sizeLine; decide), [Value.int (i : Nat) tk, y], .cons ⟨tk, rfl⟩ (.cons ru .nil), _, hT2, rfl, 0, rfl⟩
    refine ⟨.ref s.heap.objs.size, _, I1, rfl, ⟨_, x, rfl, I.hok.fresh (Nat.le_refl _), rfl, fun ys hy => ?_⟩, ⟨⟨y, ?_⟩, ?_, hne, hai, hae⟩, fun b hb => ?_⟩
    · have e2 : ys = xs := I.tuple_inj hy hq
      rw [e2]
      exact hx
    · have : ((i + 1 : Nat) : Int) = (i : Int) + 1 := by omega
      rw [this]
      exact he'
    · obtain ⟨⟨o, ho, r⟩, _⟩ := hst
      exact ⟨o, (sb.2 it (Ne.symm hne)).trans ho, r⟩
    · have hb' : b < s.heap.objs.size := by
        rcases (by simpa using hb : b = e ∨ b = it) with z | z <;> (rw [z]; assumption)
      rw [upd_ne (Nat.ne_of_lt hb')]
      exact (hf b hb).1
  done := by
    rintro X rfl rfl rfl hc i pins s σ H E I hf ⟨⟨old, he⟩, hit, hne, hai, hae⟩ ⟨xs, hq, hx⟩
    obtain ⟨its, rv, p, hz⟩ := I.tuple hq
    have hl := rv.length
    have hsz : its.toArray.size = its.length := its.size_toArray
    obtain ⟨f0, f1, f2, f3, f4, f5⟩ := hf e (by simp)
    have D := draws_tupEnd (prog := X.prog) (w := X.w) (A := X.A.in1) (I.ok.hd hc) it a hai its.toArray i (Array.getElem?_eq_none (by omega))
    refine wpAny_pyNext_enum_endD D he ⟨rfl, hit, p⟩ fun h' eb => ⟨rfl, ?_⟩
    obtain ⟨g0, g1, g2, g3, g4, g5⟩ := hf it (by simp)
    exact Inv.turned I (fun b o hb q => eb b o hb q) g0 g1 g3 g4 g5
  self := by
    rintro A i s Q E ⟨⟨old, he⟩, _⟩ h
    exact wpAny_pyIter_enum he h
theorem walk_enumT {K : PySem.W.Frag} {a : Addr} {xs : List V} : Walk (Iet K a) xs.length (fun H => SqT K H a xs) (YPair (fun i => some (.int (i : Nat))) (fun i => xs[i]?)) where
  goes := fun i H hi h => ⟨xs, xs[i], h, List.getElem?_eq_getElem hi⟩
  stops := fun H h => ⟨xs, h, Nat.le_refl _⟩
  yields := by
    rintro i H v H' hi h ⟨T, x, rfl, nT, rfl, q⟩
    exact ⟨T, _, x, rfl, nT, rfl, rfl, q xs h⟩
def iEnumT (K : PySem.W.Frag) (ta : TA) : TI := fun σ H R => ta σ H fun vs H1 => ∃ a xs, vs = [V.ref a] ∧ SqT K H1 a xs ∧ R (Iet K a) H1
def iEnumS (K : PySem.W.Frag) (ta : TA) : TI := fun σ H R => iEnum K ta σ H R ∨ iEnumT K ta σ H R
theorem pi_enumT {X : Cx} {e : PySem.Expr} {ta : TA} {p pos tpos : Pos} {elts : List PySem.Expr} {kk : Nat} (hg : Gl X "enumerate") (hm : X.mg "enumerate" = none) (ha : PA X [e] ta)
    (hs : starEach [e] X.env = [(false, eval e X.env)] := by rfl) : PI X (Expr.Tuple elts kk tpos) ((Expr.Name "enumerate" p).Call [e] [] pos) (iEnumT X.K ta) := by
  refine ⟨fun pins s σ H R I h => ?_⟩
  refine PyProof.Rows.Call_ (ld_blt I hg hm PyProof.Rows.boot_enumerate (PyProof.Rows.callWith_type1 (thn (ha.run pos pins s σ H _ I h) fun us s1 ⟨vs, H1, I1, r1, a, xs, ev, hq, q⟩ => ?_) hs rfl))
  subst ev
  obtain ⟨u, rfl, ru⟩ := vals1 r1
  cases (show u = Value.ref a from ru)
  obtain ⟨its, rv, p', hz⟩ := I1.tuple hq
  refine call_enumerate_tup p' fun h' he hit hsz hk => wpAny_pyIter_enum he ?_
  have I2 := I1.kept (t' := s1.toks) hk
  have l0 : a < s1.heap.objs.size := by
    obtain ⟨o, ho, _⟩ := p'
    exact Heap.lt_size ho
  refine ⟨_, [s1.heap.objs.size + 1, s1.heap.objs.size], _, Iet X.K a, H1, rfl, I2, turn_enumT a _ _, ⟨⟨_, he⟩, hit, (Nat.succ_ne_self _), Nat.ne_of_lt l0, Nat.ne_of_lt (Nat.lt_succ_of_lt l0)⟩, fun b hb => ?_, q⟩
  have hb' : s1.heap.objs.size ≤ b := by
    rcases (by simpa using hb : b = s1.heap.objs.size + 1 ∨ b = s1.heap.objs.size) with z | z
    · rw [z]; exact Nat.le_succ _
    · rw [z]; exact Nat.le_refl _
  exact I1.fpOk hb' (I1.hok.fresh hb')
theorem pi_enumS {X : Cx} {e : PySem.Expr} {ta : TA} {p pos tpos : Pos} {elts : List PySem.Expr} {kk : Nat} (hg : Gl X "enumerate") (hm : X.mg "enumerate" = none) (ha : PA X [e] ta)
    (hs : starEach [e] X.env = [(false, eval e X.env)] := by rfl) : PI X (Expr.Tuple elts kk tpos) ((Expr.Name "enumerate" p).Call [e] [] pos) (iEnumS X.K ta) :=
  ⟨fun pins s σ H R I h => h.elim (fun h => (pi_enum hg hm ha hs).run pins s σ H R I h) (fun h => (pi_enumT hg hm ha hs).run pins s σ H R I h)⟩

/-! ### trees: the mathematics -/
/-- the knots that T (a tree's row of the knots above, or a row of wishes) sends to a, rising -/
def kn (T : List Nat) (a : Nat) : List Nat := ((List.range T.length).filter fun i => decide (T[i]? = some a)).map (· + 1)
theorem mem_kn {T : List Nat} {a k : Nat} : k ∈ kn T a ↔ 1 ≤ k ∧ T[k - 1]? = some a := by
  unfold kn
  rw [List.mem_map]
  constructor
  · rintro ⟨i, h, rfl⟩
    rw [List.mem_filter] at h
    exact ⟨by omega, by simpa using h.2⟩
  · rintro ⟨h1, h2⟩
    refine ⟨k - 1, List.mem_filter.mpr ⟨List.mem_range.mpr (List.getElem?_eq_some_iff.mp h2).1, by simpa using h2⟩, by omega⟩
theorem kn_nodup (T : List Nat) (a : Nat) : (kn T a).Nodup := by
  unfold kn
  refine List.Pairwise.map _ (fun x y h => by omega) (List.Pairwise.filter _ List.nodup_range)
theorem kn_congr {T S : List Nat} {a b : Nat} (hl : T.length = S.length) (h : ∀ i, i < T.length → (T[i]? = some a ↔ S[i]? = some b)) : kn T a = kn S b := by
  unfold kn
  rw [hl]
  congr 1
  refine List.filter_congr fun i hi => ?_
  rw [List.mem_range] at hi
  have := h i (by omega)
  by_cases e : T[i]? = some a
  · rw [decide_eq_true e, decide_eq_true (this.mp e)]
  · rw [decide_eq_false e, decide_eq_false (fun z => e (this.mpr z))]
theorem fm_nodup {T : List Nat} : ∀ {l : List Nat}, l.Nodup → (0 :: l.flatMap (kn T)).Nodup
  | [], _ => by simp
  | a :: r, h => by
    rw [List.nodup_cons] at h
    have ih := fm_nodup (T := T) h.2
    rw [List.nodup_cons] at ih ⊢
    rw [List.flatMap_cons]
    refine ⟨?_, ?_⟩
    · intro z
      rcases List.mem_append.mp z with z | z
      · have := (mem_kn.mp z).1
        omega
      · exact ih.1 z
    · rw [List.nodup_append]
      refine ⟨kn_nodup _ _, ih.2, fun x hx y hy e => ?_⟩
      subst e
      obtain ⟨b, hb, hy⟩ := List.mem_flatMap.mp hy
      have e1 := (mem_kn.mp hx).2
      have e2 := (mem_kn.mp hy).2
      rw [e1] at e2
      cases e2
      exact h.1 hb
/-- knots come to: after b visits -/
def met (T : List Nat) : Nat → List Nat
  | 0 => [0]
  | b + 1 => met T b ++ (match (met T b)[b]? with | some a => kn T a | none => [])
theorem met_step {T : List Nat} {b a : Nat} (h : (met T b)[b]? = some a) : met T (b + 1) = met T b ++ kn T a := by
  rw [met, h]
theorem met_stuck {T : List Nat} {b : Nat} (h : (met T b).length ≤ b) : met T (b + 1) = met T b := by
  rw [met, List.getElem?_eq_none h, List.append_nil]
theorem met_pre {T : List Nat} (b : Nat) : ∀ k, met T b <+: met T (b + k)
  | 0 => List.prefix_refl _
  | k + 1 => (met_pre b k).trans ⟨_, rfl⟩
theorem met_at {T : List Nat} {b c i x : Nat} (h : (met T b)[i]? = some x) (hc : b ≤ c) : (met T c)[i]? = some x := by
  obtain ⟨k, rfl⟩ : ∃ k, c = b + k := ⟨c - b, by omega⟩
  obtain ⟨t, e⟩ := met_pre (T := T) b k
  rw [← e, List.getElem?_append_left (List.getElem?_eq_some_iff.mp h).1]
  exact h
theorem met_all {T : List Nat} : ∀ b, met T b = 0 :: ((met T b).take b).flatMap (kn T)
  | 0 => rfl
  | b + 1 => by
    have ih := met_all (T := T) b
    cases e : (met T b)[b]? with
    | none =>
      have hl : (met T b).length ≤ b := by
        by_cases z : b < (met T b).length
        · rw [List.getElem?_eq_getElem z] at e
          cases e
        · omega
      rw [met_stuck hl, List.take_of_length_le (by omega)]
      rw [List.take_of_length_le hl] at ih
      exact ih
    | some a =>
      have hl := (List.getElem?_eq_some_iff.mp e).1
      rw [met_step e, List.take_append_of_le_length (by omega), List.take_add_one, e, List.flatMap_append]
      show _ = (0 :: _) ++ _
      rw [← ih]
      simp
theorem met_nodup {T : List Nat} : ∀ b, (met T b).Nodup
  | 0 => by simp [met]
  | b + 1 => by
    rw [met_all (b + 1)]
    refine fm_nodup ?_
    have ih := met_nodup (T := T) b
    cases e : (met T b)[b]? with
    | none =>
      have hl : (met T b).length ≤ b := by
        by_cases z : b < (met T b).length
        · rw [List.getElem?_eq_getElem z] at e
          cases e
        · omega
      rw [met_stuck hl]
      exact List.Nodup.sublist (List.take_sublist _ _) ih
    | some a =>
      have hl := (List.getElem?_eq_some_iff.mp e).1
      rw [met_step e, List.take_append_of_le_length (by omega)]
      exact List.Nodup.sublist (List.take_sublist _ _) ih
theorem met_le {T : List Nat} {b k : Nat} (h : k ∈ met T b) : k ≤ T.length := by
  rw [met_all b] at h
  rcases List.mem_cons.mp h with h | h
  · omega
  · obtain ⟨a, _, h⟩ := List.mem_flatMap.mp h
    obtain ⟨h1, h2⟩ := mem_kn.mp h
    have := (List.getElem?_eq_some_iff.mp h2).1
    omega
theorem nsub_len : ∀ {l1 l2 : List Nat}, l1.Nodup → (∀ x ∈ l1, x ∈ l2) → l1.length ≤ l2.length
  | [], _, _, _ => Nat.zero_le _
  | x :: r, l2, h, s => by
    rw [List.nodup_cons] at h
    have := nsub_len (l1 := r) (l2 := l2.erase x) h.2 fun y hy => by
      have hne : y ≠ x := fun z => h.1 (z ▸ hy)
      exact (List.mem_erase_of_ne hne).mpr (s y (List.mem_cons_of_mem _ hy))
    have hx := s x List.mem_cons_self
    rw [List.length_erase_of_mem hx] at this
    have := List.length_pos_of_mem hx
    rw [List.length_cons]
    omega
theorem met_len {T : List Nat} (b : Nat) : (met T b).length ≤ T.length + 1 := by
  have := nsub_len (l2 := List.range (T.length + 1)) (met_nodup (T := T) b) fun x hx => List.mem_range.mpr (by have := met_le hx; omega)
  rw [List.length_range] at this
  exact this
theorem met_end {T : List Nat} {b : Nat} (h : (met T b).length ≤ b) : ∀ k, met T (b + k) = met T b
  | 0 => rfl
  | k + 1 => by
    have ih := met_end h k
    rw [← Nat.add_assoc, met_stuck (by rw [ih]; omega), ih]
/-- all that are come to -/
def metA (T : List Nat) : List Nat := met T (T.length + 1)
theorem metA_at {T : List Nat} {b : Nat} (h : (met T b).length ≤ b) : metA T = met T b := by
  unfold metA
  by_cases z : b ≤ T.length + 1
  · obtain ⟨k, e⟩ : ∃ k, T.length + 1 = b + k := ⟨T.length + 1 - b, by omega⟩
    rw [e, met_end h]
  · obtain ⟨k, e⟩ : ∃ k, b = (T.length + 1) + k := ⟨b - (T.length + 1), by omega⟩
    rw [e, met_end (met_len _)]
theorem metA_all {T : List Nat} : metA T = 0 :: (metA T).flatMap (kn T) := by
  have h := met_all (T := T) (T.length + 1)
  rw [List.take_of_length_le (met_len _)] at h
  exact h
theorem metA_nodup (T : List Nat) : (metA T).Nodup := met_nodup _
/-- a tree: each knot is come to -/
def Rooted (T : List Nat) : Prop := T.length < (metA T).length
theorem rooted_mem {T : List Nat} (h : Rooted T) {k : Nat} (hk : k ≤ T.length) : k ∈ metA T := by
  by_cases z : k ∈ metA T
  · exact z
  · exfalso
    have := nsub_len (l2 := List.range (T.length + 1)) (l1 := k :: metA T) (List.nodup_cons.mpr ⟨z, metA_nodup T⟩) fun x hx => List.mem_range.mpr (by
      rcases List.mem_cons.mp hx with hx | hx
      · omega
      · have := met_le hx
        omega)
    rw [List.length_range, List.length_cons] at this
    have h : T.length < (metA T).length := h
    omega
theorem met_long {T : List Nat} (h : Rooted T) {b : Nat} (hb : b ≤ T.length) : b < (met T b).length := by
  by_cases z : b < (met T b).length
  · exact z
  · have e := metA_at (T := T) (b := b) (by omega)
    have h : T.length < (metA T).length := h
    rw [e] at h
    omega
theorem rooted_last {T : List Nat} (h : Rooted T) : met T T.length = metA T := by
  have hl := met_long h (Nat.le_refl _)
  have := met_len (T := T) T.length
  unfold metA
  obtain ⟨t, e⟩ := met_pre (T := T) T.length 1
  have h2 := met_len (T := T) (T.length + 1)
  rw [← e, List.length_append] at h2
  have : t = [] := List.length_eq_zero_iff.mp (by omega)
  rw [← e, this, List.append_nil]
/-! the row of a tree -/
def rowL (T : List Nat) : List Nat := T.map fun a => (metA T).idxOf a + 1
/-- the knots come to by a row -/
def comes (R : List Nat) (b : Nat) : List Nat := 0 :: ((List.range b).map (· + 1)).flatMap (kn R)
theorem comes_succ {R : List Nat} {b : Nat} : comes R (b + 1) = comes R b ++ kn R (b + 1) := by
  unfold comes
  rw [List.range_succ, List.map_append, List.flatMap_append]
  simp
def treeL (R : List Nat) : List Nat := R.map fun w => (comes R R.length).getD (w - 1) 0
theorem comes_nodup (R : List Nat) (b : Nat) : (comes R b).Nodup := fm_nodup (List.Pairwise.map _ (fun x y h => by omega) List.nodup_range)
theorem idx_at {l : List Nat} (nd : l.Nodup) {i x : Nat} (h : l[i]? = some x) : l.idxOf x = i := by
  obtain ⟨hi, e⟩ := List.getElem?_eq_some_iff.mp h
  rw [← e]
  exact nd.idxOf_getElem i hi
theorem at_idx {l : List Nat} {x : Nat} (h : x ∈ l) : l[l.idxOf x]? = some x := by
  have := List.idxOf_lt_length_of_mem h
  rw [List.getElem?_eq_getElem this, List.getElem_idxOf]
theorem rowL_at {T : List Nat} {i a : Nat} (h : T[i]? = some a) : (rowL T)[i]? = some ((metA T).idxOf a + 1) := by
  unfold rowL
  rw [List.getElem?_map, h]
  rfl
theorem rowL_len (T : List Nat) : (rowL T).length = T.length := by simp [rowL]
theorem kn_row {T : List Nat} (h : Rooted T) (hT : ∀ a ∈ T, a ≤ T.length) {b a : Nat} (hb : (metA T)[b]? = some a) : kn (rowL T) (b + 1) = kn T a := by
  refine kn_congr (rowL_len T) fun i hi => ?_
  rw [rowL_len] at hi
  have e : T[i]? = some T[i] := List.getElem?_eq_getElem hi
  rw [rowL_at e, e]
  have hm := rooted_mem h (hT _ (List.getElem_mem hi))
  constructor
  · intro z
    have z : (metA T).idxOf T[i] = b := by simpa using z
    have := at_idx hm
    rw [z, hb] at this
    exact this.symm
  · intro z
    have z : T[i] = a := by simpa using z
    rw [z, idx_at (metA_nodup T) hb]
theorem comes_row {T : List Nat} (h : Rooted T) (hT : ∀ a ∈ T, a ≤ T.length) : ∀ b, b ≤ T.length → comes (rowL T) b = met T b
  | 0, _ => rfl
  | b + 1, hb => by
    have ih := comes_row h hT b (by omega)
    have hl := met_long h (show b ≤ T.length by omega)
    have e : (met T b)[b]? = some (met T b)[b] := List.getElem?_eq_getElem hl
    rw [comes_succ, ih, met_step e, kn_row h hT (b := b) (a := (met T b)[b]) (met_at e (by omega))]
theorem tree_row {T : List Nat} (h : Rooted T) (hT : ∀ a ∈ T, a ≤ T.length) : treeL (rowL T) = T := by
  unfold treeL
  rw [rowL_len, comes_row h hT _ (Nat.le_refl _), rooted_last h]
  apply List.ext_getElem?
  intro i
  rw [List.getElem?_map]
  by_cases hi : i < T.length
  · have e : T[i]? = some T[i] := List.getElem?_eq_getElem hi
    rw [rowL_at e, e]
    have hm := rooted_mem h (hT _ (List.getElem_mem hi))
    simp only [Option.map_some, Nat.add_sub_cancel]
    rw [List.getD_eq_getElem?_getD, at_idx hm]
    rfl
  · rw [List.getElem?_eq_none (by omega : T.length ≤ i), List.getElem?_eq_none (by rw [rowL_len]; omega)]
    rfl
theorem row_in {T : List Nat} (h : Rooted T) (hT : ∀ a ∈ T, a ≤ T.length) {r : Nat} (hr : r ∈ rowL T) : 1 ≤ r ∧ r ≤ T.length := by
  unfold rowL at hr
  obtain ⟨a, ha, rfl⟩ := List.mem_map.mp hr
  refine ⟨by omega, ?_⟩
  have hm := rooted_mem h (hT a ha)
  have hi := List.idxOf_lt_length_of_mem hm
  have hl := met_len (T := T) (T.length + 1)
  have hl : (metA T).length ≤ T.length + 1 := hl
  by_cases z : (metA T).idxOf a = T.length
  · exfalso
    obtain ⟨i, hi2, e⟩ := List.getElem_of_mem ha
    have ek : i + 1 ∈ kn T a := mem_kn.mpr ⟨by omega, by rw [Nat.add_sub_cancel, List.getElem?_eq_getElem hi2, e]⟩
    have e3 : (met T T.length)[T.length]? = some a := by
      have := at_idx hm
      rw [z] at this
      rw [rooted_last h]
      exact this
    have e4 : metA T = met T T.length ++ kn T a := met_step e3
    rw [rooted_last h] at e4
    have e5 := congrArg List.length e4
    rw [List.length_append] at e5
    have := List.length_pos_of_mem ek
    omega
  · omega
/-- what goes up -/
def up (T : List Nat) (k : Nat) : Nat := if k = 0 then 0 else T.getD (k - 1) 0
def ups (T : List Nat) : Nat → Nat → Nat
  | 0, k => k
  | s + 1, k => ups T s (up T k)
theorem ups_zero {T : List Nat} : ∀ s, ups T s 0 = 0
  | 0 => rfl
  | s + 1 => ups_zero s
theorem ups_more {T : List Nat} : ∀ {s t k : Nat}, ups T s k = 0 → s ≤ t → ups T t k = 0
  | 0, t, k, h, _ => by
    have h : k = 0 := h
    rw [h, ups_zero]
  | s + 1, 0, k, h, ht => by omega
  | s + 1, t + 1, k, h, ht => ups_more (s := s) (t := t) (k := up T k) h (by omega)
theorem met_up {T : List Nat} : ∀ {b k : Nat}, k ∈ met T b → ups T b k = 0
  | 0, k, h => by
    have h : k ∈ [0] := h
    rw [List.mem_singleton.mp h]
    rfl
  | b + 1, k, h => by
    rw [met] at h
    rcases List.mem_append.mp h with h | h
    · exact ups_more (met_up h) (by omega)
    · cases e : (met T b)[b]? with
      | none => rw [e] at h; cases h
      | some a =>
        rw [e] at h
        obtain ⟨h1, h2⟩ := mem_kn.mp h
        show ups T b (up T k) = 0
        have : up T k = a := by
          unfold up
          rw [if_neg (by omega), List.getD_eq_getElem?_getD, h2]
          rfl
        rw [this]
        exact met_up (List.mem_of_getElem? e)
theorem up_met {T : List Nat} : ∀ {s k : Nat}, k ≤ T.length → (∀ a ∈ T, a ≤ T.length) → ups T s k = 0 → k ∈ metA T
  | 0, k, hk, _, h => by
    have h : k = 0 := h
    rw [h, metA_all]
    exact List.mem_cons_self
  | s + 1, k, hk, hT, h => by
    by_cases z : k = 0
    · rw [z, metA_all]
      exact List.mem_cons_self
    have hi : k - 1 < T.length := by omega
    have e : T[k - 1]? = some T[k - 1] := List.getElem?_eq_getElem hi
    have eu : up T k = T[k - 1] := by
      unfold up
      rw [if_neg z, List.getD_eq_getElem?_getD, e]
      rfl
    have h : ups T s (up T k) = 0 := h
    rw [eu] at h
    have := up_met (hT _ (List.getElem_mem hi)) hT h
    rw [metA_all]
    exact List.mem_cons_of_mem _ (List.mem_flatMap.mpr ⟨_, this, mem_kn.mpr ⟨by omega, e⟩⟩)
theorem rooted_iff {T : List Nat} (hT : ∀ a ∈ T, a ≤ T.length) : Rooted T ↔ ∀ k, 1 ≤ k → k ≤ T.length → ups T (T.length + 1) k = 0 := by
  constructor
  · intro h k _ hk
    exact met_up (rooted_mem h hk)
  · intro h
    have := nsub_len (l1 := List.range (T.length + 1)) (l2 := metA T) List.nodup_range fun x hx => by
      have hx := List.mem_range.mp hx
      by_cases z : x = 0
      · rw [z, metA_all]
        exact List.mem_cons_self
      · exact up_met (by omega) hT (h x (by omega) (by omega))
    rw [List.length_range] at this
    show T.length < _
    omega
/-! the tree of a row -/
def FullR (R : List Nat) : Prop := (∀ w ∈ R, 1 ≤ w ∧ w ≤ R.length) ∧ ∀ b, b ≤ R.length → b < (comes R b).length
theorem comes_pre {R : List Nat} (b : Nat) : ∀ k, comes R b <+: comes R (b + k)
  | 0 => List.prefix_refl _
  | k + 1 => by
    rw [← Nat.add_assoc, comes_succ]
    exact (comes_pre b k).trans ⟨_, rfl⟩
theorem comes_at {R : List Nat} {b c i x : Nat} (h : (comes R b)[i]? = some x) (hc : b ≤ c) : (comes R c)[i]? = some x := by
  obtain ⟨k, rfl⟩ : ∃ k, c = b + k := ⟨c - b, by omega⟩
  obtain ⟨t, e⟩ := comes_pre (R := R) b k
  rw [← e, List.getElem?_append_left (List.getElem?_eq_some_iff.mp h).1]
  exact h
theorem comes_le {R : List Nat} {b : Nat} : (comes R b).length ≤ R.length + 1 := by
  have := nsub_len (l2 := List.range (R.length + 1)) (comes_nodup R b) fun x hx => List.mem_range.mpr (by
    unfold comes at hx
    rcases List.mem_cons.mp hx with h | h
    · omega
    · obtain ⟨a, _, h⟩ := List.mem_flatMap.mp h
      obtain ⟨h1, h2⟩ := mem_kn.mp h
      have := (List.getElem?_eq_some_iff.mp h2).1
      omega)
  rw [List.length_range] at this
  exact this
theorem treeL_len (R : List Nat) : (treeL R).length = R.length := by simp [treeL]
theorem kn_tree {R : List Nat} (h : FullR R) {b a : Nat} (hb : (comes R R.length)[b]? = some a) : kn (treeL R) a = kn R (b + 1) := by
  refine kn_congr (treeL_len R) fun i hi => ?_
  rw [treeL_len] at hi
  have e : R[i]? = some R[i] := List.getElem?_eq_getElem hi
  have hw := h.1 _ (List.getElem_mem hi)
  have hl := h.2 R.length (Nat.le_refl _)
  have hlt : R[i] - 1 < (comes R R.length).length := by omega
  unfold treeL
  rw [List.getElem?_map, e]
  simp only [Option.map_some, List.getD_eq_getElem?_getD, List.getElem?_eq_getElem hlt, Option.getD_some, Option.some.injEq]
  constructor
  · intro z
    have e1 := idx_at (comes_nodup R R.length) hb
    have e2 := idx_at (comes_nodup R R.length) (List.getElem?_eq_getElem hlt)
    rw [z, e1] at e2
    omega
  · intro z
    have e3 : R[i] - 1 = b := by omega
    have e4 : (comes R R.length)[R[i] - 1]? = some a := by rw [e3]; exact hb
    exact (List.getElem?_eq_some_iff.mp e4).2
theorem met_tree {R : List Nat} (h : FullR R) : ∀ b, b ≤ R.length → met (treeL R) b = comes R b
  | 0, _ => rfl
  | b + 1, hb => by
    have ih := met_tree h b (by omega)
    have hl := h.2 b (by omega)
    have e : (comes R b)[b]? = some (comes R b)[b] := List.getElem?_eq_getElem hl
    rw [met_step (a := (comes R b)[b]) (by rw [ih]; exact e), ih, comes_succ, kn_tree h (comes_at e (by omega))]
theorem metA_tree {R : List Nat} (h : FullR R) : metA (treeL R) = comes R R.length := by
  have e := met_tree h R.length (Nat.le_refl _)
  have hl := h.2 R.length (Nat.le_refl _)
  have hle := met_len (T := treeL R) (R.length + 1)
  rw [treeL_len] at hle
  unfold metA
  rw [treeL_len]
  obtain ⟨t, e2⟩ := met_pre (T := treeL R) R.length 1
  rw [← e2, e]
  rw [← e2, e, List.length_append] at hle
  have : t = [] := List.length_eq_zero_iff.mp (by omega)
  rw [this, List.append_nil]
theorem tree_rooted {R : List Nat} (h : FullR R) : Rooted (treeL R) := by
  show _ < _
  rw [metA_tree h, treeL_len]
  exact h.2 R.length (Nat.le_refl _)
theorem row_tree {R : List Nat} (h : FullR R) : rowL (treeL R) = R := by
  unfold rowL
  rw [metA_tree h]
  apply List.ext_getElem?
  intro i
  rw [List.getElem?_map]
  by_cases hi : i < R.length
  · have e : R[i]? = some R[i] := List.getElem?_eq_getElem hi
    have hw := h.1 _ (List.getElem_mem hi)
    have hl := h.2 R.length (Nat.le_refl _)
    have hlt : R[i] - 1 < (comes R R.length).length := by omega
    unfold treeL
    rw [List.getElem?_map, e]
    simp only [Option.map_some, List.getD_eq_getElem?_getD, List.getElem?_eq_getElem hlt, Option.getD_some]
    rw [idx_at (comes_nodup R R.length) (List.getElem?_eq_getElem hlt)]
    congr 1
    omega
  · rw [List.getElem?_eq_none (by omega : R.length ≤ i), List.getElem?_eq_none (by rw [treeL_len]; omega)]
    rfl
theorem tree_in {R : List Nat} (h : FullR R) {a : Nat} (ha : a ∈ treeL R) : a ≤ R.length := by
  unfold treeL at ha
  obtain ⟨w, hw, rfl⟩ := List.mem_map.mp ha
  have := h.1 w hw
  have hl := h.2 R.length (Nat.le_refl _)
  have hlt : w - 1 < (comes R R.length).length := by omega
  rw [List.getD_eq_getElem?_getD, List.getElem?_eq_getElem hlt]
  have e := metA_tree h
  have hm : (comes R R.length)[w - 1] ∈ metA (treeL R) := by
    rw [e]
    exact List.getElem_mem hlt
  have := met_le hm
  rw [treeL_len] at this
  exact this
theorem full_row {T : List Nat} (h : Rooted T) (hT : ∀ a ∈ T, a ≤ T.length) : FullR (rowL T) := by
  refine ⟨fun w hw => ?_, fun b hb => ?_⟩
  · rw [rowL_len]
    exact row_in h hT hw
  · rw [rowL_len] at hb
    rw [comes_row h hT b hb]
    exact met_long h hb

/-! ### while, turn by turn -/
theorem while_up {c : TT} {tb : TS} {D : Ends} {σ : L2.St} {H : Hp} (N : Nat) (Pv : Nat → L2.St → Hp → Prop) (h0 : ∃ b, Pv b σ H)
    (hs : ∀ b σ H, Pv b σ H → c σ H fun t H1 => if t = true then ∃ Nx : L2.St → Hp → Prop, (∀ σ' H', Nx σ' H' → ∃ m', m' < N - b ∧ ∃ b', m' = N - b' ∧ Pv b' σ' H') ∧ tb { nx := Nx, rt := D.rt, bk := D.nx, ct := Nx } σ H1 else D.nx σ H1) : tWhile c tb D σ H := by
  obtain ⟨b, h0⟩ := h0
  refine ⟨fun m σ H => ∃ b, m = N - b ∧ Pv b σ H, ⟨_, b, rfl, h0⟩, ?_⟩
  rintro m σ H ⟨b, rfl, h⟩
  exact hs b σ H h
theorem while_nx {N b : Nat} {Pv : Nat → L2.St → Hp → Prop} (hb : b < N) : ∀ σ' H', Pv (b + 1) σ' H' → ∃ m', m' < N - b ∧ ∃ b', m' = N - b' ∧ Pv b' σ' H' := fun σ' H' h => ⟨N - (b + 1), by omega, b + 1, rfl, h⟩
/-! ### a list of lists, made and filled -/
def vN (l : List Nat) : List V := l.map fun (k : Nat) => V.int (k : Int)
theorem vN_len (l : List Nat) : (vN l).length = l.length := by simp [vN]
theorem vN_at {l : List Nat} {i k : Nat} (h : l[i]? = some k) : (vN l)[i]? = some (.int (k : Int)) := by
  unfold vN
  rw [List.getElem?_map, h]
  rfl
theorem vN_item {l : List Nat} {i : Nat} {x : V} (h : (vN l)[i]? = some x) : ∃ k : Nat, l[i]? = some k ∧ x = .int (k : Int) := by
  unfold vN at h
  rw [List.getElem?_map] at h
  cases e : l[i]? with
  | none => rw [e] at h; cases h
  | some k => rw [e] at h; exact ⟨k, rfl, (Option.some.inj h).symm⟩
theorem vN_app (l m : List Nat) : vN (l ++ m) = vN l ++ vN m := by simp [vN]
theorem vN_set (l : List Nat) (i k : Nat) : (vN l).set i (.int (k : Int)) = vN (l.set i k) := by
  unfold vN
  rw [List.map_set]
theorem vN_rep (n : Nat) : (List.replicate n [V.int 0]).flatten = vN (List.replicate n 0) := by
  induction n with
  | zero => rfl
  | succ n ih =>
    rw [List.replicate_succ, List.replicate_succ, List.flatten_cons, ih]
    rfl
theorem vN_of {ws : List Int} (h : ∀ w ∈ ws, 0 ≤ w) : ws.map V.int = vN (ws.map Int.toNat) := by
  unfold vN
  rw [List.map_map]
  refine List.map_congr_left fun w hw => ?_
  have := h w hw
  show V.int w = V.int ((w.toNat : Nat) : Int)
  congr 1
  omega
structure RowsAt (H : Hp) (D : Addr) (ps : List Addr) (f : Nat → List Nat) : Prop where
  d : H D = some (.lst (ps.map V.ref))
  row : ∀ j p, ps[j]? = some p → H p = some (.lst (vN (f j)))
structure RowsNew (H0 : Hp) (D : Addr) (ps : List Addr) (n : Nat) : Prop where
  len : ps.length = n
  nd : ps.Nodup
  nD : D ∉ ps
  new : ∀ p ∈ ps, H0 p = none
  newD : H0 D = none
theorem RowsAt.same {H H' : Hp} {D : Addr} {ps : List Addr} {f : Nat → List Nat} (h : RowsAt H D ps f) (s : Same H H') : RowsAt H' D ps f := ⟨s _ _ h.d, fun j p e => s _ _ (h.row j p e)⟩
theorem RowsAt.congr {H : Hp} {D : Addr} {ps : List Addr} {f g : Nat → List Nat} (h : RowsAt H D ps f) (e : ∀ j, j < ps.length → f j = g j) : RowsAt H D ps g := ⟨h.d, fun j p q => by
  rw [← e j (List.getElem?_eq_some_iff.mp q).1]
  exact h.row j p q⟩
/-- a store elsewhere -/
theorem RowsAt.keep {H : Hp} {D b : Addr} {o : HO} {ps : List Addr} {f : Nat → List Nat} (h : RowsAt H D ps f) (hD : D ≠ b) (hp : b ∉ ps) : RowsAt (upd H b o) D ps f := ⟨by rw [upd_ne hD]; exact h.d, fun j p q => by
  have : p ≠ b := fun z => hp (z ▸ List.mem_of_getElem? q)
  rw [upd_ne this]
  exact h.row j p q⟩
theorem nodup_ix {ps : List Addr} (nd : ps.Nodup) {i j : Nat} {p : Addr} (hi : ps[i]? = some p) (hj : ps[j]? = some p) : i = j := by
  obtain ⟨h1, e1⟩ := List.getElem?_eq_some_iff.mp hi
  obtain ⟨h2, e2⟩ := List.getElem?_eq_some_iff.mp hj
  exact (List.getElem_inj nd).mp (e1.trans e2.symm)
theorem RowsAt.app {H H0 : Hp} {D : Addr} {n : Nat} {ps : List Addr} {f : Nat → List Nat} (h : RowsAt H D ps f) (w : RowsNew H0 D ps n) {j k : Nat} {q : Addr} (hq : ps[j]? = some q) : RowsAt (upd H q (.lst (vN (f j) ++ [.int (k : Int)]))) D ps (fun x => if x = j then f j ++ [k] else f x) := by
  refine ⟨?_, fun i p e => ?_⟩
  · show upd H q _ D = _
    have hne : D ≠ q := fun z => w.nD (by rw [z]; exact List.mem_of_getElem? hq)
    rw [upd_ne hne]
    exact h.d
  · show upd H q _ p = _
    by_cases z : i = j
    · subst z
      rw [hq] at e
      cases e
      rw [upd_same, if_pos rfl, vN_app]
      rfl
    · have : p ≠ q := fun y => z (nodup_ix w.nd e (y ▸ hq))
      rw [upd_ne this, if_neg z]
      exact h.row i p e
/-- [[] for x in range(m)] -/
theorem rows_lc {g : TG} {vs : List Nat} {σ : L2.St} {H1 : Hp} {m : Nat} {Q : Addr → Hp → Prop} (hm : m < sizeLine) (hg : ∀ (x : V) (H' : Hp) (R : L2.St → Hp → Prop), (∀ σ2, wipe σ2 vs = wipe σ vs → R σ2 H') → g x (wipe σ vs) H' R)
    (hQ : ∀ D ps H', RowsNew H1 D ps m → Same H1 H' → RowsAt H' D ps (fun _ => []) → Q D H') :
    ∀ D, H1 D = none → ∃ W : Nat → Nat → Hp → Prop, (∃ m', W 0 m' (upd H1 D (.lst []))) ∧ ∀ i m' H, W i m' H → ((Itr 0 m).stop i H ∧ Q D H) ∨ ((Itr 0 m).go i H ∧ ∃ Nx : Hp → Prop, (∀ H', Nx H' → ∃ m'', m'' < m' ∧ W (i + 1) m'' H') ∧
      ∀ x H', (Itr 0 m).yld i H x H' → g x (wipe σ vs) H' fun σ2 H2 => wipe σ2 vs = wipe σ vs ∧ tYes σ2 H2 fun b H3 => if b = true then (tLst tNil) σ2 H3 fun y H4 => ∃ acc, H4 D = some (.lst acc) ∧ acc.length < sizeLine ∧ Nx (upd H4 D (.lst (acc ++ [y]))) else Nx H3) := by
  intro D nD
  refine lc_range (lo := 0) (n := m) (fun i H => Same H1 H ∧ ∃ ps, RowsNew H1 D ps i ∧ RowsAt H D ps (fun _ => [])) ⟨same_new nD, [], ⟨rfl, List.nodup_nil, by simp, by simp, nD⟩, ⟨upd_same, fun j p e => by simp at e⟩⟩ ?_ ?_
  · rintro i H hi ⟨s, ps, w, r⟩
    refine hg _ _ _ fun σ2 hw => ⟨hw, ?_⟩
    refine iteT (B := Same H1 H ∧ ∃ ps, RowsNew H1 D ps (i + 1) ∧ RowsAt H D ps (fun _ => [])) ⟨Nat.zero_le _, fun p np => ?_⟩
    have hDp : D ≠ p := ne_of_none r.d np
    have hpp : p ∉ ps := fun z => by
      obtain ⟨j, hj, e⟩ := List.getElem_of_mem z
      have := r.row j p (by rw [List.getElem?_eq_getElem hj, e])
      rw [np] at this
      cases this
    have n1 : H1 p = none := s.free np
    refine ⟨ps.map V.ref, by rw [upd_ne hDp]; exact r.d, by rw [List.length_map, w.len]; omega, (s.store n1).store nD, ps ++ [p], ⟨by simp [w.len], ?_, ?_, ?_, nD⟩, ⟨by rw [upd_same, List.map_append]; rfl, fun j q e => ?_⟩⟩
    · rw [List.nodup_append]
      exact ⟨w.nd, by simp, fun a ha b hb => by rw [List.mem_singleton.mp hb]; exact fun z => hpp (z ▸ ha)⟩
    · intro z
      rcases List.mem_append.mp z with z | z
      · exact w.nD z
      · exact hDp (List.mem_singleton.mp z)
    · intro q hq
      rcases List.mem_append.mp hq with z | z
      · exact w.new q z
      · rw [List.mem_singleton.mp z]
        exact n1
    · by_cases z : j < ps.length
      · rw [List.getElem?_append_left z] at e
        have hq := List.mem_of_getElem? e
        have a1 : q ≠ D := fun y => w.nD (y ▸ hq)
        have a2 : q ≠ p := fun y => hpp (y ▸ hq)
        rw [upd_ne a1, upd_ne a2]
        exact r.row j q e
      · rw [List.getElem?_append_right (by omega)] at e
        have hq : q = p := by
          have := List.mem_of_getElem? e
          exact List.mem_singleton.mp this
        rw [hq, upd_ne (Ne.symm hDp), upd_same]
        rfl
  · rintro H ⟨s, ps, w, r⟩
    exact hQ D ps H w s r
/-! setting many places of a list -/
def setAll (l : List Nat) (ks : List Nat) (a : Nat) : List Nat := ks.foldl (fun l k => l.set (k - 1) a) l
theorem setAll_snoc (l ks : List Nat) (k a : Nat) : setAll l (ks ++ [k]) a = (setAll l ks a).set (k - 1) a := by
  unfold setAll
  rw [List.foldl_append]
  rfl
theorem setAll_len (a : Nat) : ∀ (ks l : List Nat), (setAll l ks a).length = l.length
  | [], l => rfl
  | k :: ks, l => by
    show (setAll (l.set (k - 1) a) ks a).length = _
    rw [setAll_len a ks, List.length_set]
theorem setAll_at (a : Nat) : ∀ (ks l : List Nat) (i : Nat), (∀ k ∈ ks, 1 ≤ k) → i < l.length → (setAll l ks a)[i]? = if i + 1 ∈ ks then some a else l[i]?
  | [], l, i, _, _ => by simp [setAll]
  | k :: ks, l, i, h, hi => by
    show (setAll (l.set (k - 1) a) ks a)[i]? = _
    rw [setAll_at a ks _ i (fun x hx => h x (List.mem_cons_of_mem _ hx)) (by rw [List.length_set]; exact hi)]
    have hk := h k List.mem_cons_self
    by_cases z : i + 1 ∈ ks
    · rw [if_pos z, if_pos (List.mem_cons_of_mem _ z)]
    · rw [if_neg z]
      by_cases e : i + 1 = k
      · rw [if_pos (by rw [e]; exact List.mem_cons_self)]
        have : k - 1 = i := by omega
        rw [this, List.getElem?_set_self hi]
      · rw [if_neg (by simp [e, z]), List.getElem?_set_ne (by omega)]
theorem kn_snoc (R : List Nat) (w b : Nat) : kn (R ++ [w]) b = kn R b ++ if w = b then [R.length + 1] else [] := by
  unfold kn
  rw [List.length_append, List.length_singleton, List.range_succ, List.filter_append, List.map_append]
  congr 1
  · congr 1
    refine List.filter_congr fun i hi => ?_
    rw [List.getElem?_append_left (List.mem_range.mp hi)]
  · have e : (R ++ [w])[R.length]? = some w := by simp
    by_cases z : w = b
    · simp [e, z]
    · simp [e, z]
theorem kn_nil (b : Nat) : kn [] b = [] := rfl
/-! ### check_full_row -/
def FullW (ws : List Int) : Prop := 1 ≤ ws.length ∧ ws.length ≤ 400 ∧ (∀ x ∈ ws, 1 ≤ x ∧ x ≤ (ws.length : Int)) ∧ crowdedL ws.length ws = none
def ChkF (K : PySem.W.Frag) (a : Ad) (w : V) (H : Hp) (E : XK) (R : List Int → Addr → Prop) : Prop :=
  (∃ T, TyB K H w T ∧ T ≠ "list" ∧ T ≠ "tuple" ∧ E (.ref a.e_NoWishes) none H) ∨
  ∃ p xs, w = .ref p ∧ SqA K H p xs ∧ (∀ x ∈ xs, ∃ T, TyB K H x T) ∧ (((¬ ∃ ws : List Int, xs = ws.map V.int ∧ FullW ws) ∧ ∀ H', Same H H' → E (.ref a.e_NoWishes) none H') ∨ ∃ ws : List Int, xs = ws.map V.int ∧ FullW ws ∧ R ws p)
theorem ChkF.imp {K : PySem.W.Frag} {a : Ad} {w : V} {H : Hp} {E : XK} {R R' : List Int → Addr → Prop} (h : ChkF K a w H E R) (k : ∀ ws p, w = .ref p → SqA K H p (ws.map V.int) → FullW ws → R ws p → R' ws p) : ChkF K a w H E R' := by
  rcases h with h | ⟨p, xs, e, hs, ht, h | ⟨ws, ex, f, r⟩⟩
  · exact .inl h
  · exact .inr ⟨p, xs, e, hs, ht, .inl h⟩
  · exact .inr ⟨p, xs, e, hs, ht, .inr ⟨ws, ex, f, k ws p e (ex ▸ hs) f r⟩⟩
theorem ChkF.ok {K : PySem.W.Frag} {a : Ad} {H : Hp} {E : XK} {R : List Int → Addr → Prop} {ws : List Int} {p : Addr} (hs : SqA K H p (ws.map V.int)) (f : FullW ws) (r : R ws p) : ChkF K a (.ref p) H E R :=
  .inr ⟨p, _, rfl, hs, fun x hx => by
    obtain ⟨i, _, rfl⟩ := List.mem_map.mp hx
    exact ⟨_, .int i⟩, .inr ⟨ws, rfl, f, r⟩⟩
def sp_check_full_row (K : PySem.W.Frag) (a : Ad) : Sp := fun vs H Q E => ∃ w, vs = [w] ∧ ChkF K a w H E fun _ _ => ∀ H', Same H H' → Q .non H'
abbrev N_check_full_row : List Str := ["wishes"]
def t_check_full_row (K : PySem.W.Frag) (a : Ad) (E : XK) : TS :=
  (tSeq (tIfS (tOr (tNot (tB (tCall (sp_is_row K a) [] E0 (tCons (tVar 0) tNil)))) (tNot (tTest (tChain rLeI rLeI (tC (.int 1)) (tCB (rLenSq K) (tCons (tVar 0) tNil)) (tC (.int 400)))))) (tRaise a.e_NoWishes E) tNext)
    (tIfS (tNot (tB (tCall (sp_is_good K a) [] E (tCons (tCB (rLenSq K) (tCons (tVar 0) tNil)) (tCons (tVar 0) tNil))))) (tRaise a.e_NoWishes E) tNext))
theorem len_check_full_row {K : PySem.W.Frag} {a : Ad} {vs : List V} {H : Hp} {Q : VK} {E : XK} (h : sp_check_full_row K a vs H Q E) : vs.length = 1 := by
  obtain ⟨w, rfl, _⟩ := h
  rfl
theorem pu_check_full_row {K : PySem.W.Frag} {a : Ad} {vs : List V} {H : Hp} {Q : VK} {E : XK} (h : sp_check_full_row K a vs H Q E) : t_check_full_row K a E { nx := fun _ H' => Q .non H', rt := Q } (start N_check_full_row vs) H := by
  obtain ⟨w, rfl, ⟨T, ty, n1, n2, q⟩ | ⟨p, xs, rfl, hs, ht, r⟩⟩ := h
  · refine ⟨w, rfl, w, T, rfl, ty, _, rfl, ?_⟩
    rw [decide_eq_false n1, decide_eq_false n2]
    exact iteT (iteT q)
  obtain ⟨T, ty, eT⟩ := hs.ty
  refine ⟨.ref p, rfl, .ref p, T, rfl, ty, _, rfl, ?_⟩
  rw [eT]
  refine iteF ?_
  have bad : (¬ ∃ ws : List Int, xs = ws.map V.int ∧ FullW ws) → ∀ H', Same H H' → E (.ref a.e_NoWishes) none H' := by
    rcases r with ⟨_, q⟩ | ⟨ws, ex, f, _⟩
    · exact fun _ => q
    · exact fun z => (z ⟨ws, ex, f⟩).elim
  refine ⟨.ref p, rfl, p, xs, rfl, hs, 1, _, rfl, rfl, _, rfl, ?_⟩
  by_cases h1 : (1 : Int) ≤ (xs.length : Nat)
  case neg =>
    rw [decide_eq_false h1]
    refine iteF ⟨_, rfl, iteT (bad ?_ H (Same.refl H))⟩
    rintro ⟨ws, ex, f, _⟩
    rw [ex, List.length_map] at h1
    omega
  rw [decide_eq_true h1]
  by_cases h2 : ((xs.length : Nat) : Int) ≤ 400
  case neg =>
    refine iteT ⟨_, 400, rfl, rfl, _, rfl, ?_⟩
    rw [decide_eq_false h2]
    refine iteT (bad ?_ H (Same.refl H))
    rintro ⟨ws, ex, f1, f2, _⟩
    rw [ex, List.length_map] at h2
    omega
  refine iteT ⟨_, 400, rfl, rfl, _, rfl, ?_⟩
  rw [decide_eq_true h2]
  refine iteF ⟨.ref p, rfl, p, xs, rfl, hs, .ref p, rfl, _, _, rfl, ?_⟩
  by_cases g : goodW xs.length xs = true
  case neg =>
    have g' : goodW xs.length xs = false := by simpa using g
    refine ⟨_, .int _, .inr ⟨xs.length, rfl, by omega, by omega, .inr ⟨p, xs, rfl, hs, ht, .inl ⟨g', bad ?_ H (Same.refl H)⟩⟩⟩⟩
    rintro ⟨ws, ex, f1, f2, f3, _⟩
    apply g
    rw [ex, goodW_ints, List.length_map]
    exact ⟨f2, f3⟩
  obtain ⟨ws, ex, hl, hb⟩ := goodW_of g
  subst ex
  rw [List.length_map] at hb h1 h2 ⊢
  refine ChkW.ok (by omega) (by omega) hs hl hb fun H' s => ?_
  cases e : crowdedL ws.length ws with
  | none =>
    refine ⟨_, rfl, iteF ?_⟩
    rcases r with ⟨n, _⟩ | ⟨ws', ex, f, q⟩
    · exact (n ⟨ws, rfl, by omega, hl, hb, e⟩).elim
    · exact q H' s
  | some x =>
    refine ⟨_, rfl, iteT (bad ?_ H' s)⟩
    rintro ⟨ws', ex, f1, f2, f3, f4⟩
    have : ws' = ws := by
      have hi : ∀ (l m : List Int), l.map V.int = m.map V.int → l = m := by
        intro l
        induction l with
        | nil => intro m h; cases m <;> simp_all
        | cons y l ih =>
          intro m h
          cases m with
          | nil => cases h
          | cons z m =>
            rw [List.map_cons, List.map_cons] at h
            have h1 := (List.cons.inj h).1
            have h2 := ih m (List.cons.inj h).2
            cases h1
            rw [h2]
      exact (hi _ _ ex).symm
    subst this
    rw [f4] at e
    cases e
/-! ### enumerate of a list or a tuple, turn by turn -/
theorem for_enumS {K : PySem.W.Frag} {a : Addr} {xs : List V} {ta : TA} {g : TG} {tb : TS} {D : Ends} {σ : L2.St} {H0 H : Hp} (ht : ∀ Q : List V → Hp → Prop, Q [.ref a] H → ta σ H Q) (hA : SqA K H0 a xs) (Pv : Nat → L2.St → Hp → Prop) (h0 : Pv 0 σ H) (hl : ∀ i σ H', Pv i σ H' → Same H0 H')
    (hs : ∀ i x T σ H, xs[i]? = some x → Pv i σ H → H T = none → g (.ref T) σ (upd H T (.tup [.int (i : Nat), x])) fun σ2 H2 => tb { D with nx := Pv (i + 1), ct := Pv (i + 1), bk := D.nx } σ2 H2) (hd : ∀ σ H, Pv xs.length σ H → D.nx σ H) : tFor (iEnumS K ta) g tb D σ H := by
  rcases hA with h | h
  · refine .inl (ht _ ⟨a, xs, rfl, (hl _ _ _ h0).seq h, for_it (walk_enum (K := K) (a := a) (xs := xs)) Pv h0 (fun i σ H' _ p => (hl i σ H' p).seq h) ?_ hd⟩)
    rintro i v σ H H' hi p ⟨T, x, y, rfl, nT, rfl, ex, ey⟩
    cases ex
    exact hs i y T σ H ey p nT
  · refine .inr (ht _ ⟨a, xs, rfl, (hl _ _ _ h0).seqT h, for_it (walk_enumT (K := K) (a := a) (xs := xs)) Pv h0 (fun i σ H' _ p => (hl i σ H' p).seqT h) ?_ hd⟩)
    rintro i v σ H H' hi p ⟨T, x, y, rfl, nT, rfl, ex, ey⟩
    cases ex
    exact hs i y T σ H ey p nT
/-! ### tree_of -/
def natL (ws : List Int) : List Nat := ws.map Int.toNat
theorem natL_len (ws : List Int) : (natL ws).length = ws.length := by simp [natL]
def treeB (R : List Nat) (b : Nat) : List Nat := R.map fun w => if w ≤ b then (comes R R.length).getD (w - 1) 0 else 0
theorem treeB_len (R : List Nat) (b : Nat) : (treeB R b).length = R.length := by simp [treeB]
theorem cntLt (R : List Nat) (b : Nat) (h : ∀ w ∈ R, 1 ≤ w) : (comes R b).length = 1 + (R.filter fun w => decide (w ≤ b)).length := by
  induction b with
  | zero =>
    have : R.filter (fun w => decide (w ≤ 0)) = [] := List.filter_eq_nil_iff.mpr fun w hw => by have := h w hw; simp; omega
    rw [this]
    rfl
  | succ b ih =>
    rw [comes_succ, List.length_append, ih]
    have e1 : (kn R (b + 1)).length = (R.filter fun w => decide (w = b + 1)).length := by
      clear ih h
      refine snoc_ind (p := fun R : List Nat => (kn R (b + 1)).length = (R.filter fun w => decide (w = b + 1)).length) rfl (fun l x ih => ?_) R
      rw [kn_snoc, List.length_append, ih, List.filter_append, List.length_append]
      congr 1
      by_cases z : x = b + 1
      · simp [z]
      · simp [z]
    have e2 : ∀ l : List Nat, (l.filter fun w => decide (w ≤ b + 1)).length = (l.filter fun w => decide (w ≤ b)).length + (l.filter fun w => decide (w = b + 1)).length := by
      intro l
      induction l with
      | nil => rfl
      | cons x l il =>
        simp only [List.filter_cons]
        by_cases z1 : x ≤ b
        · have z2 : x ≤ b + 1 := by omega
          have z3 : ¬ x = b + 1 := by omega
          simp [z1, z2, z3, il]
          omega
        · by_cases z3 : x = b + 1
          · have z2 : x ≤ b + 1 := by omega
            have z4 : ¬ b + 1 ≤ b := by omega
            simp [z3, z4, il]
            omega
          · have z2 : ¬ x ≤ b + 1 := by omega
            simp [z1, z2, z3, il]
    rw [e1, e2]
    omega
theorem cnt_nat {ws : List Int} (h : ∀ w ∈ ws, 0 ≤ w) (b : Nat) : ((natL ws).filter fun w => decide (w ≤ b)).length + cntGe ws ((b : Int) + 1) = ws.length := by
  induction ws with
  | nil => rfl
  | cons x l ih =>
    have hx := h x List.mem_cons_self
    have ih := ih fun w hw => h w (List.mem_cons_of_mem _ hw)
    unfold natL cntGe at ih ⊢
    rw [List.map_cons, List.filter_cons, List.filter_cons]
    by_cases z : x.toNat ≤ b
    · have z2 : ¬ (b : Int) + 1 ≤ x := by omega
      simp only [z, z2, decide_true, decide_false, if_true, List.length_cons, Bool.false_eq_true, if_false]
      omega
    · have z2 : (b : Int) + 1 ≤ x := by omega
      simp only [z, z2, decide_true, decide_false, if_true, List.length_cons, Bool.false_eq_true, if_false]
      omega
theorem full_of {ws : List Int} (f : FullW ws) : FullR (natL ws) := by
  obtain ⟨h1, h2, h3, h4⟩ := f
  have h0 : ∀ w ∈ ws, 0 ≤ w := fun w hw => by have := h3 w hw; omega
  refine ⟨fun w hw => ?_, fun b hb => ?_⟩
  · obtain ⟨x, hx, rfl⟩ := List.mem_map.mp hw
    have := h3 x hx
    rw [natL_len]
    omega
  · rw [natL_len] at hb
    rw [cntLt _ _ (fun w hw => by
      obtain ⟨x, hx, rfl⟩ := List.mem_map.mp hw
      have := h3 x hx
      omega)]
    have e := cnt_nat h0 b
    have g := crowded_none.mp h4
    by_cases z : b = ws.length
    · have : cntGe ws ((b : Int) + 1) = 0 := by
        rw [z]
        exact cntGe_top h3
      omega
    · have := g ((b : Int) + 1) (by omega) (by omega)
      omega
theorem full_to {R : List Nat} (f : FullR R) (h1 : 1 ≤ R.length) (h2 : R.length ≤ 400) : FullW (R.map fun (r : Nat) => (r : Int)) := by
  have e : natL (R.map fun (r : Nat) => (r : Int)) = R := by
    unfold natL
    rw [List.map_map]
    have : (Int.toNat ∘ fun (r : Nat) => (r : Int)) = id := by
      funext r
      show ((r : Int)).toNat = r
      omega
    rw [this, List.map_id]
  have hb : ∀ x ∈ R.map fun (r : Nat) => (r : Int), 1 ≤ x ∧ x ≤ (R.length : Int) := fun x hx => by
    obtain ⟨r, hr, rfl⟩ := List.mem_map.mp hx
    have := f.1 r hr
    omega
  refine ⟨by rw [List.length_map]; exact h1, by rw [List.length_map]; exact h2, by rw [List.length_map]; exact hb, ?_⟩
  rw [List.length_map]
  refine crowded_none.mpr fun b b1 b2 => ?_
  have c := cnt_nat (ws := R.map fun (r : Nat) => (r : Int)) (fun w hw => by have := hb w hw; omega) (b - 1).toNat
  rw [e, List.length_map] at c
  have c2 := cntLt R (b - 1).toNat (fun w hw => (f.1 w hw).1)
  have c3 := f.2 (b - 1).toNat (by omega)
  have eb : (((b - 1).toNat : Nat) : Int) + 1 = b := by omega
  rw [eb] at c
  omega
def sp_tree_of (K : PySem.W.Frag) (a : Ad) : Sp := fun vs H Q E => ∃ w, vs = [w] ∧ ChkF K a w H E fun ws _ => ∀ (l : Addr) (H' : Hp), H l = none → Same H H' → H' l = some (.tup (vN (treeL (natL ws)))) → Q (.ref l) H'
abbrev N_tree_of : List Str := ["wishes", "wishing", "ship", "wish", "come_to", "tree", "berth", "above", "knot", "_"]
def t_tree_of (K : PySem.W.Frag) (a : Ad) (E : XK) : TS :=
  (tSeq (tDrop (tCall (sp_check_full_row K a) [] E (tCons (tVar 0) tNil)))
    (tSeq (tAsg (tLc (iRng1 (tCons (tOp rAddI (tCB (rLenSq K) (tCons (tVar 0) tNil)) (tC (.int 1))) tNil)) (gName 9) tYes (tLst tNil) [9]) (gName 1))
    (tSeq (tFor (iEnumS K (tCons (tVar 0) tNil)) (gTup K 2 (gCons (gName 2) (gCons (gName 3) gNil)))
    (tDrop (tBM K "list" rAppend (tOp (rIxL K) (tVar 1) (tVar 3)) (tCons (tOp rAddI (tVar 2) (tC (.int 1))) tNil))))
    (tSeq (tAsg (tLst (tCons (tC (.int 0)) tNil)) (gName 4))
    (tSeq (tAsg (tOp rRep (tLst (tCons (tC (.int 0)) tNil)) (tCB (rLenSq K) (tCons (tVar 0) tNil))) (gName 5))
    (tSeq (tFor (iRng2 (tCons (tC (.int 1)) (tCons (tOp rAddI (tCB (rLenSq K) (tCons (tVar 0) tNil)) (tC (.int 1))) tNil))) (gName 6)
    (tSeq (tAsg (tOp (rIxL K) (tVar 4) (tOp rSubI (tVar 6) (tC (.int 1)))) (gName 7))
    (tFor (iList K (tOp (rIxL K) (tVar 1) (tVar 6))) (gName 8)
    (tSeq (tAsg (tVar 7) (gSub (tVar 5) (tOp rSubI (tVar 8) (tC (.int 1))) rSetL))
    (tDrop (tBM K "list" rAppend (tVar 4) (tCons (tVar 8) tNil)))))))
    (tRet (tCB (rTupleOf K) (tCons (tVar 5) tNil)))))))))
theorem len_tree_of {K : PySem.W.Frag} {a : Ad} {vs : List V} {H : Hp} {Q : VK} {E : XK} (h : sp_tree_of K a vs H Q E) : vs.length = 1 := by
  obtain ⟨w, rfl, _⟩ := h
  rfl
theorem setAll_tree {R : List Nat} {b a : Nat} (ha : (comes R R.length)[b]? = some a) : setAll (treeB R b) (kn R (b + 1)) a = treeB R (b + 1) := by
  apply List.ext_getElem?
  intro i
  by_cases hi : i < R.length
  · rw [setAll_at _ _ _ _ (fun k hk => (mem_kn.mp hk).1) (by rw [treeB_len]; exact hi)]
    have e : R[i]? = some R[i] := List.getElem?_eq_getElem hi
    unfold treeB
    rw [List.getElem?_map, List.getElem?_map, e]
    by_cases z : i + 1 ∈ kn R (b + 1)
    · have := (mem_kn.mp z).2
      rw [Nat.add_sub_cancel, e] at this
      have hw := Option.some.inj this
      rw [if_pos z]
      simp only [Option.map_some, hw, Nat.le_refl, if_true, Nat.add_sub_cancel]
      rw [List.getD_eq_getElem?_getD, ha]
      rfl
    · have hw : R[i] ≠ b + 1 := fun y => z (mem_kn.mpr ⟨by omega, by rw [Nat.add_sub_cancel, e, y]⟩)
      rw [if_neg z]
      simp only [Option.map_some]
      by_cases y : R[i] ≤ b
      · rw [if_pos y, if_pos (by omega)]
      · rw [if_neg y, if_neg (by omega)]
  · rw [List.getElem?_eq_none (by rw [setAll_len, treeB_len]; omega), List.getElem?_eq_none (by rw [treeB_len]; omega)]
theorem treeB_end {R : List Nat} (h : ∀ w ∈ R, w ≤ R.length) : treeB R R.length = treeL R := List.map_congr_left fun w hw => if_pos (h w hw)
theorem treeB_zero {R : List Nat} (h : ∀ w ∈ R, 1 ≤ w) : treeB R 0 = List.replicate R.length 0 := by
  unfold treeB
  apply List.ext_getElem?
  intro i
  rw [List.getElem?_map]
  by_cases hi : i < R.length
  · rw [List.getElem?_eq_getElem hi, List.getElem?_replicate_of_lt hi]
    have := h _ (List.getElem_mem hi)
    simp only [Option.map_some]
    rw [if_neg (by omega)]
  · rw [List.getElem?_eq_none (by omega), List.getElem?_eq_none (by simp; omega)]
    rfl

/-! ### the inner loop of both -/
theorem inner_loop {K : PySem.W.Frag} {ix : TE} {kv av tv cv : Nat} {D : Ends} {σ : L2.St} {H : Hp} {q T C : Addr} {a : Nat} {ks l m : List Nat}
    (hk : kv < σ.length) (n1 : kv ≠ av) (n2 : kv ≠ tv) (n3 : kv ≠ cv) (hav : σ[av]? = some (some (.int (a : Int)))) (htv : σ[tv]? = some (some (.ref T))) (hcv : σ[cv]? = some (some (.ref C)))
    (hix : ∀ Q : VK, Q (.ref q) H → ix σ H Q) (hq : H q = some (.lst (vN ks))) (hqT : q ≠ T) (hqC : q ≠ C) (hTC : T ≠ C) (hT : H T = some (.lst (vN l))) (hC : H C = some (.lst (vN m)))
    (hb : ∀ k ∈ ks, 1 ≤ k ∧ k ≤ l.length) (hs : m.length + ks.length ≤ 1000)
    (hd : ∀ σ' H', (σ' = σ ∨ ∃ x, σ' = σ.set kv x) → H' T = some (.lst (vN (setAll l ks a))) → H' C = some (.lst (vN (m ++ ks))) → (∀ b, b ≠ T → b ≠ C → H' b = H b) → D.nx σ' H') :
    tFor (iList K ix) (gName kv) (tSeq (tAsg (tVar av) (gSub (tVar tv) (tOp rSubI (tVar kv) (tC (.int 1))) rSetL)) (tDrop (tBM K "list" rAppend (tVar cv) (tCons (tVar kv) tNil)))) D σ H := by
  refine hix _ ⟨q, rfl, ⟨_, sqL_of hq⟩, for_list (K := K) (a := q) (fun j σ' H' => (σ' = σ ∨ ∃ x, σ' = σ.set kv x) ∧ H' T = some (.lst (vN (setAll l (ks.take j) a))) ∧ H' C = some (.lst (vN (m ++ ks.take j))) ∧ ∀ b, b ≠ T → b ≠ C → H' b = H b)
    ⟨.inl rfl, hT, by rw [List.take_zero, List.append_nil]; exact hC, fun _ _ _ => rfl⟩ (fun i σ' H' _ p => sqL_of ((p.2.2.2 q hqT hqC).trans hq)) ?_ ?_⟩
  · rintro j x σ' H' hx ⟨hσ, eT, eC, ag⟩
    obtain ⟨k, hk1, rfl⟩ := vN_item hx
    have hmem := List.mem_of_getElem? hk1
    obtain ⟨b1, b2⟩ := hb k hmem
    have eσ : σ'.set kv (some (.int (k : Int))) = σ.set kv (some (.int (k : Int))) := by
      rcases hσ with e | ⟨y, e⟩ <;> rw [e]
      rw [List.set_set]
    show tSeq _ _ _ (σ'.set kv (some (.int (k : Int)))) H'
    rw [eσ]
    have ln : (ks.take j).length ≤ ks.length := by rw [List.length_take]; omega
    have g1 : (σ.set kv (some (.int (k : Int))))[av]? = some (some (.int (a : Int))) := by rw [List.getElem?_set_ne n1]; exact hav
    have g2 : (σ.set kv (some (.int (k : Int))))[tv]? = some (some (.ref T)) := by rw [List.getElem?_set_ne n2]; exact htv
    have g3 : (σ.set kv (some (.int (k : Int))))[cv]? = some (some (.ref C)) := by rw [List.getElem?_set_ne n3]; exact hcv
    have g4 : (σ.set kv (some (.int (k : Int))))[kv]? = some (some (.int (k : Int))) := List.getElem?_set_self hk
    refine ⟨_, g1, _, g2, _, g4, _, _, rfl, rfl, T, _, (k : Int) - 1, k - 1, rfl, rfl, eT, ?_, ?_⟩
    · unfold ixN
      rw [if_pos (by omega), vN_len, setAll_len, if_pos (by omega)]
      congr 1
      omega
    · rw [vN_set]
      have eC2 : (upd H' T (.lst (vN ((setAll l (ks.take j) a).set (k - 1) a)))) C = some (.lst (vN (m ++ ks.take j))) := by rw [upd_ne hTC.symm]; exact eC
      refine ⟨_, g3, .inl ⟨rfl, _, sqL_of eC2⟩, _, g4, C, _, _, rfl, rfl, eC2, ?_, ⟨.inr ⟨_, rfl⟩, ?_, ?_, ?_⟩⟩
      · rw [vN_len, List.length_append]
        exact small1000 (by omega)
      · rw [upd_ne hTC, upd_same, take_more hk1, setAll_snoc]
      · rw [upd_same, take_more hk1, ← List.append_assoc, vN_app (m ++ ks.take j)]
        rfl
      · intro b h1 h2
        rw [upd_ne h2, upd_ne h1]
        exact ag b h1 h2
  · rintro σ' H' ⟨hσ, eT, eC, ag⟩
    rw [vN_len, List.take_length] at eT eC
    exact hd σ' H' hσ eT eC ag
theorem RowsAt.agree {H H' : Hp} {D T C : Addr} {ps : List Addr} {f : Nat → List Nat} (h : RowsAt H D ps f) (ag : ∀ b, b ≠ T → b ≠ C → H' b = H b) (h1 : D ≠ T) (h2 : D ≠ C) (h3 : ∀ p ∈ ps, p ≠ T ∧ p ≠ C) : RowsAt H' D ps f :=
  ⟨(ag D h1 h2).trans h.d, fun j p e => by
    obtain ⟨a1, a2⟩ := h3 p (List.mem_of_getElem? e)
    exact (ag p a1 a2).trans (h.row j p e)⟩
/-- the list of lists, filled: by each place's number -/
theorem fill_rows {K : PySem.W.Frag} {D : Addr} {σ0 : L2.St} {H0 H1 : Hp} {E : Ends} {p : Addr} {R : List Nat} {ps : List Addr} (hs : SqA K H0 p (vN R)) (hR : ∀ w ∈ R, w ≤ R.length) (h4 : R.length ≤ 400) (hl : 4 ≤ σ0.length) (hp : σ0[0]? = some (some (.ref p))) (hD : σ0[1]? = some (some (.ref D)))
    (s1 : Same H0 H1) (w : RowsNew H0 D ps (R.length + 1)) (r : RowsAt H1 D ps fun _ => [])
    (hd : ∀ H', Same H0 H' → RowsAt H' D ps (kn R) → ∀ y z, E.nx ((σ0.set 2 y).set 3 z) H') :
    tFor (iEnumS K (tCons (tVar 0) tNil)) (gTup K 2 (gCons (gName 2) (gCons (gName 3) gNil))) (tDrop (tBM K "list" rAppend (tOp (rIxL K) (tVar 1) (tVar 3)) (tCons (tOp rAddI (tVar 2) (tC (.int 1))) tNil))) E σ0 H1 := by
  refine for_enumS (K := K) (H0 := H0) (a := p) (fun Q q => ⟨.ref p, hp, q⟩) hs (fun i σ H' => (∃ y z, σ = (σ0.set 2 y).set 3 z) ∧ Same H0 H' ∧ RowsAt H' D ps (kn (R.take i))) ⟨⟨(σ0[2]?).getD none, (σ0[3]?).getD none, ?_⟩, s1, r⟩ (fun i σ H' h => h.2.1) ?_ ?_
  · have e2 : σ0[2]? = some σ0[2] := List.getElem?_eq_getElem (by omega)
    have e3 : σ0[3]? = some σ0[3] := List.getElem?_eq_getElem (by omega)
    rw [e2, e3]
    simp
  · rintro i x T σ H' hx ⟨⟨y, z, rfl⟩, s, r⟩ nT
    obtain ⟨b, hb, rfl⟩ := vN_item hx
    have hbn := hR b (List.mem_of_getElem? hb)
    have sT := same_new nT (o := .tup [.int (i : Nat), .int (b : Int)])
    refine ⟨T, _, rfl, sqT_of upd_same, rfl, _, _, rfl, _, _, rfl, rfl, ?_⟩
    have eσ : (((σ0.set 2 y).set 3 z).set 2 (some (.int (i : Nat)))).set 3 (some (.int (b : Int))) = (σ0.set 2 (some (.int (i : Nat)))).set 3 (some (.int (b : Int))) := by
      rw [List.set_comm _ _ (by decide : 3 ≠ 2), List.set_set, List.set_set]
    have hl2 : (σ0.set 2 (some (V.int (i : Nat)))).length = σ0.length := List.length_set
    have r2 := r.same sT
    obtain ⟨q, hq⟩ : ∃ q, ps[b]? = some q := ⟨_, List.getElem?_eq_getElem (by rw [w.len]; omega)⟩
    have hrow := r2.row b q hq
    have hqn := w.new q (List.mem_of_getElem? hq)
    show tDrop _ _ ((((σ0.set 2 y).set 3 z).set 2 (some (.int (i : Nat)))).set 3 (some (.int (b : Int)))) _
    rw [eσ]
    refine ⟨.ref D, ?_, .int (b : Int), ?_, D, _, b, .ref q, rfl, rfl, sqL_of r2.d, at_of (j := b) rfl ?_, .inl ⟨rfl, _, sqL_of hrow⟩, .int (i : Nat), ?_, _, _, rfl, rfl, q, _, _, rfl, rfl, hrow, ?_, ?_⟩
    · rw [List.getElem?_set_ne (by decide), List.getElem?_set_ne (by decide)]
      exact hD
    · exact List.getElem?_set_self (by rw [hl2]; omega)
    · rw [List.getElem?_map, hq]
      rfl
    · rw [List.getElem?_set_ne (by decide)]
      exact List.getElem?_set_self (by omega)
    · rw [vN_len]
      refine small1000 ?_
      unfold kn
      rw [List.length_map]
      refine Nat.le_trans (List.length_filter_le _ _) ?_
      rw [List.length_range, List.length_take]
      omega
    · refine ⟨⟨_, _, rfl⟩, (s.trans sT).store hqn, ?_⟩
      have ek : ((i : Nat) : Int) + 1 = ((i + 1 : Nat) : Int) := by omega
      show RowsAt (upd _ q (.lst (vN (kn (R.take i) b) ++ [V.int (((i : Nat) : Int) + 1)]))) D ps _
      rw [ek]
      refine (r2.app w (k := i + 1) hq).congr fun j hj => ?_
      have hlen : (R.take i).length = i := by
        rw [List.length_take]
        have := (List.getElem?_eq_some_iff.mp hb).1
        omega
      rw [take_more hb, kn_snoc, hlen]
      by_cases z : j = b
      · subst z
        rw [if_pos rfl, if_pos rfl]
      · rw [if_neg z, if_neg (Ne.symm z), List.append_nil]
  · rintro σ H' ⟨⟨y, z, rfl⟩, s, r⟩
    rw [vN_len, List.take_length] at r
    exact hd H' s r y z

theorem fm_len {R : List Nat} (f : FullR R) (b : Nat) : (comes R b).length + (kn R (b + 1)).length ≤ R.length + 1 := by
  have := comes_le (R := R) (b := b + 1)
  rw [comes_succ, List.length_append] at this
  exact this
theorem pu_tree_of {K : PySem.W.Frag} {a : Ad} {vs : List V} {H : Hp} {Q : VK} {E : XK} (h : sp_tree_of K a vs H Q E) : t_tree_of K a E { nx := fun _ H' => Q .non H', rt := Q } (start N_tree_of vs) H := by
  obtain ⟨w, rfl, h⟩ := h
  refine ⟨w, rfl, w, rfl, ChkF.imp h fun ws p ew hs f q => fun H1 s1 => ?_⟩
  subst ew
  obtain ⟨f1, f2, f3, f4⟩ := id f
  have hR := full_of f
  have eN : ws.map V.int = vN (natL ws) := vN_of fun w hw => by have := f3 w hw; omega
  have hln : (natL ws).length = ws.length := natL_len ws
  generalize natL ws = R at hR eN hln q
  rw [eN] at hs
  have hs1 := s1.seqA hs
  rw [← hln] at f1 f2
  -- wishing
  refine ⟨.ref p, rfl, p, _, rfl, hs1, _, 1, rfl, rfl, _, rfl, by rw [vN_len]; omega, by rw [vN_len]; omega, ?_⟩
  have en : ((((vN R).length : Nat) : Int) + 1).toNat = R.length + 1 := by rw [vN_len]; omega
  rw [en]
  refine rows_lc (small1000 (by omega)) (fun x H' R h => h _ rfl) fun D ps H2 wn s2 r2 => ?_
  have s12 := s1.trans s2
  have wn0 : RowsNew H D ps (R.length + 1) := ⟨wn.len, wn.nd, wn.nD, fun p hp => s1.free (wn.new p hp), s1.free wn.newD⟩
  refine fill_rows hs (fun w hw => (hR.1 w hw).2) f2 (by show 4 ≤ 10; decide) rfl rfl s12 wn0 r2 fun H3 s3 r3 y z => ?_
  -- come_to = [0], tree = [0] * len(wishes)
  refine ⟨by decide, fun l0 nl0 => ?_⟩
  have s4 := s3.store (s3.free nl0) (o := .lst [.int 0])
  have hs4 := s4.seqA hs
  have hn0 := s3.free nl0
  refine ⟨by decide, fun l1 nl1 => ⟨.ref p, rfl, p, _, rfl, (s4.store (s4.free nl1)).seqA hs, l1, _, _, rfl, rfl, upd_same, by rw [vN_len]; omega, by rw [vN_len]; omega, ?_, fun l2 nl2 => ?_⟩⟩
  · refine l1000 ?_
    rw [vN_len]
    show 1 * _ ≤ _
    omega
  have e2 : ((((vN R).length : Nat) : Int)).toNat = R.length := by rw [vN_len]; omega
  rw [e2, vN_rep]
  have n1 := s4.free nl1
  have s5 := s4.store n1 (o := .lst [.int 0])
  have n2 := s5.free nl2
  have s6 := s5.store n2 (o := .lst (vN (List.replicate R.length 0)))
  have h01 : l0 ≠ l1 := ne_of_none upd_same nl1
  have h02 : l0 ≠ l2 := ne_of_none (by rw [upd_ne h01]; exact upd_same) nl2
  have hDl0 : D ≠ l0 := ne_of_none r3.d nl0
  have hpl0 : l0 ∉ ps := fun z => by
    obtain ⟨j, hj, e⟩ := List.getElem_of_mem z
    have := r3.row j l0 (by rw [List.getElem?_eq_getElem hj, e])
    rw [nl0] at this
    cases this
  have r4 : RowsAt (upd H3 l0 (.lst [.int 0])) D ps (kn R) := r3.keep hDl0 hpl0
  have r5 : RowsAt (upd (upd H3 l0 (.lst [.int 0])) l1 (.lst [.int 0])) D ps (kn R) := r4.same (same_new nl1)
  have r6 := r5.same (same_new nl2 (o := .lst (vN (List.replicate R.length 0))))
  have hDl2 : D ≠ l2 := ne_of_none r5.d nl2
  have hpl2 : l2 ∉ ps := fun z => by
    obtain ⟨j, hj, e⟩ := List.getElem_of_mem z
    have := r5.row j l2 (by rw [List.getElem?_eq_getElem hj, e])
    rw [nl2] at this
    cases this
  have ec : (upd (upd (upd H3 l0 (.lst [.int 0])) l1 (.lst [.int 0])) l2 (.lst (vN (List.replicate R.length 0)))) l0 = some (.lst (vN (comes R 0))) := by
    rw [upd_ne h02, upd_ne h01, upd_same]
    rfl
  have et : (upd (upd (upd H3 l0 (.lst [.int 0])) l1 (.lst [.int 0])) l2 (.lst (vN (List.replicate R.length 0)))) l2 = some (.lst (vN (treeB R 0))) := by
    rw [upd_same, treeB_zero fun w hw => (hR.1 w hw).1]
  generalize (upd (upd (upd H3 l0 (.lst [.int 0])) l1 (.lst [.int 0])) l2 (.lst (vN (List.replicate R.length 0)))) = H6 at s6 r6 ec et
  -- for berth in range(1, len(wishes) + 1)
  refine ⟨.ref p, rfl, p, _, rfl, s6.seqA hs, _, 1, rfl, rfl, 1, _, rfl, ⟨by decide, by decide, by rw [vN_len]; omega, by rw [vN_len]; omega⟩, ?_⟩
  have e3 : ((((vN R).length : Nat) : Int) + 1 - 1).toNat = R.length := by rw [vN_len]; omega
  rw [e3]
  refine for_range (fun b σ H' => (∃ y6 y7 y8, σ = [some (.ref p), some (.ref D), y, z, some (.ref l0), some (.ref l2), y6, y7, y8, none]) ∧ Same H H' ∧ RowsAt H' D ps (kn R) ∧ H' l0 = some (.lst (vN (comes R b))) ∧ H' l2 = some (.lst (vN (treeB R b)))) ⟨⟨none, none, none, rfl⟩, s6, r6, ec, et⟩ ?_ ?_
  · rintro b σ H' hb ⟨⟨y6, y7, y8, rfl⟩, s, r, ec, et⟩
    have hlong := hR.2 b (by omega)
    have ea : (comes R b)[b]? = some (comes R b)[b] := List.getElem?_eq_getElem hlong
    refine ⟨.ref l0, rfl, .int (1 + (b : Int)), rfl, _, 1, rfl, rfl, l0, _, _, _, rfl, rfl, sqL_of ec, at_of (j := b) (by show 1 + (b : Int) - 1 = b; omega) (vN_at ea), ?_⟩
    obtain ⟨qa, hqa⟩ : ∃ q, ps[b + 1]? = some q := ⟨_, List.getElem?_eq_getElem (by rw [wn.len]; omega)⟩
    have hqm := List.mem_of_getElem? hqa
    show tFor (iList K (tOp (rIxL K) (tVar 1) (tVar 6))) (gName 8) (tSeq (tAsg (tVar 7) (gSub (tVar 5) (tOp rSubI (tVar 8) (tC (.int 1))) rSetL)) (tDrop (tBM K "list" rAppend (tVar 4) (tCons (tVar 8) tNil)))) _ [some (.ref p), some (.ref D), y, z, some (.ref l0), some (.ref l2), some (.int (1 + (b : Int))), some (.int ((comes R b)[b] : Nat)), y8, none] H'
    refine inner_loop (kv := 8) (av := 7) (tv := 5) (cv := 4) (q := qa) (T := l2) (C := l0) (a := (comes R b)[b]) (ks := kn R (b + 1)) (l := treeB R b) (m := comes R b) (by show 8 < 10; decide) (by decide) (by decide) (by decide) rfl rfl rfl (fun Q q => ⟨.ref D, rfl, .int (1 + (b : Int)), rfl, D, _, _, .ref qa, rfl, rfl, sqL_of r.d, at_of (j := b + 1) (by show 1 + (b : Int) = ((b + 1 : Nat) : Int); omega) (by rw [List.getElem?_map, hqa]; rfl), q⟩)
      (r.row _ _ hqa) (fun z => hpl2 (z ▸ hqm)) (fun z => hpl0 (z ▸ hqm)) (Ne.symm h02) et ec (fun k hk => ?_) (by have := fm_len hR b; omega) fun σ' H'' hσ eT eC ag => ?_
    · obtain ⟨k1, k2⟩ := mem_kn.mp hk
      have := (List.getElem?_eq_some_iff.mp k2).1
      rw [treeB_len]
      omega
    · refine ⟨?_, ?_, r.agree ag hDl2 hDl0 (fun p hp => ⟨fun z => hpl2 (z ▸ hp), fun z => hpl0 (z ▸ hp)⟩), ?_, ?_⟩
      · rcases hσ with e | ⟨x, e⟩
        · exact ⟨_, _, _, e⟩
        · exact ⟨_, _, _, e⟩
      · exact fun b x e => (ag b (ne_of_none e n2) (ne_of_none e hn0)).trans (s b x e)
      · rw [comes_succ]
        exact eC
      · rw [setAll_tree (comes_at ea (by omega))] at eT
        exact eT
  · rintro σ H' ⟨⟨y6, y7, y8, rfl⟩, s, r, ec, et⟩
    rw [treeB_end fun w hw => (hR.1 w hw).2] at et
    exact ⟨.ref l2, rfl, l2, _, rfl, .inl ⟨sqL_of et, fun l nl => q l _ (s.free nl) (s.trans (same_new nl)) upd_same⟩⟩
/-! ### wishes_of -/
def goodT (xs : List V) : Bool := decide (1 ≤ xs.length) && decide (xs.length ≤ 400) && xs.all (inB 0 xs.length)
def ChkT (K : PySem.W.Frag) (a : Ad) (w : V) (H : Hp) (E : XK) (R : List Nat → Addr → Prop) : Prop :=
  (∃ T, TyB K H w T ∧ T ≠ "list" ∧ T ≠ "tuple" ∧ E (.ref a.e_NoTree) none H) ∨
  ∃ p xs, w = .ref p ∧ SqA K H p xs ∧ (∀ x ∈ xs, ∃ T, TyB K H x T) ∧ ((goodT xs = false ∧ E (.ref a.e_NoTree) none H) ∨ ∃ T : List Nat, xs = vN T ∧ 1 ≤ T.length ∧ T.length ≤ 400 ∧ (∀ x ∈ T, x ≤ T.length) ∧ R T p)
theorem ChkT.imp {K : PySem.W.Frag} {a : Ad} {w : V} {H : Hp} {E : XK} {R R' : List Nat → Addr → Prop} (h : ChkT K a w H E R) (k : ∀ T p, w = .ref p → SqA K H p (vN T) → 1 ≤ T.length → T.length ≤ 400 → (∀ x ∈ T, x ≤ T.length) → R T p → R' T p) : ChkT K a w H E R' := by
  rcases h with h | ⟨p, xs, e, hs, ht, h | ⟨T, ex, h1, h2, h3, r⟩⟩
  · exact .inl h
  · exact .inr ⟨p, xs, e, hs, ht, .inl h⟩
  · exact .inr ⟨p, xs, e, hs, ht, .inr ⟨T, ex, h1, h2, h3, k T p e (ex ▸ hs) h1 h2 h3 r⟩⟩
theorem ChkT.ok {K : PySem.W.Frag} {a : Ad} {H : Hp} {E : XK} {R : List Nat → Addr → Prop} {T : List Nat} {p : Addr} (hs : SqA K H p (vN T)) (h1 : 1 ≤ T.length) (h2 : T.length ≤ 400) (h3 : ∀ x ∈ T, x ≤ T.length) (r : R T p) : ChkT K a (.ref p) H E R :=
  .inr ⟨p, _, rfl, hs, fun x hx => by
    obtain ⟨i, _, rfl⟩ := List.mem_map.mp hx
    exact ⟨_, .int _⟩, .inr ⟨T, rfl, h1, h2, h3, r⟩⟩
theorem goodT_vN {T : List Nat} (h1 : 1 ≤ T.length) (h2 : T.length ≤ 400) (h3 : ∀ x ∈ T, x ≤ T.length) : goodT (vN T) = true := by
  unfold goodT
  rw [vN_len, decide_eq_true h1, decide_eq_true h2, Bool.true_and, Bool.true_and, List.all_eq_true]
  intro x hx
  obtain ⟨k, hk, rfl⟩ := List.mem_map.mp hx
  have := h3 k hk
  simp [inB]
  omega
def sp_p_check_knots (K : PySem.W.Frag) (a : Ad) : Sp := fun vs H Q E => ∃ w, vs = [w] ∧ ChkT K a w H E fun _ _ => Q .non H
abbrev N_p_check_knots : List Str := ["tree", "above"]
def t_p_check_knots (K : PySem.W.Frag) (a : Ad) (E : XK) : TS :=
  (tSeq (tIfS (tOr (tNot (tB (tCall (sp_is_row K a) [] E0 (tCons (tVar 0) tNil)))) (tNot (tTest (tChain rLeI rLeI (tC (.int 1)) (tCB (rLenSq K) (tCons (tVar 0) tNil)) (tC (.int 400)))))) (tRaise a.e_NoTree E) tNext)
    (tFor (iSeq K (tVar 0)) (gName 1)
    (tIfS (tNot (tB (tCall (sp_is_from_to K a) [] E0 (tCons (tC (.int 0)) (tCons (tCB (rLenSq K) (tCons (tVar 0) tNil)) (tCons (tVar 1) tNil)))))) (tRaise a.e_NoTree E) tNext)))
theorem len_p_check_knots {K : PySem.W.Frag} {a : Ad} {vs : List V} {H : Hp} {Q : VK} {E : XK} (h : sp_p_check_knots K a vs H Q E) : vs.length = 1 := by
  obtain ⟨w, rfl, _⟩ := h
  rfl
theorem pu_p_check_knots {K : PySem.W.Frag} {a : Ad} {vs : List V} {H : Hp} {Q : VK} {E : XK} (h : sp_p_check_knots K a vs H Q E) : t_p_check_knots K a E { nx := fun _ H' => Q .non H', rt := Q } (start N_p_check_knots vs) H := by
  obtain ⟨w, rfl, ⟨T, ty, n1, n2, q⟩ | ⟨p, xs, rfl, hs, ht, r⟩⟩ := h
  · refine ⟨w, rfl, w, T, rfl, ty, _, rfl, ?_⟩
    rw [decide_eq_false n1, decide_eq_false n2]
    exact iteT (iteT q)
  obtain ⟨T, ty, eT⟩ := hs.ty
  refine ⟨.ref p, rfl, .ref p, T, rfl, ty, _, rfl, ?_⟩
  rw [eT]
  refine iteF ?_
  have done : (goodT xs = false → E (.ref a.e_NoTree) none H) ∧ (goodT xs = true → Q .non H) := by
    rcases r with ⟨g, q⟩ | ⟨ws, ex, h1, h2, h3, q⟩
    · exact ⟨fun _ => q, fun g' => by rw [g] at g'; cases g'⟩
    · have g : goodT xs = true := by rw [ex]; exact goodT_vN h1 h2 h3
      exact ⟨fun g' => (by rw [g] at g'; cases g'), fun _ => q⟩
  refine ⟨.ref p, rfl, p, xs, rfl, hs, 1, _, rfl, rfl, _, rfl, ?_⟩
  by_cases h1 : (1 : Int) ≤ (xs.length : Nat)
  case neg =>
    rw [decide_eq_false h1]
    refine iteF ⟨_, rfl, iteT (done.1 ?_)⟩
    unfold goodT
    rw [decide_eq_false (show ¬ 1 ≤ xs.length by omega)]
    rfl
  rw [decide_eq_true h1]
  by_cases h2 : ((xs.length : Nat) : Int) ≤ 400
  case neg =>
    refine iteT ⟨_, 400, rfl, rfl, _, rfl, ?_⟩
    rw [decide_eq_false h2]
    refine iteT (done.1 ?_)
    unfold goodT
    rw [decide_eq_false (show ¬ xs.length ≤ 400 by omega), Bool.and_false]
    rfl
  refine iteT ⟨_, 400, rfl, rfl, _, rfl, ?_⟩
  rw [decide_eq_true h2]
  refine iteF (for_seq (K := K) (H0 := H) (fun Q q => ⟨.ref p, rfl, q⟩) hs (fun i σ H' => H' = H ∧ (xs.take i).all (inB 0 xs.length) = true ∧ ∃ y, σ = [some (.ref p), y]) ⟨rfl, rfl, none, rfl⟩ (fun i σ H' e => by rw [e.1]; exact Same.refl H) ?_ ?_)
  · rintro i x σ H' hx ⟨rfl, ha, y, rfl⟩
    obtain ⟨T, ty⟩ := ht x (List.mem_of_getElem? hx)
    refine ⟨.ref p, rfl, p, xs, rfl, hs, x, rfl, 0, _, x, T, rfl, ty, inB 0 xs.length x, rfl, ?_⟩
    cases g : inB 0 xs.length x with
    | true => exact iteF ⟨rfl, by rw [take_more hx, List.all_append, ha]; simp [g], some x, rfl⟩
    | false =>
      refine iteT (done.1 ?_)
      unfold goodT
      have : xs.all (inB 0 xs.length) = false := by
        cases z : xs.all (inB 0 xs.length) with
        | false => rfl
        | true =>
          rw [List.all_eq_true] at z
          rw [z x (List.mem_of_getElem? hx)] at g
          cases g
      rw [this, Bool.and_false]
  · rintro σ H' ⟨rfl, ha, y, rfl⟩
    rw [List.take_length] at ha
    refine done.2 ?_
    unfold goodT
    rw [ha, decide_eq_true (show 1 ≤ xs.length by omega), decide_eq_true (show xs.length ≤ 400 by omega)]
    rfl

def rowB (T : List Nat) (b : Nat) : List Nat := T.map fun a => if (metA T).idxOf a < b then (metA T).idxOf a + 1 else 0
theorem rowB_len (T : List Nat) (b : Nat) : (rowB T b).length = T.length := by simp [rowB]
theorem rowB_zero (T : List Nat) : rowB T 0 = List.replicate T.length 0 := by
  unfold rowB
  apply List.ext_getElem?
  intro i
  rw [List.getElem?_map]
  by_cases hi : i < T.length
  · rw [List.getElem?_eq_getElem hi, List.getElem?_replicate_of_lt hi]
    rfl
  · rw [List.getElem?_eq_none (by omega), List.getElem?_eq_none (by simp; omega)]
    rfl
theorem setAll_row {T : List Nat} {b a : Nat} (ha : (metA T)[b]? = some a) : setAll (rowB T b) (kn T a) (b + 1) = rowB T (b + 1) := by
  apply List.ext_getElem?
  intro i
  by_cases hi : i < T.length
  · rw [setAll_at _ _ _ _ (fun k hk => (mem_kn.mp hk).1) (by rw [rowB_len]; exact hi)]
    have e : T[i]? = some T[i] := List.getElem?_eq_getElem hi
    unfold rowB
    rw [List.getElem?_map, List.getElem?_map, e]
    by_cases z : i + 1 ∈ kn T a
    · have := (mem_kn.mp z).2
      rw [Nat.add_sub_cancel, e] at this
      have hw := Option.some.inj this
      rw [if_pos z]
      simp only [Option.map_some, hw, idx_at (metA_nodup T) ha]
      rw [if_pos (by omega)]
    · have hw : T[i] ≠ a := fun y => z (mem_kn.mpr ⟨by omega, by rw [Nat.add_sub_cancel, e, y]⟩)
      rw [if_neg z]
      simp only [Option.map_some]
      have hne : (metA T).idxOf T[i] ≠ b := fun y => by
        have hlt := (List.getElem?_eq_some_iff.mp ha).1
        have := at_idx (List.idxOf_lt_length_iff.mp (show (metA T).idxOf T[i] < (metA T).length by omega))
        rw [y, ha] at this
        exact hw (Option.some.inj this).symm
      by_cases y : (metA T).idxOf T[i] < b
      · rw [if_pos y, if_pos (by omega)]
      · rw [if_neg y, if_neg (by omega)]
  · rw [List.getElem?_eq_none (by rw [setAll_len, rowB_len]; omega), List.getElem?_eq_none (by rw [rowB_len]; omega)]
theorem rowB_end {T : List Nat} (hr : Rooted T) (hT : ∀ a ∈ T, a ≤ T.length) {b : Nat} (hb : (metA T).length ≤ b) : rowB T b = rowL T := List.map_congr_left fun a ha => by
  have := List.idxOf_lt_length_of_mem (rooted_mem hr (hT a ha))
  rw [if_pos (by omega)]
theorem ml_len (T : List Nat) {b a : Nat} (h : (met T b)[b]? = some a) : (met T b).length + (kn T a).length ≤ T.length + 1 := by
  have := met_len (T := T) (b + 1)
  rw [met_step h, List.length_append] at this
  exact this
def sp_wishes_of (K : PySem.W.Frag) (a : Ad) : Sp := fun vs H Q E => ∃ w, vs = [w] ∧ ChkT K a w H E fun T _ => (¬ Rooted T ∧ ∀ H', Same H H' → E (.ref a.e_NoTree) none H') ∨ (Rooted T ∧ ∀ (l : Addr) (H' : Hp), H l = none → Same H H' → H' l = some (.tup (vN (rowL T))) → Q (.ref l) H')
abbrev N_wishes_of : List Str := ["tree", "below", "place", "above", "come_to", "wishes", "berth", "knot", "_"]
def t_wishes_of (K : PySem.W.Frag) (a : Ad) (E : XK) : TS :=
  (tSeq (tDrop (tCall (sp_p_check_knots K a) [] E (tCons (tVar 0) tNil)))
    (tSeq (tAsg (tLc (iRng1 (tCons (tOp rAddI (tCB (rLenSq K) (tCons (tVar 0) tNil)) (tC (.int 1))) tNil)) (gName 8) tYes (tLst tNil) [8]) (gName 1))
    (tSeq (tFor (iEnumS K (tCons (tVar 0) tNil)) (gTup K 2 (gCons (gName 2) (gCons (gName 3) gNil)))
    (tDrop (tBM K "list" rAppend (tOp (rIxL K) (tVar 1) (tVar 3)) (tCons (tOp rAddI (tVar 2) (tC (.int 1))) tNil))))
    (tSeq (tAsg (tLst (tCons (tC (.int 0)) tNil)) (gName 4))
    (tSeq (tAsg (tOp rRep (tLst (tCons (tC (.int 0)) tNil)) (tCB (rLenSq K) (tCons (tVar 0) tNil))) (gName 5))
    (tSeq (tAsg (tC (.int 0)) (gName 6))
    (tSeq (tWhile (tTest (tOp rLtI (tVar 6) (tCB (rLenSq K) (tCons (tVar 4) tNil)))) (tSeq (tAsg (tOp (rIxL K) (tVar 4) (tVar 6)) (gName 3))
    (tSeq (tAug 6 (tC (.int 1)) ipAdd)
    (tFor (iList K (tOp (rIxL K) (tVar 1) (tVar 3))) (gName 7)
    (tSeq (tAsg (tVar 6) (gSub (tVar 5) (tOp rSubI (tVar 7) (tC (.int 1))) rSetL))
    (tDrop (tBM K "list" rAppend (tVar 4) (tCons (tVar 7) tNil))))))))
    (tSeq (tIfS (tTest (tOp rLeI (tCB (rLenSq K) (tCons (tVar 4) tNil)) (tCB (rLenSq K) (tCons (tVar 0) tNil)))) (tRaise a.e_NoTree E) tNext)
    (tRet (tCB (rTupleOf K) (tCons (tVar 5) tNil)))))))))))
theorem len_wishes_of {K : PySem.W.Frag} {a : Ad} {vs : List V} {H : Hp} {Q : VK} {E : XK} (h : sp_wishes_of K a vs H Q E) : vs.length = 1 := by
  obtain ⟨w, rfl, _⟩ := h
  rfl
theorem pu_wishes_of {K : PySem.W.Frag} {a : Ad} {vs : List V} {H : Hp} {Q : VK} {E : XK} (h : sp_wishes_of K a vs H Q E) : t_wishes_of K a E { nx := fun _ H' => Q .non H', rt := Q } (start N_wishes_of vs) H := by
  obtain ⟨w, rfl, h⟩ := h
  refine ⟨w, rfl, w, rfl, ChkT.imp h fun T p ew hs f1 f2 f3 q => ?_⟩
  subst ew
  -- below
  refine ⟨.ref p, rfl, p, _, rfl, hs, _, 1, rfl, rfl, _, rfl, by rw [vN_len]; omega, by rw [vN_len]; omega, ?_⟩
  have en : ((((vN T).length : Nat) : Int) + 1).toNat = T.length + 1 := by rw [vN_len]; omega
  rw [en]
  refine rows_lc (small1000 (by omega)) (fun x H' R h => h _ rfl) fun D ps H2 wn0 s12 r2 => ?_
  refine fill_rows hs f3 f2 (by show 4 ≤ 9; decide) rfl rfl s12 wn0 r2 fun H3 s3 r3 y z => ?_
  -- come_to = [0], wishes = [0] * len(tree)
  refine ⟨by decide, fun l0 nl0 => ?_⟩
  have s4 := s3.store (s3.free nl0) (o := .lst [.int 0])
  have hn0 := s3.free nl0
  refine ⟨by decide, fun l1 nl1 => ⟨.ref p, rfl, p, _, rfl, (s4.store (s4.free nl1)).seqA hs, l1, _, _, rfl, rfl, upd_same, by rw [vN_len]; omega, by rw [vN_len]; omega, ?_, fun l2 nl2 => ?_⟩⟩
  · refine l1000 ?_
    rw [vN_len]
    show 1 * _ ≤ _
    omega
  have e2 : ((((vN T).length : Nat) : Int)).toNat = T.length := by rw [vN_len]; omega
  rw [e2, vN_rep]
  have n1 := s4.free nl1
  have s5 := s4.store n1 (o := .lst [.int 0])
  have n2 := s5.free nl2
  have s6 := s5.store n2 (o := .lst (vN (List.replicate T.length 0)))
  have h01 : l0 ≠ l1 := ne_of_none upd_same nl1
  have h02 : l0 ≠ l2 := ne_of_none (by rw [upd_ne h01]; exact upd_same) nl2
  have hDl0 : D ≠ l0 := ne_of_none r3.d nl0
  have hpl0 : l0 ∉ ps := fun z => by
    obtain ⟨j, hj, e⟩ := List.getElem_of_mem z
    have := r3.row j l0 (by rw [List.getElem?_eq_getElem hj, e])
    rw [nl0] at this
    cases this
  have r4 : RowsAt (upd H3 l0 (.lst [.int 0])) D ps (kn T) := r3.keep hDl0 hpl0
  have r5 : RowsAt (upd (upd H3 l0 (.lst [.int 0])) l1 (.lst [.int 0])) D ps (kn T) := r4.same (same_new nl1)
  have r6 := r5.same (same_new nl2 (o := .lst (vN (List.replicate T.length 0))))
  have hDl2 : D ≠ l2 := ne_of_none r5.d nl2
  have hpl2 : l2 ∉ ps := fun z => by
    obtain ⟨j, hj, e⟩ := List.getElem_of_mem z
    have := r5.row j l2 (by rw [List.getElem?_eq_getElem hj, e])
    rw [nl2] at this
    cases this
  have ec : (upd (upd (upd H3 l0 (.lst [.int 0])) l1 (.lst [.int 0])) l2 (.lst (vN (List.replicate T.length 0)))) l0 = some (.lst (vN (met T 0))) := by
    rw [upd_ne h02, upd_ne h01, upd_same]
    rfl
  have et : (upd (upd (upd H3 l0 (.lst [.int 0])) l1 (.lst [.int 0])) l2 (.lst (vN (List.replicate T.length 0)))) l2 = some (.lst (vN (rowB T 0))) := by
    rw [upd_same, rowB_zero]
  generalize (upd (upd (upd H3 l0 (.lst [.int 0])) l1 (.lst [.int 0])) l2 (.lst (vN (List.replicate T.length 0)))) = H6 at s6 r6 ec et
  change (tSeq (tWhile _ _) _) _ _ _
  refine while_up (T.length + 1) (fun b σ H' => (∃ y3 y7, σ = [some (.ref p), some (.ref D), y, y3, some (.ref l0), some (.ref l2), some (.int (b : Int)), y7, none]) ∧ Same H H' ∧ RowsAt H' D ps (kn T) ∧ b ≤ (met T b).length ∧ H' l0 = some (.lst (vN (met T b))) ∧ H' l2 = some (.lst (vN (rowB T b)))) ⟨0, ⟨z, none, rfl⟩, s6, r6, Nat.zero_le _, ec, et⟩ ?_
  rintro b σ H' ⟨⟨y3, y7, rfl⟩, s, r, hbl, ec, et⟩
  refine ⟨.int (b : Int), rfl, .ref l0, rfl, l0, _, rfl, .inl (sqL_of ec), _, _, rfl, rfl, _, rfl, ?_⟩
  rw [vN_len]
  by_cases hlt : (b : Int) < ((met T b).length : Nat)
  · rw [decide_eq_true hlt]
    have ea : (met T b)[b]? = some (met T b)[b] := List.getElem?_eq_getElem (by omega)
    have hml := met_len (T := T) b
    refine iteT ⟨_, while_nx (b := b) (by omega), ?_⟩
    refine ⟨.ref l0, rfl, .int (b : Int), rfl, l0, _, _, _, rfl, rfl, sqL_of ec, at_of (j := b) rfl (vN_at ea), ?_⟩
    refine ⟨_, rfl, _, 1, rfl, rfl, ?_⟩
    have ha : (met T b)[b] ≤ T.length := met_le (b := b) (List.mem_of_getElem? ea)
    have hqlt : (met T b)[b] < ps.length := by rw [wn0.len]; omega
    obtain ⟨qa, hqa⟩ : ∃ q, ps[(met T b)[b]]? = some q := ⟨_, List.getElem?_eq_getElem hqlt⟩
    have hqm := List.mem_of_getElem? hqa
    have eb : (b : Int) + 1 = ((b + 1 : Nat) : Int) := by omega
    show tFor (iList K (tOp (rIxL K) (tVar 1) (tVar 3))) (gName 7) (tSeq (tAsg (tVar 6) (gSub (tVar 5) (tOp rSubI (tVar 7) (tC (.int 1))) rSetL)) (tDrop (tBM K "list" rAppend (tVar 4) (tCons (tVar 7) tNil)))) _ [some (.ref p), some (.ref D), y, some (.int ((met T b)[b] : Nat)), some (.ref l0), some (.ref l2), some (.int ((b : Int) + 1)), y7, none] H'
    rw [eb]
    refine inner_loop (kv := 7) (av := 6) (tv := 5) (cv := 4) (q := qa) (T := l2) (C := l0) (a := b + 1) (ks := kn T (met T b)[b]) (l := rowB T b) (m := met T b) (by show 7 < 9; decide) (by decide) (by decide) (by decide) rfl rfl rfl (fun Q q => ⟨.ref D, rfl, .int ((met T b)[b] : Nat), rfl, D, _, _, .ref qa, rfl, rfl, sqL_of r.d, at_of (j := (met T b)[b]) rfl (by rw [List.getElem?_map, hqa]; rfl), q⟩)
      (r.row _ _ hqa) (fun z => hpl2 (z ▸ hqm)) (fun z => hpl0 (z ▸ hqm)) (Ne.symm h02) et ec (fun k hk => ?_) (by have := ml_len T ea; omega) fun σ' H'' hσ eT eC ag => ?_
    · obtain ⟨k1, k2⟩ := mem_kn.mp hk
      have := (List.getElem?_eq_some_iff.mp k2).1
      rw [rowB_len]
      omega
    · refine ⟨?_, ?_, r.agree ag hDl2 hDl0 (fun p hp => ⟨fun z => hpl2 (z ▸ hp), fun z => hpl0 (z ▸ hp)⟩), ?_, ?_, ?_⟩
      · rcases hσ with e | ⟨x, e⟩
        · exact ⟨_, _, e⟩
        · exact ⟨_, _, e⟩
      · exact fun b x e => (ag b (ne_of_none e n2) (ne_of_none e hn0)).trans (s b x e)
      · rw [met_step ea, List.length_append]
        omega
      · rw [met_step ea]
        exact eC
      · rw [setAll_row (show (metA T)[b]? = some (met T b)[b] from met_at ea (by omega))] at eT
        exact eT
  · rw [decide_eq_false hlt]
    have hA : metA T = met T b := metA_at (by omega)
    refine iteF ⟨.ref l0, rfl, l0, _, rfl, .inl (sqL_of ec), .ref p, rfl, p, _, rfl, s.seqA hs, _, _, rfl, rfl, _, rfl, ?_⟩
    rw [vN_len, vN_len, ← hA]
    by_cases hR : ((metA T).length : Int) ≤ (T.length : Nat)
    · rw [decide_eq_true hR]
      refine iteT ?_
      rcases q with ⟨_, q⟩ | ⟨hr, _⟩
      · exact q H' s
      · exfalso
        have hr : T.length < (metA T).length := hr
        omega
    · rw [decide_eq_false hR]
      have hr : Rooted T := by
        show T.length < (metA T).length
        omega
      rcases q with ⟨h, _⟩ | ⟨_, q⟩
      · exact (h hr).elim
      rw [rowB_end hr f3 (by rw [hA]; omega)] at et
      exact iteF ⟨.ref l2, rfl, l2, _, rfl, .inl ⟨sqL_of et, fun l nl => q l _ (s.free nl) (s.trans (same_new nl)) upd_same⟩⟩

/-! ### any order of the same ships -/
theorem ffree_is {n : Nat} {occ : Int → Bool} {w b : Int} (h1 : w ≤ b) (h2 : b ≤ n) (h3 : occ b = false) (h4 : ∀ x, w ≤ x → x < b → occ x = true) : ffree n occ w = some b := by
  cases e : ffree n occ w with
  | none =>
    rw [ffree_none e b h1 h2] at h3
    cases h3
  | some c =>
    obtain ⟨c1, c2, c3, c4⟩ := ffree_some e
    congr 1
    by_cases z : c < b
    · rw [h4 c c1 z] at c3
      cases c3
    · by_cases z2 : b < c
      · rw [c4 b h1 z2] at h3
        cases h3
      · omega
theorem ffree_non {n : Nat} {occ : Int → Bool} {w : Int} (h : ∀ x, w ≤ x → x ≤ n → occ x = true) : ffree n occ w = none := by
  cases e : ffree n occ w with
  | none => rfl
  | some c =>
    obtain ⟨c1, c2, c3, c4⟩ := ffree_some e
    rw [h c c1 c2] at c3
    cases c3
def stp (n : Nat) (occ : Int → Bool) (w : Int) : Int → Bool := match ffree n occ w with
  | none => occ
  | some b => setO occ b
theorem stp_none {n : Nat} {occ : Int → Bool} {w : Int} (h : ffree n occ w = none) : stp n occ w = occ := by simp only [stp, h]
theorem stp_some {n : Nat} {occ : Int → Bool} {w b : Int} (h : ffree n occ w = some b) : stp n occ w = setO occ b := by simp only [stp, h]
theorem setO_comm (occ : Int → Bool) (x y : Int) : setO (setO occ x) y = setO (setO occ y) x := by
  funext z
  unfold setO
  cases decide (z = x) <;> cases decide (z = y) <;> rfl
theorem setO_mono {occ : Int → Bool} {x y : Int} (h : occ y = true) : setO occ x y = true := by
  unfold setO
  rw [h, Bool.or_true]
theorem setO_ne {occ : Int → Bool} {x y : Int} (h : y ≠ x) : setO occ x y = occ y := by
  unfold setO
  rw [decide_eq_false h, Bool.false_or]
theorem setO_self {occ : Int → Bool} {x : Int} : setO occ x x = true := by simp [setO]
theorem stp_comm_le {n : Nat} {occ : Int → Bool} {w1 w2 : Int} (h : w1 ≤ w2) : stp n (stp n occ w1) w2 = stp n (stp n occ w2) w1 := by
  cases eb : ffree n occ w2 with
  | none =>
    have fb := ffree_none eb
    rw [stp_none eb]
    cases ea : ffree n occ w1 with
    | none => rw [stp_none ea, stp_none eb]
    | some x =>
      rw [stp_some ea]
      exact stp_none (ffree_non fun y h1 h2 => setO_mono (fb y h1 h2))
  | some y =>
    obtain ⟨y1, y2, y3, y4⟩ := ffree_some eb
    rw [stp_some eb]
    cases ea : ffree n occ w1 with
    | none =>
      rw [ffree_none ea y (by omega) y2] at y3
      cases y3
    | some x =>
      obtain ⟨x1, x2, x3, x4⟩ := ffree_some ea
      rw [stp_some ea]
      by_cases z : x = y
      · subst z
        have hocc : ∀ u, w1 ≤ u → u ≤ x → setO occ x u = true := fun u h1 h2 => by
          by_cases q : u = x
          · rw [q]; exact setO_self
          · exact setO_mono (x4 u h1 (by omega))
        cases ec : ffree n (setO occ x) w2 with
        | none =>
          have fc := ffree_none ec
          rw [stp_none ec]
          refine (stp_none (ffree_non fun u h1 h2 => ?_)).symm
          by_cases q : u ≤ x
          · exact hocc u h1 q
          · exact fc u (by omega) h2
        | some z =>
          obtain ⟨z1, z2, z3, z4⟩ := ffree_some ec
          have hz : x < z := by
            by_cases q : x < z
            · exact q
            · rw [hocc z (by omega) (by omega)] at z3
              cases z3
          rw [stp_some ec]
          refine (stp_some (ffree_is (by omega) z2 z3 fun u h1 h2 => ?_)).symm
          by_cases q : u ≤ x
          · exact hocc u h1 q
          · exact z4 u (by omega) h2
      · have hx : x < y := by
          by_cases q : x < y
          · exact q
          · rw [x4 y (by omega) (by omega)] at y3
            cases y3
        have e1 : stp n (setO occ x) w2 = setO (setO occ x) y := stp_some (ffree_is y1 y2 (by rw [setO_ne (Ne.symm z)]; exact y3) fun u h1 h2 => setO_mono (y4 u h1 h2))
        have e2 : stp n (setO occ y) w1 = setO (setO occ y) x := stp_some (ffree_is x1 x2 (by rw [setO_ne z]; exact x3) fun u h1 h2 => setO_mono (x4 u h1 h2))
        rw [e1, e2, setO_comm]
theorem stp_comm {n : Nat} {occ : Int → Bool} {w1 w2 : Int} : stp n (stp n occ w1) w2 = stp n (stp n occ w2) w1 := by
  by_cases h : w1 ≤ w2
  · exact stp_comm_le h
  · exact (stp_comm_le (by omega)).symm
theorem occ_fold {n : Nat} : ∀ ws : List Int, (prun n ws).1 = ws.foldl (stp n) (fun _ => false) := snoc_ind rfl fun ws w ih => by
  rw [occ_snoc, List.foldl_append, ← ih]
  rfl
theorem occ_perm {n : Nat} {ws ws' : List Int} (h : ws.Perm ws') : (prun n ws).1 = (prun n ws').1 := by
  rw [occ_fold, occ_fold]
  exact h.foldl_eq' (fun x _ y _ z => stp_comm) _
theorem somes_perm {n : Nat} {ws ws' : List Int} (h : ws.Perm ws') (hb : ∀ w ∈ ws, 1 ≤ w ∧ w ≤ n) : (somes (placedL n ws)).Perm (somes (placedL n ws')) := by
  have L := lay n ws hb
  have L' := lay n ws' fun w hw => hb w (h.mem_iff.mpr hw)
  refine (List.perm_ext_iff_of_nodup L.nd L'.nd).mpr fun x => ?_
  rw [← L.occ, ← L'.occ, occ_perm h]
theorem sortI_perm_eq {l l' : List Int} (h : l.Perm l') : sortI l = sortI l' := sortI_uniq ((sortI_perm l).trans h) (sortI_sorted l)
theorem taken_perm {n : Nat} {ws ws' : List Int} (h : ws.Perm ws') (hb : ∀ w ∈ ws, 1 ≤ w ∧ w ≤ n) : takenL n ws = takenL n ws' := sortI_perm_eq (somes_perm h hb)
theorem crowded_perm {n : Nat} {ws ws' : List Int} (h : ws.Perm ws') : crowdedL n ws = crowdedL n ws' := by
  unfold crowdedL
  congr 1
  funext b
  rw [cntGe_perm h]
theorem away_len : ∀ os : List (Option Int), (os.filter Option.isNone).length + (somes os).length = os.length
  | [] => rfl
  | none :: os => by
    have := away_len os
    simp only [List.filter_cons, Option.isNone_none, if_true, List.length_cons]
    show (os.filter Option.isNone).length + 1 + (somes os).length = os.length + 1
    omega
  | some b :: os => by
    have := away_len os
    show (os.filter Option.isNone).length + ((somes os).length + 1) = os.length + 1
    omega
theorem sum_perm {l l' : List Int} (h : l.Perm l') : l.sum = l'.sum := by
  induction h with
  | nil => rfl
  | cons x _ ih => rw [List.sum_cons, List.sum_cons, ih]
  | swap x y l =>
    simp only [List.sum_cons]
    omega
  | trans _ _ h1 h2 => exact h1.trans h2
/-- the wishes of those that lie -/
def lieL (ws : List Int) (os : List (Option Int)) : List Int := ((ws.zip os).filter fun p => p.2.isSome).map (·.1)
theorem lieL_snoc {ws : List Int} {os : List (Option Int)} {w : Int} {o : Option Int} (h : ws.length = os.length) : lieL (ws ++ [w]) (os ++ [o]) = lieL ws os ++ (if o.isSome = true then [w] else []) := by
  unfold lieL
  rw [List.zip_append h, List.filter_append, List.map_append]
  cases o <;> rfl
theorem gone_sum : ∀ (ws : List Int) (os : List (Option Int)), ws.length = os.length → (goneL ws os).sum = (somes os).sum - (lieL ws os).sum
  | [], [], _ => rfl
  | w :: ws, none :: os, h => gone_sum ws os (Nat.succ.inj h)
  | w :: ws, some b :: os, h => by
    have ih := gone_sum ws os (Nat.succ.inj h)
    show ((b - w) :: goneL ws os).sum = (b :: somes os).sum - (w :: lieL ws os).sum
    rw [List.sum_cons, List.sum_cons, List.sum_cons, ih]
    omega
theorem lie_all : ∀ (ws : List Int) (os : List (Option Int)), ws.length = os.length → none ∉ os → lieL ws os = ws
  | [], [], _, _ => rfl
  | w :: ws, none :: os, _, h => absurd List.mem_cons_self h
  | w :: ws, some b :: os, h, hn => by
    have ih := lie_all ws os (Nat.succ.inj h) fun z => hn (List.mem_cons_of_mem _ z)
    show w :: lieL ws os = w :: ws
    rw [ih]
theorem lie_run {n : Nat} : ∀ ws : List Int, prun n (lieL ws (placedL n ws)) = ((prun n ws).1, (placedL n ws).filter Option.isSome) := snoc_ind rfl fun ws w ih => by
  rw [placedL_snoc, lieL_snoc (placedL_len).symm, List.filter_append, occ_snoc]
  cases e : ffree n (prun n ws).1 w with
  | none =>
    simp only [Option.isSome_none, Bool.false_eq_true, if_false, List.append_nil]
    rw [ih]
    simp [List.filter]
  | some b =>
    simp only [Option.isSome_some, if_true]
    rw [prun_snoc, ih]
    unfold pstep
    simp only [e]
    simp [List.filter]
theorem lie_placed {n : Nat} {ws : List Int} : placedL n (lieL ws (placedL n ws)) = (placedL n ws).filter Option.isSome := by
  have := lie_run (n := n) ws
  unfold placedL at this ⊢
  rw [this]
theorem somes_filter (os : List (Option Int)) : somes (os.filter Option.isSome) = somes os := by
  induction os with
  | nil => rfl
  | cons o os ih => cases o with
    | none => exact ih
    | some b => exact congrArg (b :: ·) ih
theorem none_filter_some {os : List (Option Int)} : none ∉ os.filter Option.isSome := fun z => by
  have := (List.mem_filter.mp z).2
  cases this
theorem mem_lie {ws : List Int} {os : List (Option Int)} {x : Int} (h : x ∈ lieL ws os) : x ∈ ws := by
  unfold lieL at h
  obtain ⟨p, hp, rfl⟩ := List.mem_map.mp h
  exact (List.of_mem_zip (List.mem_filter.mp hp).1).1
theorem lie_len (ws : List Int) (os : List (Option Int)) : (lieL ws os).length ≤ ws.length := by
  unfold lieL
  rw [List.length_map]
  refine Nat.le_trans (List.length_filter_le _ _) ?_
  rw [List.length_zip]
  omega
/-- a ship more takes one berth more, or none -/
theorem taken_mem {n : Nat} {ws : List Int} {x : Int} : x ∈ takenL n ws ↔ x ∈ somes (placedL n ws) := (sortI_perm _).mem_iff
theorem somes_last {n : Nat} {ws : List Int} (hne : ws ≠ []) : ∃ o : Option Int, somes (placedL n ws) = somes (placedL n ws.dropLast) ++ o.toList := by
  refine ⟨ffree n (prun n ws.dropLast).1 (ws.getLast hne), ?_⟩
  rw [← somes_snoc, ← placedL_snoc, List.dropLast_concat_getLast hne]

/-! ### mixed numbers, an order of so many -/
def sp_l_mix (K : PySem.W.Frag) : Sp := fun vs H Q _ => ∃ (p : Addr) (st c : Int), vs = [.ref p, .int c] ∧ H p = some (.lst [.int st]) ∧ 0 ≤ st ∧ st < 2147483647 ∧ ∀ st' r : Int, 0 ≤ st' → st' < 2147483647 → 0 ≤ r → r < 2147483647 → Q (.int r) (upd H p (.lst [.int st']))
abbrev N_l_mix : List Str := ["_law_state", "_law_cell"]
def t_l_mix (K : PySem.W.Frag) (a : Ad) : TS :=
  (tSeq (tAsg (tOp rModI (tOp rAddI (tOp rAddI (tOp rMulI (tOp (rIxL K) (tVar 0) (tC (.int 0))) (tC (.int 48271))) (tOp rMulI (tVar 1) (tC (.int 16807)))) (tC (.int 11))) (tC (.int 2147483647))) (gSub (tVar 0) (tC (.int 0)) rSetL))
    (tRet (tOp rDivI (tOp rModI (tOp rMulI (tOp (rIxL K) (tVar 0) (tC (.int 0))) (tOp (rIxL K) (tVar 0) (tC (.int 0)))) (tC (.int 2147483647))) (tC (.int 5)))))
theorem len_l_mix {K : PySem.W.Frag} {vs : List V} {H : Hp} {Q : VK} {E : XK} (h : sp_l_mix K vs H Q E) : vs.length = 2 := by
  obtain ⟨p, st, c, rfl, _⟩ := h
  rfl
theorem d5 {n : Int} : CDiv n 5 := ⟨by decide, by decide⟩
theorem pmix : (0 : Int) < 2147483647 := by decide
theorem pu_l_mix {K : PySem.W.Frag} {a : Ad} {vs : List V} {H : Hp} {Q : VK} {E : XK} (h : sp_l_mix K vs H Q E) : t_l_mix K a { nx := fun _ H' => Q .non H', rt := Q } (start N_l_mix vs) H := by
  obtain ⟨p, st, c, rfl, hp, h0, h1, q⟩ := h
  refine ⟨.ref p, rfl, p, _, 0, .int st, rfl, rfl, sqL_of hp, atI_nat (j := 0) rfl, st, 48271, rfl, rfl, .inr ⟨by decide, by decide⟩, .int c, rfl, c, 16807, rfl, rfl, .inr ⟨by decide, by decide⟩, _, _, rfl, rfl, _, 11, rfl, rfl, _, 2147483647, rfl, rfl, pmix, .ref p, rfl, p, _, 0, 0, rfl, rfl, hp, rfl, ?_⟩
  have b1 := Int.emod_nonneg (st * 48271 + c * 16807 + 11) (show (2147483647 : Int) ≠ 0 by decide)
  have b2 := Int.emod_lt_of_pos (st * 48271 + c * 16807 + 11) pmix
  refine ⟨.ref p, rfl, p, _, 0, .int ((st * 48271 + c * 16807 + 11) % 2147483647), rfl, rfl, sqL_of upd_same, atI_nat (j := 0) rfl, .ref p, rfl, p, _, 0, .int ((st * 48271 + c * 16807 + 11) % 2147483647), rfl, rfl, sqL_of upd_same, atI_nat (j := 0) rfl, _, _, rfl, rfl, .inl ⟨by omega, by omega⟩, _, 2147483647, rfl, rfl, pmix, _, 5, rfl, rfl, d5, ?_⟩
  have c1 := Int.emod_nonneg (((st * 48271 + c * 16807 + 11) % 2147483647) * ((st * 48271 + c * 16807 + 11) % 2147483647)) (show (2147483647 : Int) ≠ 0 by decide)
  have c2 := Int.emod_lt_of_pos (((st * 48271 + c * 16807 + 11) % 2147483647) * ((st * 48271 + c * 16807 + 11) % 2147483647)) pmix
  generalize (((st * 48271 + c * 16807 + 11) % 2147483647) * ((st * 48271 + c * 16807 + 11) % 2147483647)) % 2147483647 = u at c1 c2
  exact q _ _ b1 b2 (by omega) (by omega)
def sp_l_order (K : PySem.W.Frag) : Sp := fun vs H Q _ => ∃ (s : Addr) (ns : List Int) (m : Nat) (first : Int), vs = [.ref s, .int m, .int first] ∧ SqL K H s (ns.map V.int) ∧ m ≤ 400 ∧ 0 ≤ first ∧
  ∀ (l : Addr) (H' : Hp) (os : List Int), H l = none → Same H H' → H' l = some (.lst (os.map V.int)) → os.Perm (upTo 0 m) → Q (.ref l) H'
abbrev N_l_order : List Str := ["_law_script", "_law_many", "_law_first", "_law_state", "_law_some", "_law_order_here", "_law_turn"]
def t_l_order (K : PySem.W.Frag) (a : Ad) : TS :=
  (tSeq (tAsg (tLst (tCons (tOp rAddI (tC (.int 1)) (tOp rModI (tCall (sp_l_cell_at K) [] E0 (tCons (tVar 0) (tCons (tVar 2) tNil))) (tC (.int 2147483646)))) tNil)) (gName 3))
    (tSeq (tAsg (tLstRg (tRg1 (tVar 1))) (gName 4))
    (tSeq (tAsg (tLst tNil) (gName 5))
    (tSeq (tFor (iRng1 (tCons (tVar 1) tNil)) (gName 6)
    (tDrop (tBM K "list" rAppend (tVar 5) (tCons (tBM K "list" rPopAt (tVar 4) (tCons (tOp rModI (tCall (sp_l_mix K) [] E0 (tCons (tVar 3) (tCons (tCall (sp_l_cell_at K) [] E0 (tCons (tVar 0) (tCons (tOp rAddI (tOp rAddI (tVar 2) (tC (.int 1))) (tOp rModI (tVar 6) (tC (.int 3)))) tNil))) tNil))) (tCB (rLenSq K) (tCons (tVar 4) tNil))) tNil)) tNil))))
    (tRet (tVar 5))))))
theorem len_l_order {K : PySem.W.Frag} {vs : List V} {H : Hp} {Q : VK} {E : XK} (h : sp_l_order K vs H Q E) : vs.length = 3 := by
  obtain ⟨s, ns, m, first, rfl, _⟩ := h
  rfl
theorem rg_upTo {m : Nat} : rgV 0 (m : Int) = (upTo 0 m).map V.int := by
  unfold rgV upTo
  rw [List.map_map]
  have e : ((m : Int) - 0).toNat = m := by omega
  rw [e]
  rfl
theorem pop_perm {l : List Int} {k : Nat} {y : Int} (h : l[k]? = some y) : (y :: l.eraseIdx k).Perm l := by
  induction l generalizing k with
  | nil => simp at h
  | cons x r ih =>
    cases k with
    | zero =>
      cases h
      exact List.Perm.refl _
    | succ k => exact (List.Perm.swap x y _).trans ((ih (k := k) (by simpa using h)).cons x)
theorem pu_l_order {K : PySem.W.Frag} {a : Ad} {vs : List V} {H : Hp} {Q : VK} {E : XK} (h : sp_l_order K vs H Q E) : t_l_order K a { nx := fun _ H' => Q .non H', rt := Q } (start N_l_order vs) H := by
  obtain ⟨s, ns, m, first, rfl, hs, hm, hf, q⟩ := h
  refine ⟨.ref s, rfl, .int first, rfl, s, ns, first, rfl, hs, hf, _, 2147483646, rfl, rfl, (by show (0 : Int) < 2147483646; decide), 1, _, rfl, rfl, l1000 (by show 1 ≤ 1000; decide), fun ls nls => ?_⟩
  have b1 := Int.emod_nonneg (cellAt ns first) (show (2147483646 : Int) ≠ 0 by decide)
  have b2 := Int.emod_lt_of_pos (cellAt ns first) (show (0 : Int) < 2147483646 by decide)
  have s1 := same_new nls (o := .lst [.int (1 + cellAt ns first % 2147483646)])
  refine ⟨.int m, rfl, m, rfl, ⟨by omega, by omega, by omega, by omega, by omega⟩, fun lr nlr => ?_⟩
  have nlrH : H lr = none := s1.free nlr
  have s2 := s1.store nlrH (o := .lst (rgV 0 m))
  have n12 : ls ≠ lr := ne_of_none upd_same nlr
  refine ⟨Nat.zero_le _, fun lo nlo => ?_⟩
  have nloH : H lo = none := s2.free nlo
  have s3 := s2.store nloH (o := .lst [])
  have n23 : lr ≠ lo := ne_of_none upd_same nlo
  have n13 : ls ≠ lo := ne_of_none (by rw [upd_ne n12]; exact upd_same) nlo
  refine ⟨.int m, rfl, m, rfl, by omega, by omega, ?_⟩
  have em : ((m : Nat) : Int).toNat = m := by omega
  rw [em]
  refine for_range (fun i σ H' => ∃ (st : Int) (rest os : List Int) (y : Option V), σ = [some (.ref s), some (.int m), some (.int first), some (.ref ls), some (.ref lr), some (.ref lo), y] ∧ Same H H' ∧ H' ls = some (.lst [.int st]) ∧ 0 ≤ st ∧ st < 2147483647 ∧
    H' lr = some (.lst (rest.map V.int)) ∧ H' lo = some (.lst (os.map V.int)) ∧ (os ++ rest).Perm (upTo 0 m) ∧ os.length = i) ⟨_, upTo 0 m, [], none, rfl, s3, by rw [upd_ne n13, upd_ne n12]; exact upd_same, by omega, by omega, by rw [upd_ne n23, upd_same, rg_upTo], upd_same, List.Perm.refl _, rfl⟩ ?_ ?_
  · rintro i σ H' hi ⟨st, rest, os, y, rfl, sH, es, h0, h1, er, eo, hp, hl⟩
    have hlen := hp.length_eq
    rw [upTo_len, List.length_append, hl] at hlen
    have e0 : (0 : Int) + i = i := by omega
    rw [e0]
    refine ⟨.ref lo, rfl, .inl ⟨rfl, _, sqL_of eo⟩, .ref lr, rfl, .inl ⟨rfl, _, sqL_of er⟩, .ref ls, rfl, .ref s, rfl, .int first, rfl, first, 1, rfl, rfl, .int i, rfl, i, 3, rfl, rfl, p3, _, _, rfl, rfl, s, ns, _, rfl, sH.seq hs, (by show (0 : Int) ≤ first + 1 + (i : Int) % 3; omega), ls, st, _, rfl, es, h0, h1, fun st' r g0 g1 r0 r1 => ?_⟩
    have nlsH : H ls = none := nls
    have s4 := sH.store nlsH (o := .lst [.int st'])
    have er4 : (upd H' ls (.lst [.int st'])) lr = some (.lst (rest.map V.int)) := by rw [upd_ne n12.symm]; exact er
    have eo4 : (upd H' ls (.lst [.int st'])) lo = some (.lst (os.map V.int)) := by rw [upd_ne n13.symm]; exact eo
    have rl : (0 : Int) < ((rest.map V.int).length : Nat) := by rw [List.length_map]; omega
    refine ⟨.ref lr, rfl, lr, _, rfl, .inl (sqL_of er4), r, _, rfl, rfl, rl, ?_⟩
    have b1 := Int.emod_nonneg r (show (((rest.map V.int).length : Nat) : Int) ≠ 0 by omega)
    have b2 := Int.emod_lt_of_pos r rl
    generalize hj : r % (((rest.map V.int).length : Nat) : Int) = j at b1 b2
    have hjl : j.toNat < rest.length := by rw [List.length_map] at b2; omega
    have ey : rest[j.toNat]? = some rest[j.toNat] := List.getElem?_eq_getElem hjl
    have ey2 : (rest.map V.int)[j.toNat]? = some (.int rest[j.toNat]) := by rw [List.getElem?_map, ey]; rfl
    show rPopAt _ [.int (r % (((rest.map V.int).length : Nat) : Int))] _ _
    rw [hj]
    refine ⟨lr, _, j, j.toNat, _, rfl, rfl, er4, by omega, by rw [List.length_map] at b2; omega, ?_, ey2, ?_⟩
    · rw [seqIndex_of b1 b2]
    have pe := pop_perm ey
    have eo5 : (upd (upd H' ls (.lst [.int st'])) lr (.lst ((rest.map V.int).eraseIdx j.toNat))) lo = some (.lst (os.map V.int)) := by rw [upd_ne n23.symm]; exact eo4
    refine ⟨lo, _, _, rfl, rfl, eo5, by rw [List.length_map, hl]; exact small1000 (by omega), ?_⟩
    refine ⟨st', rest.eraseIdx j.toNat, os ++ [rest[j.toNat]], _, rfl, (s4.store nlrH).store nloH, ?_, g0, g1, ?_, ?_, ?_, ?_⟩
    · rw [upd_ne n13, upd_ne n12]
      exact upd_same
    · rw [upd_ne n23, upd_same]
      rw [L2.map_eraseIdx']
    · rw [upd_same, List.map_append]
      rfl
    · refine List.Perm.trans ?_ hp
      rw [List.append_assoc]
      exact List.Perm.append_left os pe
    · rw [List.length_append, hl]
      rfl
  · rintro σ H' ⟨st, rest, os, y, rfl, sH, es, h0, h1, er, eo, hp, hl⟩
    have hlen := hp.length_eq
    rw [upTo_len, List.length_append, hl] at hlen
    have er0 : rest = [] := List.length_eq_zero_iff.mp (by omega)
    subst er0
    rw [List.append_nil] at hp
    exact ⟨.ref lo, rfl, q lo H' os nloH sH eo hp⟩

theorem p6 : (0 : Int) < 6 := by decide
theorem p8 : (0 : Int) < 8 := by decide
theorem p90 : (0 : Int) < 90 := by decide
theorem d8 {n : Int} : CDiv n 8 := ⟨by decide, by decide⟩
theorem d7 {n : Int} : CDiv n 7 := ⟨by decide, by decide⟩
theorem pst : (0 : Int) < 2147483646 := by decide
theorem in2 (c : Int) (x y : V) : ∃ v, atI [x, y] (c % 8 / 7) = some v ∧ (v = x ∨ v = y) := by
  have h : c % 8 / 7 = 0 ∨ c % 8 / 7 = 1 := by omega
  rcases h with h | h <;> rw [h]
  · exact ⟨x, rfl, .inl rfl⟩
  · exact ⟨y, rfl, .inr rfl⟩
/-- which of two numbers by a cell: from 1 to 90 -/
theorem many_in (c : Int) : ∃ m : Nat, atI [V.int (1 + c % 6), V.int (1 + c / 8 % 90)] (c % 8 / 7) = some (.int m) ∧ 1 ≤ m ∧ m ≤ 90 := by
  obtain ⟨v, e, hv⟩ := in2 c (.int (1 + c % 6)) (.int (1 + c / 8 % 90))
  have b1 := Int.emod_nonneg c (show (6 : Int) ≠ 0 by decide)
  have b2 := Int.emod_lt_of_pos c p6
  have b3 := Int.emod_nonneg (c / 8) (show (90 : Int) ≠ 0 by decide)
  have b4 := Int.emod_lt_of_pos (c / 8) p90
  rcases hv with h | h
  · refine ⟨(1 + c % 6).toNat, ?_, by omega, by omega⟩
    have : (((1 + c % 6).toNat : Nat) : Int) = 1 + c % 6 := by omega
    rw [this, e, h]
  · refine ⟨(1 + c / 8 % 90).toNat, ?_, by omega, by omega⟩
    have : (((1 + c / 8 % 90).toNat : Nat) : Int) = 1 + c / 8 % 90 := by omega
    rw [this, e, h]

/-! ### drawn trees -/
theorem ups_end {T : List Nat} : ∀ (s k : Nat), ups T (s + 1) k = up T (ups T s k)
  | 0, k => rfl
  | s + 1, k => by
    show ups T (s + 1) (up T k) = _
    rw [ups_end s (up T k)]
    rfl
structure Dr (m : Nat) (os T me : List Nat) : Prop where
  len : T.length = m
  met : me = 0 :: os.map (· + 1)
  clo : ∀ k ∈ me, up T k ∈ me
  ups0 : ∀ k ∈ me, ups T os.length k = 0
  bd : ∀ a ∈ T, a ≤ m
theorem dr_nil (m : Nat) : Dr m [] (List.replicate m 0) [0] where
  len := by simp
  met := rfl
  clo := fun k hk => by
    rw [List.mem_singleton.mp hk]
    exact List.mem_singleton.mpr rfl
  ups0 := fun k hk => by
    rw [List.mem_singleton.mp hk]
    rfl
  bd := fun a ha => by
    rw [(List.mem_replicate.mp ha).2]
    omega
theorem up_set {T : List Nat} {o v k : Nat} (h : k ≠ o + 1) : up (T.set o v) k = up T k := by
  unfold up
  by_cases z : k = 0
  · rw [if_pos z, if_pos z]
  · rw [if_neg z, if_neg z, List.getD_eq_getElem?_getD, List.getD_eq_getElem?_getD, List.getElem?_set_ne (by omega)]
theorem Dr.more {m : Nat} {os T me : List Nat} (h : Dr m os T me) {o v : Nat} (ho : o < m) (hn : o ∉ os) (hv : v ∈ me) (hos : ∀ x ∈ os, x < m) : Dr m (os ++ [o]) (T.set o v) (me ++ [o + 1]) := by
  have hmem : ∀ k ∈ me, k ≠ o + 1 := fun k hk z => by
    rw [h.met] at hk
    rcases List.mem_cons.mp hk with hk | hk
    · omega
    · obtain ⟨x, hx, e⟩ := List.mem_map.mp hk
      have : x = o := by omega
      exact hn (this ▸ hx)
  have hu : ∀ s, ∀ k ∈ me, ups (T.set o v) s k = ups T s k := by
    intro s
    induction s with
    | zero => intro k _; rfl
    | succ s ih =>
      intro k hk
      show ups (T.set o v) s (up (T.set o v) k) = ups T s (up T k)
      rw [up_set (hmem k hk)]
      exact ih _ (h.clo k hk)
  have hnew : up (T.set o v) (o + 1) = v := by
    unfold up
    rw [if_neg (by omega), Nat.add_sub_cancel, List.getD_eq_getElem?_getD, List.getElem?_set_self (by rw [h.len]; exact ho)]
    rfl
  refine ⟨by rw [List.length_set]; exact h.len, by rw [h.met, List.map_append]; rfl, fun k hk => ?_, fun k hk => ?_, fun a ha => ?_⟩
  · rcases List.mem_append.mp hk with hk | hk
    · rw [up_set (hmem k hk)]
      exact List.mem_append_left _ (h.clo k hk)
    · rw [List.mem_singleton.mp hk, hnew]
      exact List.mem_append_left _ hv
  · rw [List.length_append, List.length_singleton]
    rcases List.mem_append.mp hk with hk | hk
    · rw [hu _ k hk]
      exact ups_more (h.ups0 k hk) (by omega)
    · rw [List.mem_singleton.mp hk]
      show ups (T.set o v) os.length (up (T.set o v) (o + 1)) = 0
      rw [hnew, hu _ v hv]
      exact h.ups0 v hv
  · rcases List.mem_or_eq_of_mem_set ha with ha | ha
    · exact h.bd a ha
    · rw [ha]
      rw [h.met] at hv
      rcases List.mem_cons.mp hv with hv | hv
      · omega
      · obtain ⟨x, hx, e⟩ := List.mem_map.mp hv
        have := hos x hx
        omega
theorem Dr.rooted {m : Nat} {os T me : List Nat} (h : Dr m os T me) (hall : ∀ k, k < m → k ∈ os) (hl : os.length = m) : Rooted T := by
  refine (rooted_iff fun a ha => by rw [h.len]; exact h.bd a ha).mpr fun k k1 k2 => ?_
  rw [h.len] at k2
  have hm : k ∈ me := by
    rw [h.met]
    exact List.mem_cons_of_mem _ (List.mem_map.mpr ⟨k - 1, hall _ (by omega), by omega⟩)
  exact ups_more (h.ups0 k hm) (by rw [hl, h.len]; omega)
/-- a knot below itself -/
theorem self_loop {T : List Nat} {o : Nat} (ho : o < T.length) (h : T[o]? = some (o + 1)) (hT : ∀ a ∈ T, a ≤ T.length) : ¬ Rooted T := fun r => by
  have := (rooted_iff hT).mp r (o + 1) (by omega) (by omega)
  have e : ∀ s, ups T s (o + 1) = o + 1 := by
    intro s
    induction s with
    | zero => rfl
    | succ s ih =>
      show ups T s (up T (o + 1)) = _
      have : up T (o + 1) = o + 1 := by
        unfold up
        rw [if_neg (by omega), Nat.add_sub_cancel, List.getD_eq_getElem?_getD, h]
        rfl
      rw [this, ih]
  rw [e] at this
  omega
def hangB (T : List Nat) : Bool := decide (T.length < (metA T).length)
theorem hangB_true {T : List Nat} : hangB T = true ↔ Rooted T := decide_eq_true_iff
theorem hangB_false {T : List Nat} : hangB T = false ↔ ¬ Rooted T := decide_eq_false_iff_not

/-! ### the law's own trees -/
def sp_l_drawn (K : PySem.W.Frag) : Sp := fun vs H Q _ => ∃ (s : Addr) (ns : List Int) (first : Int), vs = [.ref s, .int first] ∧ SqL K H s (ns.map V.int) ∧ 0 ≤ first ∧
  ∀ (l : Addr) (H' : Hp) (T : List Nat), H l = none → Same H H' → H' l = some (.tup (vN T)) → Rooted T → 1 ≤ T.length → T.length ≤ 90 → (∀ a ∈ T, a ≤ T.length) → Q (.ref l) H'
abbrev N_l_drawn : List Str := ["_law_script", "_law_first", "_law_cell", "_law_many", "_law_order_here", "_law_state", "_law_above", "_law_met", "_law_ship"]
def t_l_drawn (K : PySem.W.Frag) (a : Ad) : TS :=
  (tSeq (tAsg (tCall (sp_l_cell_at K) [] E0 (tCons (tVar 0) (tCons (tVar 1) tNil))) (gName 2))
    (tSeq (tAsg (tOp (rIxL K) (tLst (tCons (tOp rAddI (tC (.int 1)) (tOp rModI (tVar 2) (tC (.int 6)))) (tCons (tOp rAddI (tC (.int 1)) (tOp rModI (tOp rDivI (tVar 2) (tC (.int 8))) (tC (.int 90)))) tNil))) (tOp rDivI (tOp rModI (tVar 2) (tC (.int 8))) (tC (.int 7)))) (gName 3))
    (tSeq (tAsg (tCall (sp_l_order K) [] E0 (tCons (tVar 0) (tCons (tVar 3) (tCons (tVar 1) tNil)))) (gName 4))
    (tSeq (tAsg (tLst (tCons (tOp rAddI (tC (.int 1)) (tOp rModI (tCall (sp_l_cell_at K) [] E0 (tCons (tVar 0) (tCons (tOp rAddI (tVar 1) (tC (.int 1))) tNil))) (tC (.int 2147483646)))) tNil)) (gName 5))
    (tSeq (tAsg (tOp rRep (tLst (tCons (tC (.int 0)) tNil)) (tVar 3)) (gName 6))
    (tSeq (tAsg (tLst (tCons (tC (.int 0)) tNil)) (gName 7))
    (tSeq (tFor (iList K (tVar 4)) (gName 8)
    (tSeq (tAsg (tOp (rIxL K) (tVar 7) (tOp rModI (tCall (sp_l_mix K) [] E0 (tCons (tVar 5) (tCons (tVar 8) tNil))) (tCB (rLenSq K) (tCons (tVar 7) tNil)))) (gSub (tVar 6) (tVar 8) rSetL))
    (tDrop (tBM K "list" rAppend (tVar 7) (tCons (tOp rAddI (tVar 8) (tC (.int 1))) tNil)))))
    (tRet (tCB (rTupleOf K) (tCons (tVar 6) tNil))))))))))
theorem len_l_drawn {K : PySem.W.Frag} {vs : List V} {H : Hp} {Q : VK} {E : XK} (h : sp_l_drawn K vs H Q E) : vs.length = 2 := by
  obtain ⟨s, ns, first, rfl, _⟩ := h
  rfl
theorem perm_nat {os : List Int} {m : Nat} (hp : os.Perm (upTo 0 m)) : (∀ x ∈ os, 0 ≤ x ∧ x < m) ∧ os.length = m ∧ (os.map Int.toNat).Nodup ∧ ∀ k, k < m → k ∈ os.map Int.toNat := by
  have hb : ∀ x ∈ os, 0 ≤ x ∧ x < (m : Int) := fun x hx => by
    have := mem_upTo.mp (hp.mem_iff.mp hx)
    omega
  refine ⟨hb, by rw [hp.length_eq, upTo_len], ?_, fun k hk => ?_⟩
  · have nd : os.Nodup := hp.nodup_iff.mpr upTo_nodup
    have : ∀ l : List Int, (∀ x ∈ l, 0 ≤ x) → l.Nodup → (l.map Int.toNat).Nodup := by
      intro l
      induction l with
      | nil => intro _ _; exact List.nodup_nil
      | cons x r ih =>
        intro h nd
        rw [List.nodup_cons] at nd
        rw [List.map_cons, List.nodup_cons]
        refine ⟨fun z => ?_, ih (fun y hy => h y (List.mem_cons_of_mem _ hy)) nd.2⟩
        obtain ⟨y, hy, e⟩ := List.mem_map.mp z
        have h1 := h x List.mem_cons_self
        have h2 := h y (List.mem_cons_of_mem _ hy)
        have : y = x := by omega
        exact nd.1 (this ▸ hy)
    exact this os (fun x hx => (hb x hx).1) nd
  · have : ((k : Nat) : Int) ∈ os := hp.mem_iff.mpr (mem_upTo.mpr (by omega))
    exact List.mem_map.mpr ⟨_, this, by omega⟩
theorem pu_l_drawn {K : PySem.W.Frag} {a : Ad} {vs : List V} {H : Hp} {Q : VK} {E : XK} (h : sp_l_drawn K vs H Q E) : t_l_drawn K a { nx := fun _ H' => Q .non H', rt := Q } (start N_l_drawn vs) H := by
  obtain ⟨s, ns, first, rfl, hs, hf, q⟩ := h
  refine ⟨.ref s, rfl, .int first, rfl, s, ns, first, rfl, hs, hf, ?_⟩
  generalize cellAt ns first = c
  refine ⟨.int c, rfl, c, 6, rfl, rfl, p6, 1, _, rfl, rfl, .int c, rfl, c, 8, rfl, rfl, d8, _, 90, rfl, rfl, p90, 1, _, rfl, rfl, l1000 (by show 2 ≤ 1000; decide), fun l0 nl0 => ?_⟩
  obtain ⟨m, em, m1, m2⟩ := many_in c
  have s0 := same_new nl0 (o := .lst [V.int (1 + c % 6), V.int (1 + c / 8 % 90)])
  refine ⟨.int c, rfl, c, 8, rfl, rfl, p8, _, 7, rfl, rfl, d7, l0, _, _, _, rfl, rfl, sqL_of upd_same, em, ?_⟩
  -- the order
  refine ⟨.ref s, rfl, .int m, rfl, .int first, rfl, s, ns, m, first, rfl, s0.seq hs, by omega, hf, fun lo H1 os nlo s01 eo hp => ?_⟩
  have s1 := s0.trans s01
  clear s01 nlo
  obtain ⟨ob, ol, ond, oall⟩ := perm_nat hp
  -- the state
  refine ⟨.ref s, rfl, .int first, rfl, _, 1, rfl, rfl, s, ns, first + 1, rfl, s1.seq hs, by omega, _, 2147483646, rfl, rfl, pst, 1, _, rfl, rfl, l1000 (by show 1 ≤ 1000; decide), fun ls nls => ?_⟩
  have b1 := Int.emod_nonneg (cellAt ns (first + 1)) (show (2147483646 : Int) ≠ 0 by decide)
  have b2 := Int.emod_lt_of_pos (cellAt ns (first + 1)) pst
  have nlsH := s1.free nls
  have s2 := s1.store nlsH (o := .lst [.int (1 + cellAt ns (first + 1) % 2147483646)])
  have es : (upd H1 ls (.lst [.int (1 + cellAt ns (first + 1) % 2147483646)])) ls = some (.lst [.int (1 + cellAt ns (first + 1) % 2147483646)]) := upd_same
  have eo2 : (upd H1 ls (.lst [.int (1 + cellAt ns (first + 1) % 2147483646)])) lo = some (.lst (os.map V.int)) := same_new nls _ _ eo
  have nos : lo ≠ ls := ne_of_none eo nls
  generalize (upd H1 ls (.lst [.int (1 + cellAt ns (first + 1) % 2147483646)])) = H2 at s2 es eo2
  -- above, met
  refine ⟨by decide, fun l3 nl3 => ⟨.int m, rfl, l3, _, _, rfl, rfl, upd_same, by omega, by omega, ?_, fun la nla => ?_⟩⟩
  · refine l1000 ?_
    show 1 * _ ≤ _
    omega
  have em2 : ((m : Nat) : Int).toNat = m := by omega
  rw [em2, vN_rep]
  have t3 := same_new nl3 (o := .lst [.int 0])
  have t4 := t3.trans (same_new nla (o := .lst (vN (List.replicate m 0))))
  have s4 := s2.trans t4
  have es4 := t4 _ _ es
  have eo4 := t4 _ _ eo2
  have nlaH := (s2.trans t3).free nla
  have nsa : ls ≠ la := ne_of_none (t3 _ _ es) nla
  have noa : lo ≠ la := ne_of_none (t3 _ _ eo2) nla
  have ea : (upd (upd H2 l3 (.lst [.int 0])) la (.lst (vN (List.replicate m 0)))) la = some (.lst (vN (List.replicate m 0))) := upd_same
  generalize (upd (upd H2 l3 (.lst [.int 0])) la (.lst (vN (List.replicate m 0)))) = H4 at s4 es4 eo4 ea
  refine ⟨by decide, fun lm nlm => ?_⟩
  have s5 := same_new nlm (o := .lst [.int 0])
  have nlmH := s4.free nlm
  have nsm : ls ≠ lm := ne_of_none es4 nlm
  have nom : lo ≠ lm := ne_of_none eo4 nlm
  have nam : la ≠ lm := ne_of_none ea nlm
  have es5 := s5 _ _ es4
  have eo5 := s5 _ _ eo4
  have ea5 := s5 _ _ ea
  have em5 : (upd H4 lm (.lst [.int 0])) lm = some (.lst (vN [0])) := upd_same
  have s45 := s4.trans s5
  generalize (upd H4 lm (.lst [.int 0])) = H5 at s45 es5 eo5 ea5 em5
  refine ⟨.ref lo, rfl, lo, rfl, ⟨_, sqL_of eo5⟩, for_list (K := K) (a := lo) (fun i σ H' => (∃ y, σ = [some (.ref s), some (.int first), some (.int c), some (.int m), some (.ref lo), some (.ref ls), some (.ref la), some (.ref lm), y]) ∧ Same H H' ∧ H' lo = some (.lst (os.map V.int)) ∧ (∃ st : Int, H' ls = some (.lst [.int st]) ∧ 0 ≤ st ∧ st < 2147483647) ∧
    ∃ T me : List Nat, H' la = some (.lst (vN T)) ∧ H' lm = some (.lst (vN me)) ∧ Dr m ((os.map Int.toNat).take i) T me) ⟨⟨none, rfl⟩, s45, eo5, ⟨_, es5, by omega, by omega⟩, _, _, ea5, em5, dr_nil m⟩ (fun i σ H' _ p => sqL_of p.2.2.1) ?_ ?_⟩
  · rintro i x σ H6 hx ⟨⟨y, rfl⟩, s6, eo6, ⟨st, es6, h0, h1⟩, T, me, ea6, em6, dr⟩
    obtain ⟨w, hw, rfl⟩ := item_of hx
    have bw := ob w (List.mem_of_getElem? hw)
    have hwN : (os.map Int.toNat)[i]? = some w.toNat := by rw [List.getElem?_map, hw]; rfl
    have hi := (List.getElem?_eq_some_iff.mp hw).1
    have htl : ((os.map Int.toNat).take i).length = i := by rw [List.length_take, List.length_map]; omega
    have hml : me.length = i + 1 := by rw [dr.met, List.length_cons, List.length_map, htl]
    refine ⟨.ref lm, rfl, .ref ls, rfl, .int w, rfl, ls, st, w, rfl, es6, h0, h1, fun st' r g0 g1 r0 r1 => ?_⟩
    have em7 : (upd H6 ls (.lst [.int st'])) lm = some (.lst (vN me)) := by rw [upd_ne nsm.symm]; exact em6
    have ea7 : (upd H6 ls (.lst [.int st'])) la = some (.lst (vN T)) := by rw [upd_ne nsa.symm]; exact ea6
    have eo7 : (upd H6 ls (.lst [.int st'])) lo = some (.lst (os.map V.int)) := by rw [upd_ne nos]; exact eo6
    have es7 : (upd H6 ls (.lst [.int st'])) ls = some (.lst [.int st']) := upd_same
    have s7 := s6.store nlsH (o := .lst [.int st'])
    generalize (upd H6 ls (.lst [.int st'])) = H7 at s7 em7 ea7 eo7 es7
    have hpos : (0 : Int) < ((vN me).length : Nat) := by rw [vN_len, hml]; omega
    refine ⟨.ref lm, rfl, lm, _, rfl, .inl (sqL_of em7), r, _, rfl, rfl, hpos, ?_⟩
    have c1 := Int.emod_nonneg r (show (((vN me).length : Nat) : Int) ≠ 0 by omega)
    have c2 := Int.emod_lt_of_pos r hpos
    rw [vN_len] at c1 c2
    have hv : (r % ((me.length : Nat) : Int)).toNat < me.length := by omega
    have ev := List.getElem?_eq_getElem hv
    refine ⟨lm, _, _, _, rfl, rfl, sqL_of em7, at_of (j := (r % ((me.length : Nat) : Int)).toNat) (by rw [vN_len]; omega) (vN_at ev), ?_⟩
    refine ⟨.ref la, rfl, .int w, rfl, la, _, w, w.toNat, rfl, rfl, ea7, ?_, ?_⟩
    · unfold ixN
      rw [if_pos (by omega), vN_len, dr.len, if_pos (by omega)]
    rw [vN_set]
    have em8 : (upd H7 la (.lst (vN (T.set w.toNat me[(r % ((me.length : Nat) : Int)).toNat])))) lm = some (.lst (vN me)) := by rw [upd_ne nam.symm]; exact em7
    refine ⟨.ref lm, rfl, .inl ⟨rfl, _, sqL_of em8⟩, .int w, rfl, w, 1, rfl, rfl, lm, _, _, rfl, rfl, em8, by rw [vN_len, hml]; exact small1000 (by omega), ⟨⟨_, rfl⟩, (s7.store nlaH).store nlmH, ?_, ⟨st', ?_, g0, g1⟩, T.set w.toNat me[(r % ((me.length : Nat) : Int)).toNat], me ++ [w.toNat + 1], ?_, ?_, ?_⟩⟩
    · rw [upd_ne nom, upd_ne noa]
      exact eo7
    · rw [upd_ne nsm, upd_ne nsa]
      exact es7
    · rw [upd_ne nam, upd_same]
    · rw [upd_same, vN_app]
      have : w + 1 = ((w.toNat + 1 : Nat) : Int) := by omega
      show some (HO.lst (vN me ++ [V.int (w + 1)])) = _
      rw [this]
      rfl
    · rw [take_more hwN]
      refine dr.more (by omega) ?_ (List.getElem_mem hv) fun x hx => ?_
      · have nd := ond
        rw [← List.take_append_drop (i + 1) (os.map Int.toNat), take_more hwN, List.nodup_append] at nd
        have nd2 := nd.1
        rw [List.nodup_append] at nd2
        exact fun z => nd2.2.2 _ z _ (List.mem_singleton.mpr rfl) rfl
      · obtain ⟨y, hy, rfl⟩ := List.mem_map.mp (List.mem_of_mem_take hx)
        have := ob y hy
        omega
  · rintro σ H6 ⟨⟨y, rfl⟩, s6, eo6, _, T, me, ea6, em6, dr⟩
    rw [List.length_map, List.take_of_length_le (by rw [List.length_map]; omega)] at dr
    refine ⟨.ref la, rfl, la, _, rfl, .inl ⟨sqL_of ea6, fun t nt => q t _ T (s6.free nt) (s6.trans (same_new nt)) upd_same ?_ ?_ ?_ ?_⟩⟩
    · exact dr.rooted oall (by rw [List.length_map]; exact ol)
    · rw [dr.len]; exact m1
    · rw [dr.len]; exact m2
    · rw [dr.len]; exact dr.bd
def sp_l_hangs (K : PySem.W.Frag) : Sp := fun vs H Q _ => ∃ (t : Addr) (T : List Nat), vs = [.ref t] ∧ SqT K H t (vN T) ∧ T.length ≤ 400 ∧ (∀ a ∈ T, a ≤ T.length) ∧ Q (.bl (hangB T)) H
abbrev N_l_hangs : List Str := ["_law_tree", "_law_knot", "_law_at", "_law_steps"]
def t_l_hangs (K : PySem.W.Frag) (a : Ad) : TS :=
  (tSeq (tFor (iRng2 (tCons (tC (.int 1)) (tCons (tOp rAddI (tCB (rLenSq K) (tCons (tVar 0) tNil)) (tC (.int 1))) tNil))) (gName 1)
    (tSeq (tAsg (tVar 1) (gName 2))
    (tSeq (tAsg (tC (.int 0)) (gName 3))
    (tSeq (tWhile (tAnd (tTest (tOp rNe (tVar 2) (tC (.int 0)))) (tTest (tOp rLeI (tVar 3) (tCB (rLenSq K) (tCons (tVar 0) tNil))))) (tSeq (tAsg (tOp (rIxT K) (tVar 0) (tOp rSubI (tVar 2) (tC (.int 1)))) (gName 2))
    (tAsg (tOp rAddI (tVar 3) (tC (.int 1))) (gName 3))))
    (tIfS (tTest (tOp rNe (tVar 2) (tC (.int 0)))) (tRet (tC (.bl false))) tNext)))))
    (tRet (tC (.bl true))))
theorem len_l_hangs {K : PySem.W.Frag} {vs : List V} {H : Hp} {Q : VK} {E : XK} (h : sp_l_hangs K vs H Q E) : vs.length = 1 := by
  obtain ⟨t, T, rfl, _⟩ := h
  rfl
theorem pu_l_hangs {K : PySem.W.Frag} {a : Ad} {vs : List V} {H : Hp} {Q : VK} {E : XK} (h : sp_l_hangs K vs H Q E) : t_l_hangs K a { nx := fun _ H' => Q .non H', rt := Q } (start N_l_hangs vs) H := by
  obtain ⟨t, T, rfl, ht, hl, hT, q⟩ := h
  refine ⟨.ref t, rfl, t, _, rfl, .inr ht, _, 1, rfl, rfl, 1, _, rfl, ⟨by decide, by decide, by rw [vN_len]; omega, by rw [vN_len]; omega⟩, ?_⟩
  have en : ((((vN T).length : Nat) : Int) + 1 - 1).toNat = T.length := by rw [vN_len]; omega
  rw [en]
  refine for_range (fun i σ H' => (∃ y1 y2 y3, σ = [some (.ref t), y1, y2, y3]) ∧ H' = H ∧ ∀ k, 1 ≤ k → k ≤ i → ups T (T.length + 1) k = 0) ⟨⟨none, none, none, rfl⟩, rfl, fun k h1 h2 => by omega⟩ ?_ ?_
  · rintro i σ H' hi ⟨⟨y1, y2, y3, rfl⟩, rfl, hk⟩
    refine ⟨.int (1 + (i : Int)), rfl, ?_⟩
    change (tSeq (tWhile _ _) _) _ _ _
    refine while_up (T.length + 2) (fun s σ H'' => s ≤ T.length + 1 ∧ H'' = H' ∧ ups T s (i + 1) ≤ T.length ∧ σ = [some (.ref t), some (.int (1 + (i : Int))), some (.int (ups T s (i + 1) : Nat)), some (.int (s : Int))]) ⟨0, by omega, rfl, (by show i + 1 ≤ _; omega), ?_⟩ ?_
    · have : (1 : Int) + (i : Int) = ((ups T 0 (i + 1) : Nat) : Int) := by
        show (1 : Int) + (i : Int) = ((i + 1 : Nat) : Int)
        omega
      show [some (V.ref t), some (V.int (1 + (i : Int))), some (V.int (1 + (i : Int))), some (V.int 0)] = _
      rw [this]
      rfl
    rintro s σ H'' ⟨hs, rfl, hle, rfl⟩
    have stop : (ups T s (i + 1) = 0 ∨ s = T.length + 1) → tSeq (tIfS (tTest (tOp rNe (tVar 2) (tC (.int 0)))) (tRet (tC (.bl false))) tNext) tNext { nx := fun σ H3 => (∃ y1 y2 y3, σ = [some (.ref t), y1, y2, y3]) ∧ H3 = H'' ∧ ∀ k, 1 ≤ k → k ≤ i + 1 → ups T (T.length + 1) k = 0, rt := Q } [some (.ref t), some (.int (1 + (i : Int))), some (.int (ups T s (i + 1) : Nat)), some (.int (s : Int))] H'' := by
      intro hst
      refine ⟨_, rfl, rfl, _, rfl, ?_⟩
      by_cases z : ups T s (i + 1) = 0
      · rw [z]
        refine iteF ⟨⟨_, _, _, rfl⟩, rfl, fun k h1 h2 => ?_⟩
        by_cases y : k = i + 1
        · rw [y]
          exact ups_more z hs
        · exact hk k h1 (by omega)
      · have hse : s = T.length + 1 := by
          rcases hst with h | h
          · exact absurd h z
          · exact h
        have hd : (!decide (V.int ((ups T s (i + 1) : Nat) : Int) = V.int 0)) = true := by
          rw [decide_eq_false fun y => z (by have := V.int.inj y; omega)]
          rfl
        show (if (!decide (V.int ((ups T s (i + 1) : Nat) : Int) = V.int 0)) = true then _ else _)
        rw [hd]
        refine iteT ?_
        have hf : hangB T = false := hangB_false.mpr fun r => z (by
          have := (rooted_iff hT).mp r (i + 1) (by omega) (by omega)
          rw [hse]
          exact this)
        rw [hf] at q
        exact q
    refine ⟨_, rfl, rfl, _, rfl, ?_⟩
    by_cases z : ups T s (i + 1) = 0
    · have hd : (!decide (V.int ((ups T s (i + 1) : Nat) : Int) = V.int 0)) = false := by
        rw [z, decide_eq_true (by rfl)]
        rfl
      show (if (!decide (V.int ((ups T s (i + 1) : Nat) : Int) = V.int 0)) = true then _ else _)
      rw [hd]
      exact iteF (iteF (stop (.inl z)))
    have hd : (!decide (V.int ((ups T s (i + 1) : Nat) : Int) = V.int 0)) = true := by
      rw [decide_eq_false fun y => z (by have := V.int.inj y; omega)]
      rfl
    show (if (!decide (V.int ((ups T s (i + 1) : Nat) : Int) = V.int 0)) = true then _ else _)
    rw [hd]
    refine iteT ⟨_, rfl, .ref t, rfl, t, _, rfl, .inr ht, _, _, rfl, rfl, _, rfl, ?_⟩
    rw [vN_len]
    by_cases hlt : (s : Int) ≤ (T.length : Nat)
    · rw [decide_eq_true hlt]
      have ei : T[ups T s (i + 1) - 1]? = some (T[ups T s (i + 1) - 1]'(by omega)) := List.getElem?_eq_getElem (by omega)
      have eu : ups T (s + 1) (i + 1) = T[ups T s (i + 1) - 1]'(by omega) := by
        rw [ups_end]
        show (if ups T s (i + 1) = 0 then 0 else T.getD (ups T s (i + 1) - 1) 0) = _
        rw [if_neg z, List.getD_eq_getElem?_getD, ei]
        rfl
      refine iteT ⟨_, while_nx (b := s) (by omega), ?_⟩
      refine ⟨.ref t, rfl, _, rfl, _, 1, rfl, rfl, t, _, _, _, rfl, rfl, ht, at_of (j := ups T s (i + 1) - 1) (by omega) (vN_at ei), ?_⟩
      refine ⟨_, rfl, _, 1, rfl, rfl, by omega, rfl, ?_, ?_⟩
      · rw [eu]
        exact hT _ (List.getElem_mem _)
      · have e2 : (s : Int) + 1 = ((s + 1 : Nat) : Int) := by omega
        rw [eu]
        show [some (V.ref t), some (V.int (1 + (i : Int))), _, some (V.int ((s : Int) + 1))] = _
        rw [e2]
    · rw [decide_eq_false hlt]
      exact iteF (stop (.inr (by omega)))
  · rintro σ H' ⟨⟨y1, y2, y3, rfl⟩, rfl, hk⟩
    have hr : hangB T = true := hangB_true.mpr ((rooted_iff hT).mpr hk)
    rw [hr] at q
    exact q

/-! ### by what a thing is refused -/
structure RefT (K : PySem.W.Frag) (C : Addr) (a : Ad) (q : Bool) : Prop where
  ex : PySem.W.exmOne K (.ref C) (.ref a.e_BerthError) = some true
  c : ExcC K C
  k0 : PySem.W.kitOne K (.ref C) (.ref a.e_NoCount) = some false
  k1 : PySem.W.kitOne K (.ref C) (.ref a.e_NoOrder) = some false
  k2 : PySem.W.kitOne K (.ref C) (.ref a.e_NoQuay) = some false
  k3 : PySem.W.kitOne K (.ref C) (.ref a.e_TooMany) = some false
  k4 : PySem.W.kitOne K (.ref C) (.ref a.e_NoTree) = some q
  k5 : PySem.W.kitOne K (.ref C) (.ref a.e_NoWishes) = some (!q)
def cT (a : Ad) (q : Bool) : Addr := if q then a.e_NoTree else a.e_NoWishes
def nmT (q : Bool) : Str := if q then Str.ofString "tree" else Str.ofString "wishes"
def S_word (K : PySem.W.Frag) (a : Ad) : Addr → Sp → Prop := fun f sp => (f = a.f_tree_of ∧ sp = sp_tree_of K a) ∨ (f = a.f_wishes_of ∧ sp = sp_wishes_of K a)
theorem A_word {P : Program} {w : World} {K : PySem.W.Frag} {mg : Str → Option Value} {base : Heap} {CX : CXT} {k1 k2 kk : Nat} {x1 x2 : Str} {ps1 ps2 : List Str} {a : Ad} (g1 : Cb P w K mg base CX k1 x1 a.f_tree_of ps1 (sp_tree_of K a))
    (g2 : Cb P w K mg base CX k2 x2 a.f_wishes_of ps2 (sp_wishes_of K a)) (h1 : k1 ≤ kk) (h2 : k2 ≤ kk) (f : Addr) (sp : Sp) (h : S_word K a f sp) : Hd P w K mg base CX kk f sp := by
  rcases h with ⟨rfl, rfl⟩ | ⟨rfl, rfl⟩
  · exact hd_of g1 h1
  · exact hd_of g2 h2
def sp_l_word (K : PySem.W.Frag) (a : Ad) : Sp := fun vs H Q _ => ∃ (f : Addr) (x : V) (sp : Sp) (q : Bool), vs = [.ref f, x] ∧ S_word K a f sp ∧ (∀ (Q' : VK) (E' : XK), (∀ H', Same H H' → E' (.ref (cT a q)) none H') → sp [x] H Q' E') ∧ ∀ H' : Hp, Same H H' → Q (.str (nmT q)) H'
abbrev N_l_word : List Str := ["_law_act", "_law_thing", "_law_caught", "e", "_law_kinds"]
def t_l_word (K : PySem.W.Frag) (a : Ad) : TS :=
  (tSeq (tAsg (tC .non) (gName 2))
    (tSeq (tTryKeep K a.e_BerthError 3 2 fun W => (tDrop (tCallD 0 (S_word K a) (WE W) (tCons (tVar 1) tNil))))
    (tSeq (tAsg (tLst (tCons (tCB (rIsiE K) (tCons (tVar 2) (tCons (tC (.ref a.e_NoCount)) tNil))) (tCons (tCB (rIsiE K) (tCons (tVar 2) (tCons (tC (.ref a.e_NoOrder)) tNil))) (tCons (tCB (rIsiE K) (tCons (tVar 2) (tCons (tC (.ref a.e_NoQuay)) tNil))) tNil)))) (gName 4))
    (tSeq (tIfS (tOr (tTest (tOp (rIn K false) (tC (.bl true)) (tVar 4))) (tOr (tB (tCB (rIsiE K) (tCons (tVar 2) (tCons (tC (.ref a.e_TooMany)) tNil)))) (tB (tIsN (tVar 2))))) (tRet (tC (.str (Str.ofString "other")))) tNext)
    (tRet (tOp rAddStr (tOp (rIxL K) (tLst (tCons (tC (.str (Str.ofString ""))) (tCons (tC (.str (Str.ofString "tree"))) tNil))) (tCB rInt1 (tCons (tCB (rIsiE K) (tCons (tVar 2) (tCons (tC (.ref a.e_NoTree)) tNil))) tNil))) (tOp (rIxL K) (tLst (tCons (tC (.str (Str.ofString ""))) (tCons (tC (.str (Str.ofString "wishes"))) tNil))) (tCB rInt1 (tCons (tCB (rIsiE K) (tCons (tVar 2) (tCons (tC (.ref a.e_NoWishes)) tNil))) tNil)))))))))
theorem len_l_word {K : PySem.W.Frag} {a : Ad} {vs : List V} {H : Hp} {Q : VK} {E : XK} (h : sp_l_word K a vs H Q E) : vs.length = 2 := by
  obtain ⟨f, x, sp, q, rfl, _⟩ := h
  rfl
theorem pu_l_word {K : PySem.W.Frag} {a : Ad} (F1 : RefT K a.e_NoTree a true) (F0 : RefT K a.e_NoWishes a false) {vs : List V} {H : Hp} {Q : VK} {E : XK} (h : sp_l_word K a vs H Q E) : t_l_word K a { nx := fun _ H' => Q .non H', rt := Q } (start N_l_word vs) H := by
  obtain ⟨f, th, sp, q, rfl, hS, hsp, hq⟩ := h
  have F : RefT K (cT a q) a q := by cases q <;> assumption
  refine ⟨f, sp, rfl, hS, th, rfl, hsp _ _ fun H1 s1 => ⟨F.ex, fun x nx => ?_⟩⟩
  have s2 : Same H (upd H1 x (ExK (.ref (cT a q)) none x)) := s1.trans (same_new nx)
  have e1 : (upd H1 x (ExK (.ref (cT a q)) none x)) x = some (ExK (.ref (cT a q)) none x) := upd_same
  generalize (upd H1 x (ExK (.ref (cT a q)) none x)) = H2 at s2 e1
  refine ⟨.ref x, rfl, .ref x, _, _, _, false, rfl, .own _, .exc e1 F.c, F.k0, .ref x, rfl, .ref x, _, _, _, false, rfl, .own _, .exc e1 F.c, F.k1, .ref x, rfl, .ref x, _, _, _, false, rfl, .own _, .exc e1 F.c, F.k2, l1000 (by show 3 ≤ 1000; decide), fun kl nkl => ?_⟩
  have s3 := s2.store (s2.free nkl) (o := .lst [.bl false, .bl false, .bl false])
  have e3 := same_new nkl (o := .lst [.bl false, .bl false, .bl false]) _ _ e1
  refine ⟨.ref kl, rfl, kl, _, rfl, .inl (sqL_of upd_same), rfl, rfl, _, rfl, ?_⟩
  have ei : inV (V.bl true) [.bl false, .bl false, .bl false] = false := rfl
  rw [if_neg Bool.false_ne_true, ei]
  refine iteF ⟨.ref x, rfl, .ref x, _, _, _, false, rfl, .own _, .exc e3 F.c, F.k3, false, rfl, iteF ⟨.ref x, rfl, false, rfl, iteF ?_⟩⟩
  refine ⟨l1000 (by show 2 ≤ 1000; decide), fun p0 np0 => ?_⟩
  have s4 := s3.store (s3.free np0) (o := .lst [.str (Str.ofString ""), .str (Str.ofString "tree")])
  have e4 := same_new np0 (o := .lst [.str (Str.ofString ""), .str (Str.ofString "tree")]) _ _ e3
  refine ⟨.ref x, rfl, .ref x, _, _, _, q, rfl, .own _, .exc e4 F.c, F.k4, .inr ⟨q, rfl, p0, _, _, .str (if q then Str.ofString "tree" else Str.ofString ""), rfl, rfl, sqL_of upd_same, by cases q <;> rfl, ?_⟩⟩
  refine ⟨l1000 (by show 2 ≤ 1000; decide), fun p1 np1 => ?_⟩
  have s5 := s4.store (s4.free np1) (o := .lst [.str (Str.ofString ""), .str (Str.ofString "wishes")])
  have e5 := same_new np1 (o := .lst [.str (Str.ofString ""), .str (Str.ofString "wishes")]) _ _ e4
  refine ⟨.ref x, rfl, .ref x, _, _, _, !q, rfl, .own _, .exc e5 F.c, F.k5, .inr ⟨!q, rfl, p1, _, _, .str (if q then Str.ofString "" else Str.ofString "wishes"), rfl, rfl, sqL_of upd_same, by cases q <;> rfl, ?_⟩⟩
  refine ⟨_, _, rfl, rfl, l1000 (by cases q <;> decide +kernel), ?_⟩
  have e : (if q then Str.ofString "tree" else Str.ofString "") ++ (if q then Str.ofString "" else Str.ofString "wishes") = nmT q := by cases q <;> decide +kernel
  show Q (.str ((if q then Str.ofString "tree" else Str.ofString "") ++ (if q then Str.ofString "" else Str.ofString "wishes"))) _
  rw [e]
  exact hq _ s5

/-! ### what the law makes and asks itself -/
theorem tyX_tup {K : PySem.W.Frag} {H : Hp} {a : Addr} {xs : List V} (h : SqT K H a xs) : TyX K H (.ref a) (.type "tuple") := by
  rcases h with (h | ⟨ob, h⟩) | ⟨o, its, n, hk, hc, _⟩
  · exact .base (.tup h)
  · exact .fTuple h
  · exact .kTuple hk hc
theorem kit_tt {K : PySem.W.Frag} : PySem.W.kitOne K (.type "tuple") (.type "tuple") = some true := kit_ty (by decide +kernel)

/-! ### the law: rows of trees -/
theorem cut_take1 (xs : List V) (k : Nat) : cutV xs none (some (k : Int)) = xs.take k := by
  unfold cutV
  rw [HT.sIx_nat, HT.sIx_none, List.drop_zero, Nat.sub_zero]
  by_cases h : k ≤ xs.length
  · rw [Nat.min_eq_left h]
  · rw [Nat.min_eq_right (by omega), List.take_of_length_le (Nat.le_refl _), List.take_of_length_le (by omega)]
theorem cut_last1 (xs : List V) : cutV xs none (some (-1)) = xs.dropLast := by
  unfold cutV
  have e : HT.sIx xs.length xs.length (some (-1)) = xs.length - 1 := by
    unfold HT.sIx
    simp
    omega
  rw [e, HT.sIx_none, List.drop_zero, Nat.sub_zero, List.dropLast_eq_take]
/-- t[:j] + .. + t[k:] -/
theorem put_mid {K : PySem.W.Frag} {i : Nat} {tp tm tq : TE} {σ : L2.St} {H : Hp} {Q : VK} {r : Addr} {xs ys : List V} {j k : Nat} (hi : σ[i]? = some (some (.ref r))) (hR : SqT K H r xs) (hl : xs.length ≤ 400) (hy : ys.length ≤ 100) (hp : ∀ H', Same H H' → ∀ Q' : VK, Q' (.int j) H' → tp σ H' Q')
    (hm : ∀ H', Same H H' → ∀ Q' : VK, (∀ (l : Addr) (H'' : Hp), Same H' H'' → SqT K H'' l ys → Q' (.ref l) H'') → tm σ H' Q') (hq : ∀ H', Same H H' → ∀ Q' : VK, Q' (.int k) H' → tq σ H' Q')
    (q : ∀ (l : Addr) (H' : Hp), Same H H' → SqT K H' l (xs.take j ++ ys ++ xs.drop k) → Q (.ref l) H') : (tOp (rCatA K) (tOp (rCatA K) (tSl (rSlA K) (tVar i) tNoPart (tPart tp)) tm) (tSl (rSlA K) (tVar i) (tPart tq) tNoPart)) σ H Q := by
  refine ⟨.ref r, hi, hp H (Same.refl H) _ ⟨j, rfl, slA_of hR fun l1 H1 s1 e1 => hm H1 s1 _ fun p H2 s2 ep => ?_⟩⟩
  rw [cut_take1] at e1
  have b1 : (xs.take j).length ≤ 400 := by rw [List.length_take]; omega
  have b2 : (xs.drop k).length ≤ 400 := by rw [List.length_drop]; omega
  refine catA_of (s2.seqT e1) ep (by omega) fun l2 H3 s3 e2 => ?_
  have s13 := (s1.trans s2).trans s3
  refine ⟨.ref r, hi, hq H3 s13 _ ⟨k, rfl, ?_⟩⟩
  show rSlA K (.ref r) (some (k : Int)) none H3 (fun y H2 => rCatA K (.ref l2) y H2 Q)
  refine slA_of (s13.seqT hR) fun l3 H4 s4 e3 => ?_
  rw [cut_drop] at e3
  exact catA_of (s4.seqT e2) e3 (by rw [List.length_append]; omega) fun l4 H5 s5 e4 => q l4 H5 ((s13.trans s4).trans s5) e4
theorem tup1_of {K : PySem.W.Frag} {tx : TE} {σ : L2.St} {H : Hp} {Q : VK} {x : V} (hx : ∀ Q' : VK, Q' x H → tx σ H Q') (q : ∀ (l : Addr) (H' : Hp), Same H H' → SqT K H' l [x] → Q (.ref l) H') : (tTup (tCons tx tNil)) σ H Q :=
  hx _ ⟨l1000 (by show 1 ≤ 1000; decide), fun p np => q p _ (same_new np) (sqT_of upd_same)⟩
theorem repA_of {K : PySem.W.Frag} {H : Hp} {Q : VK} {p : Addr} {x : V} {k : Nat} (hp : H p = some (.tup [x])) (hk : k ≤ 1000) (q : ∀ (l : Addr) (H' : Hp), Same H H' → SqT K H' l (List.replicate k x) → Q (.ref l) H') : rRepTA K (.ref p) (.int k) H Q := by
  have fl : ∀ n : Nat, (List.replicate n [x]).flatten = List.replicate n x := by
    intro n
    induction n with
    | zero => rfl
    | succ n ih => rw [List.replicate_succ, List.replicate_succ, List.flatten_cons, ih]; rfl
  refine ⟨p, k, [x], rfl, rfl, sqT_of hp, by simp, by omega, by omega, by show 1 ≤ 1000; decide, fun e => ?_, fun _ l nl => ?_⟩
  · have : k = 1 := by omega
    subst this
    exact q p H (Same.refl H) (sqT_of hp)
  · have ek : ((k : Nat) : Int).toNat = k := by omega
    rw [ek, fl]
    exact q l _ (same_new nl) (sqT_of upd_same)
theorem rep_tup {K : PySem.W.Frag} {x : V} {tk : TE} {k : Nat} {σ : L2.St} {H : Hp} {Q : VK} (hk : k ≤ 1000) (ht : ∀ H', Same H H' → ∀ Q' : VK, Q' (.int k) H' → tk σ H' Q') (q : ∀ (l : Addr) (H' : Hp), Same H H' → SqT K H' l (List.replicate k x) → Q (.ref l) H') :
    (tOp (rRepTA K) (tTup (tCons (tC x) tNil)) tk) σ H Q :=
  ⟨l1000 (by show 1 ≤ 1000; decide), fun p np => ht _ (same_new np) _ (repA_of upd_same hk fun l H' s e => q l H' ((same_new np).trans s) e)⟩
def intL (R : List Nat) : List Int := R.map fun (r : Nat) => (r : Int)
theorem intL_V (R : List Nat) : (intL R).map V.int = vN R := by
  unfold intL vN
  rw [List.map_map]
  rfl
theorem intL_len (R : List Nat) : (intL R).length = R.length := by simp [intL]
theorem natL_intL (R : List Nat) : natL (intL R) = R := by
  unfold natL intL
  rw [List.map_map]
  have : (Int.toNat ∘ fun (r : Nat) => (r : Int)) = id := by
    funext r
    show ((r : Int)).toNat = r
    omega
  rw [this, List.map_id]
theorem vN_inj {R S : List Nat} (h : vN R = vN S) : R = S := by
  have h2 : ∀ l m : List Nat, vN l = vN m → l = m := by
    intro l
    induction l with
    | nil => intro m h; cases m with | nil => rfl | cons _ _ => cases h
    | cons x l ih =>
      intro m h
      cases m with
      | nil => cases h
      | cons y m =>
        obtain ⟨h1, h2⟩ := List.cons.inj h
        have h1 := V.int.inj h1
        rw [ih m h2, show x = y by omega]
  exact h2 R S h
theorem dp_tupN {K : PySem.W.Frag} {H : Hp} {p : Addr} {T : List Nat} (h : SqT K H p (vN T)) : Dp K H (.ref p) (PySem.W.Datum.toD (PySem.W.Tup.mk (intL T))) := by
  refine .tup h ?_
  rw [← intL_V]
  exact dp_ints _
theorem set_mid {T : List Nat} {j v : Nat} (hj : j < T.length) : (vN T).take j ++ [V.int (v : Int)] ++ (vN T).drop (j + 1) = vN (T.set j v) := by
  rw [← vN_set, List.set_eq_take_append_cons_drop, if_pos (by rw [vN_len]; exact hj)]
  simp
theorem ty_vN {K : PySem.W.Frag} {H : Hp} {T : List Nat} : ∀ x ∈ vN T, ∃ Ty, TyB K H x Ty := fun x hx => by
  obtain ⟨k, _, rfl⟩ := List.mem_map.mp hx
  exact ⟨_, .int _⟩
/-- no tree, by its knots -/
theorem not_tree {K : PySem.W.Frag} {a : Ad} {b : Addr} {xs : List V} {H : Hp} {Q : VK} {E : XK} (hT : SqA K H b xs) (ty : ∀ x ∈ xs, ∃ Ty, TyB K H x Ty) (hg : goodT xs = false) (e : E (.ref a.e_NoTree) none H) : sp_wishes_of K a [.ref b] H Q E :=
  ⟨_, rfl, .inr ⟨b, xs, rfl, hT, ty, .inl ⟨hg, e⟩⟩⟩
theorem not_row {K : PySem.W.Frag} {a : Ad} {b : Addr} {xs : List V} {H : Hp} {Q : VK} {E : XK} (hT : SqA K H b xs) (ty : ∀ x ∈ xs, ∃ Ty, TyB K H x Ty) (hg : ¬ ∃ ws : List Int, xs = ws.map V.int ∧ FullW ws) (e : ∀ H', Same H H' → E (.ref a.e_NoWishes) none H') : sp_tree_of K a [.ref b] H Q E :=
  ⟨_, rfl, .inr ⟨b, xs, rfl, hT, ty, .inl ⟨hg, e⟩⟩⟩
theorem goodT_bad {xs : List V} {i : Nat} {x : V} (hi : xs[i]? = some x) (hb : inB 0 xs.length x = false) : goodT xs = false := by
  unfold goodT
  have : xs.all (inB 0 xs.length) = false := by
    cases z : xs.all (inB 0 xs.length) with
    | false => rfl
    | true =>
      rw [List.all_eq_true] at z
      rw [z x (List.mem_of_getElem? hi)] at hb
      cases hb
  rw [this, Bool.and_false]
theorem pick7 (c : Int) (x0 x1 x2 x3 x4 x5 x6 : V) : ∃ v, atI [x0, x1, x2, x3, x4, x5, x6] (c % 7) = some v ∧ (v = x0 ∨ v = x1 ∨ v = x2 ∨ v = x3 ∨ v = x4 ∨ v = x5 ∨ v = x6) := by
  have h : c % 7 = 0 ∨ c % 7 = 1 ∨ c % 7 = 2 ∨ c % 7 = 3 ∨ c % 7 = 4 ∨ c % 7 = 5 ∨ c % 7 = 6 := by omega
  rcases h with h | h | h | h | h | h | h <;> rw [h]
  · exact ⟨x0, rfl, .inl rfl⟩
  · exact ⟨x1, rfl, .inr (.inl rfl)⟩
  · exact ⟨x2, rfl, .inr (.inr (.inl rfl))⟩
  · exact ⟨x3, rfl, .inr (.inr (.inr (.inl rfl)))⟩
  · exact ⟨x4, rfl, .inr (.inr (.inr (.inr (.inl rfl))))⟩
  · exact ⟨x5, rfl, .inr (.inr (.inr (.inr (.inr (.inl rfl)))))⟩
  · exact ⟨x6, rfl, .inr (.inr (.inr (.inr (.inr (.inr rfl)))))⟩
theorem pick2b (c : Int) (x y : V) : ∃ v, atI [x, y] (c % 2) = some v ∧ (v = x ∨ v = y) := by
  have h : c % 2 = 0 ∨ c % 2 = 1 := by omega
  rcases h with h | h <;> rw [h]
  · exact ⟨x, rfl, .inl rfl⟩
  · exact ⟨y, rfl, .inr rfl⟩
theorem p7 : (0 : Int) < 7 := by decide
theorem p2 : (0 : Int) < 2 := by decide
theorem d11 {n : Int} : CDiv n 11 := ⟨by decide, by decide⟩
theorem d97 {n : Int} : CDiv n 97 := ⟨by decide, by decide⟩
theorem cp40 : CPow 10 40 := ⟨by decide, by decide, by decide⟩
theorem cntGe_mono {l : List Int} {b c : Int} (h : b ≤ c) : cntGe l c ≤ cntGe l b := by
  unfold cntGe
  induction l with
  | nil => exact Nat.le_refl _
  | cons x r ih =>
    rw [List.filter_cons, List.filter_cons]
    by_cases z : c ≤ x
    · have z2 : b ≤ x := by omega
      simp only [z, z2, decide_true, if_true, List.length_cons]
      omega
    · by_cases z2 : b ≤ x
      · simp only [z, z2, decide_true, decide_false, if_true, Bool.false_eq_true, if_false, List.length_cons]
        omega
      · simp only [z, z2, decide_false, Bool.false_eq_true, if_false]
        exact ih
theorem full_400 {ws : List Int} (f : FullW ws) : crowdedL 400 ws = none := by
  obtain ⟨f1, f2, f3, f4⟩ := f
  refine crowded_none.mpr fun b b1 b2 => ?_
  by_cases z : b ≤ (ws.length : Int)
  · have := crowded_none.mp f4 b b1 z
    omega
  · have h0 := cntGe_top f3
    have := cntGe_mono (l := ws) (show (ws.length : Int) + 1 ≤ b by omega)
    omega
def sp_law (K : PySem.W.Frag) : Sp := fun vs H Q _ => ∃ (s : Addr) (ns : List Int), vs = [.ref s] ∧ SqL K H s (ns.map V.int) ∧ ns.length ≤ 63 ∧ ∀ H', Q (.bl true) H'
abbrev N_law : List Str := ["_law_script", "_law_k", "_law_tree", "_law_row", "_law_cell", "_law_at", "_law_bent", "_law_odd", "_law_bad", "_law_thing"]
def t_law (K : PySem.W.Frag) (a : Ad) : TS :=
  (tSeq (tFor (iRng1 (tCons (tOp rAddI (tC (.int 1)) (tCB rMin2 (tCons (tC (.int 12)) (tCons (tCB (rLenSq K) (tCons (tVar 0) tNil)) tNil)))) tNil)) (gName 1)
    (tSeq (tAsg (tCall (sp_l_drawn K) [] E0 (tCons (tVar 0) (tCons (tVar 1) tNil))) (gName 2))
    (tSeq (tAsg (tCall (sp_wishes_of K a) [] E0 (tCons (tVar 2) tNil)) (gName 3))
    (tSeq (tIfS (tOr (tNot (tB (tCB (rIsi K) (tCons (tVar 3) (tCons (tC (.ty "tuple")) tNil))))) (tOr (tTest (tOp rNe (tCB (rLenSq K) (tCons (tVar 3) tNil)) (tCB (rLenSq K) (tCons (tVar 2) tNil)))) (tOr (tNot (tB (tCall (sp_is_good K a) [] E0 (tCons (tCB (rLenSq K) (tCons (tVar 3) tNil)) (tCons (tVar 3) tNil))))) (tTest (tOp (rNeT K) (tCall (sp_tree_of K a) [] E0 (tCons (tVar 3) tNil)) (tVar 2)))))) (tRet (tC (.bl false))) tNext)
    (tSeq (tAsg (tCall (sp_l_cell_at K) [] E0 (tCons (tVar 0) (tCons (tVar 1) tNil))) (gName 4))
    (tSeq (tAsg (tOp rModI (tVar 4) (tCB (rLenSq K) (tCons (tVar 2) tNil))) (gName 5))
    (tSeq (tAsg (tOp (rCatA K) (tOp (rCatA K) (tSl (rSlA K) (tVar 2) tNoPart (tPart (tVar 5))) (tTup (tCons (tOp rModI (tOp rDivI (tVar 4) (tC (.int 97))) (tOp rAddI (tCB (rLenSq K) (tCons (tVar 2) tNil)) (tC (.int 1)))) tNil))) (tSl (rSlA K) (tVar 2) (tPart (tOp rAddI (tVar 5) (tC (.int 1)))) tNoPart)) (gName 6))
    (tSeq (tIfS (tAnd (tNot (tB (tCall (sp_l_hangs K) [] E0 (tCons (tVar 6) tNil)))) (tTest (tOp rNe (tCall (sp_l_word K a) [] E0 (tCons (tC (.ref a.f_wishes_of)) (tCons (tVar 6) tNil))) (tC (.str (Str.ofString "tree")))))) (tRet (tC (.bl false))) tNext)
    (tSeq (tIfS (tAnd (tB (tCall (sp_l_hangs K) [] E0 (tCons (tVar 6) tNil))) (tTest (tOp (rNeT K) (tCall (sp_tree_of K a) [] E0 (tCons (tCall (sp_wishes_of K a) [] E0 (tCons (tVar 6) tNil)) tNil)) (tVar 6)))) (tRet (tC (.bl false))) tNext)
    (tSeq (tAsg (tOp (rIxL K) (tLst (tCons (tOp rAddI (tVar 5) (tC (.int 1))) (tCons (tUn (rU fun i => .int (-i)) (tC (.int 1))) (tCons (tOp rAddI (tCB (rLenSq K) (tCons (tVar 2) tNil)) (tC (.int 1))) (tCons (tC .non) (tCons (tC (.bl true)) (tCons (tC (.str (Str.ofString "0"))) (tCons (tOp rAddI (tOp rAddI (tCB (rLenSq K) (tCons (tVar 2) tNil)) (tC (.int 1))) (tOp rModI (tVar 4) (tOp rPowI (tC (.int 10)) (tC (.int 40))))) tNil)))))))) (tOp rModI (tOp rDivI (tVar 4) (tC (.int 11))) (tC (.int 7)))) (gName 7))
    (tSeq (tIfS (tTest (tOp rNe (tCall (sp_l_word K a) [] E0 (tCons (tC (.ref a.f_wishes_of)) (tCons (tOp (rCatA K) (tOp (rCatA K) (tSl (rSlA K) (tVar 2) tNoPart (tPart (tVar 5))) (tTup (tCons (tVar 7) tNil))) (tSl (rSlA K) (tVar 2) (tPart (tOp rAddI (tVar 5) (tC (.int 1)))) tNoPart)) tNil))) (tC (.str (Str.ofString "tree"))))) (tRet (tC (.bl false))) tNext)
    (tSeq (tAsg (tOp (rIxL K) (tLst (tCons (tOp (rCatA K) (tOp (rCatA K) (tSl (rSlA K) (tVar 3) tNoPart (tPart (tVar 5))) (tOp (rRepTA K) (tTup (tCons (tCB (rLenSq K) (tCons (tVar 3) tNil)) tNil)) (tOp rAddI (tC (.int 1)) (tCB rInt1 (tCons (tOp rGtI (tCB (rLenSq K) (tCons (tVar 3) tNil)) (tC (.int 1))) tNil))))) (tSl (rSlA K) (tVar 3) (tPart (tOp rAddI (tVar 5) (tC (.int 2)))) tNoPart)) (tCons (tOp (rCatA K) (tSl (rSlA K) (tVar 3) tNoPart (tPart (tUn (rU fun i => .int (-i)) (tC (.int 1))))) (tTup (tCons (tOp rAddI (tCB (rLenSq K) (tCons (tVar 3) tNil)) (tC (.int 1))) tNil))) tNil))) (tOp rModI (tVar 4) (tC (.int 2)))) (gName 8))
    (tIfS (tOr (tNot (tB (tCall (sp_is_good K a) [] E0 (tCons (tC (.int 400)) (tCons (tVar 8) tNil))))) (tOr (tTest (tOp rGtI (tCB (rMaxT K) (tCons (tVar 8) tNil)) (tCB (rLenSq K) (tCons (tVar 8) tNil)))) (tNot (tB (tCall (sp_is_good K a) [] E0 (tCons (tCB (rLenSq K) (tCons (tVar 8) tNil)) (tCons (tVar 8) tNil))))))) (tIfS (tTest (tOp rNe (tCall (sp_l_word K a) [] E0 (tCons (tC (.ref a.f_tree_of)) (tCons (tVar 8) tNil))) (tC (.str (Str.ofString "wishes"))))) (tRet (tC (.bl false))) tNext) tNext)))))))))))))
    (tSeq (tFor (iList K (tLst (tCons (tTup tNil) (tCons (tLst tNil) (tCons (tC .non) (tCons (tC (.int 5)) (tCons (tC (.str (Str.ofString "tree"))) (tCons tDNewK (tCons (tOp (rRepTA K) (tTup (tCons (tC (.int 0)) tNil)) (tC (.int 401))) (tCons (tLst (tCons (tLst (tCons (tC (.int 0)) tNil)) tNil)) tNil)))))))))) (gName 9)
    (tIfS (tOr (tTest (tOp rNe (tCall (sp_l_word K a) [] E0 (tCons (tC (.ref a.f_wishes_of)) (tCons (tVar 9) tNil))) (tC (.str (Str.ofString "tree"))))) (tTest (tOp rNe (tCall (sp_l_word K a) [] E0 (tCons (tC (.ref a.f_tree_of)) (tCons (tVar 9) tNil))) (tC (.str (Str.ofString "wishes")))))) (tRet (tC (.bl false))) tNext))
    (tRet (tC (.bl true)))))
theorem len_law {K : PySem.W.Frag} {vs : List V} {H : Hp} {Q : VK} {E : XK} (h : sp_law K vs H Q E) : vs.length = 1 := by
  obtain ⟨s, ns, rfl, _⟩ := h
  rfl
/-- what is refused as a tree, and as a row -/
def NoneT (K : PySem.W.Frag) (a : Ad) (x : V) (H0 : Hp) : Prop := ∀ H, Same H0 H → (∀ (Q' : VK) (E' : XK), (∀ H', Same H H' → E' (.ref a.e_NoTree) none H') → sp_wishes_of K a [x] H Q' E') ∧ ∀ (Q' : VK) (E' : XK), (∀ H', Same H H' → E' (.ref a.e_NoWishes) none H') → sp_tree_of K a [x] H Q' E'
theorem noneT_ty {K : PySem.W.Frag} {a : Ad} {x : V} {H0 : Hp} {T : String} (h : ∀ H, Same H0 H → TyB K H x T) (h1 : T ≠ "list") (h2 : T ≠ "tuple") : NoneT K a x H0 := fun H s =>
  ⟨fun Q' E' e => ⟨_, rfl, .inl ⟨T, h H s, h1, h2, e H (Same.refl H)⟩⟩, fun Q' E' e => ⟨_, rfl, .inl ⟨T, h H s, h1, h2, e H (Same.refl H)⟩⟩⟩
theorem noneT_sq {K : PySem.W.Frag} {a : Ad} {p : Addr} {xs : List V} {H0 : Hp} (h : SqA K H0 p xs) (ty : ∀ H, Same H0 H → ∀ x ∈ xs, ∃ Ty, TyB K H x Ty) (h1 : goodT xs = false) (h2 : ¬ ∃ ws : List Int, xs = ws.map V.int ∧ FullW ws) : NoneT K a (.ref p) H0 := fun H s =>
  ⟨fun Q' E' e => not_tree (s.seqA h) (ty H s) h1 (e H (Same.refl H)), fun Q' E' e => not_row (s.seqA h) (ty H s) h2 e⟩
theorem pu_law {K : PySem.W.Frag} {a : Ad} {vs : List V} {H : Hp} {Q : VK} {E : XK} (h : sp_law K vs H Q E) : t_law K a { nx := fun _ H' => Q .non H', rt := Q } (start N_law vs) H := by
  obtain ⟨s, ns, rfl, hs, hl, q⟩ := h
  refine ⟨.ref s, rfl, s, _, rfl, .inl hs, 12, _, rfl, 1, _, rfl, rfl, _, rfl, ?_⟩
  obtain ⟨N, hN, hN2⟩ : ∃ N : Nat, (1 + (if (((ns.map V.int).length : Nat) : Int) < 12 then (((ns.map V.int).length : Nat) : Int) else 12)).toNat = N ∧ N ≤ 13 := ⟨_, rfl, by split <;> omega⟩
  rw [hN]
  refine ⟨by split <;> omega, by split <;> omega, ?_⟩
  refine for_range (fun i σ H' => (∃ y1 y2 y3 y4 y5 y6 y7 y8, σ = [some (.ref s), y1, y2, y3, y4, y5, y6, y7, y8, none]) ∧ Same H H') ⟨⟨none, none, none, none, none, none, none, none, rfl⟩, Same.refl H⟩ ?_ ?_
  · rintro i σ H1 hi ⟨⟨y1, y2, y3, y4, y5, y6, y7, y8, rfl⟩, s1⟩
    refine ⟨.ref s, rfl, .int (0 + (i : Int)), rfl, s, ns, _, rfl, s1.seq hs, by omega, fun t H2 T nt s2 et hr t1 t2 t3 => ?_⟩
    have s12 := s1.trans s2
    refine ⟨.ref t, rfl, _, rfl, ChkT.ok (.inr (sqT_of et)) t1 (by omega) t3 (.inr ⟨hr, fun r H3 nr s3 er => ?_⟩)⟩
    have et3 := s3 _ _ et
    have s13 := s12.trans s3
    have hF := full_row hr t3
    have hFW := full_to hF (by rw [rowL_len]; exact t1) (by rw [rowL_len]; omega)
    have hRl := rowL_len T
    have hback := tree_row hr t3
    generalize rowL T = R at er hF hFW hRl hback
    have hFW : FullW (intL R) := hFW
    clear nt nr s2 s3 et s1 s12
    refine ⟨.ref r, rfl, .ref r, _, _, _, true, rfl, .ty _, tyX_tup (sqT_of er), kit_tt, true, rfl, iteF ?_⟩
    refine ⟨.ref r, rfl, r, _, rfl, .inr (sqT_of er), .ref t, rfl, t, _, rfl, .inr (sqT_of et3), rfl, _, rfl, ?_⟩
    rw [vN_len, vN_len, hRl, decide_eq_true rfl]
    have er' : SqA K H3 r ((intL R).map V.int) := by rw [intL_V]; exact .inr (sqT_of er)
    obtain ⟨g1, g2, g3, g4⟩ := id hFW
    rw [intL_len] at g1 g2 g3 g4
    refine iteF ⟨.ref r, rfl, r, _, rfl, .inr (sqT_of er), .ref r, rfl, _, _, rfl, ?_⟩
    rw [vN_len]
    refine ChkW.ok g1 g2 er' (by rw [intL_len]; exact g2) g3 fun H4 s4 => ⟨true, by rw [g4]; rfl, iteF ?_⟩
    have s14 := s13.trans s4
    refine ⟨.ref r, rfl, _, rfl, ChkF.ok (s4.seqA er') hFW fun tt H5 ntt s5 ett => ?_⟩
    rw [natL_intL, hback] at ett
    have s35 := s4.trans s5
    have et5 := s35 _ _ et3
    have er5 := s35 _ _ er
    have s15 := s14.trans s5
    refine ⟨.ref t, rfl, neT_of (dp_tupN (sqT_of ett)) (dp_tupN (sqT_of et5)) (by decide) ⟨_, rfl, ?_⟩⟩
    rw [decide_eq_false (fun z => z rfl)]
    clear s4 s5 s14 s35 s13 er et3 er' ett ntt
    -- cell, at
    refine iteF ⟨.ref s, rfl, .int (0 + (i : Int)), rfl, s, ns, _, rfl, s15.seq hs, by omega, ?_⟩
    generalize cellAt ns (0 + (i : Int)) = c
    have hn0 : (0 : Int) < ((vN T).length : Nat) := by rw [vN_len]; omega
    refine ⟨.int c, rfl, .ref t, rfl, t, _, rfl, .inr (sqT_of et5), c, _, rfl, rfl, hn0, ?_⟩
    have c1 := Int.emod_nonneg c (show (((vN T).length : Nat) : Int) ≠ 0 by omega)
    have c2 := Int.emod_lt_of_pos c hn0
    rw [vN_len] at c1 c2
    obtain ⟨j, ej, hj⟩ : ∃ j : Nat, c % ((T.length : Nat) : Int) = (j : Int) ∧ j < T.length := ⟨(c % ((T.length : Nat) : Int)).toNat, by omega, by omega⟩
    show tSeq _ _ _ [some (.ref s), some (.int (0 + (i : Int))), some (.ref t), some (.ref r), some (.int c), some (.int (c % ((vN T).length : Nat))), y6, y7, y8, none] _
    rw [vN_len, ej]
    -- bent
    have d1 := Int.emod_nonneg (c / 97) (show ((T.length : Nat) : Int) + 1 ≠ 0 by omega)
    have d2 := Int.emod_lt_of_pos (c / 97) (show (0 : Int) < ((T.length : Nat) : Int) + 1 by omega)
    obtain ⟨v, ev, hv⟩ : ∃ v : Nat, c / 97 % (((T.length : Nat) : Int) + 1) = (v : Int) ∧ v ≤ T.length := ⟨(c / 97 % (((T.length : Nat) : Int) + 1)).toNat, by omega, by omega⟩
    have hl4 : (vN T).length ≤ 400 := by rw [vN_len]; omega
    refine put_mid (i := 2) (r := t) (xs := vN T) (ys := [V.int (v : Int)]) (j := j) (k := j + 1) rfl (sqT_of et5) hl4 (by show 1 ≤ 100; decide) (fun H' _ Q' q => ⟨_, rfl, q⟩) (fun H' s' Q' q => tup1_of (fun Q'' q => ⟨.int c, rfl, c, 97, rfl, rfl, d97, .ref t, rfl, t, _, rfl, .inr (s'.seqT (sqT_of et5)), _, 1, rfl, rfl, _, _, rfl, rfl, (by rw [vN_len]; omega), by rw [vN_len]; show Q'' (.int (c / 97 % (((T.length : Nat) : Int) + 1))) H'; rw [ev]; exact q⟩) q)
      (fun H' _ Q' q => ⟨_, rfl, _, 1, rfl, rfl, q⟩) fun b H6 s6 eb => ?_
    rw [set_mid hj] at eb
    have et6 := s6 _ _ et5
    have er6 := s6 _ _ er5
    have s16 := s15.trans s6
    have hTb : (T.set j v).length = T.length := List.length_set
    have hbd : ∀ x ∈ T.set j v, x ≤ (T.set j v).length := fun x hx => by
      rw [hTb]
      rcases List.mem_or_eq_of_mem_set hx with hx | hx
      · exact t3 x hx
      · omega
    have eH : ∀ H', Same H6 H' → SqT K H' b (vN (T.set j v)) := fun H' s' => s'.seqT eb
    -- behind the two tests of the bent one
    suffices rest : ∀ H7, Same H6 H7 → _ from by
      by_cases hb : Rooted (T.set j v)
      · have hh := hangB_true.mpr hb
        refine ⟨.ref b, rfl, b, _, rfl, eb, by omega, hbd, true, by rw [hh], iteF (iteF ?_)⟩
        refine ⟨.ref b, rfl, b, _, rfl, eb, by omega, hbd, true, by rw [hh], iteT ?_⟩
        refine ⟨.ref b, rfl, _, rfl, ChkT.ok (.inr eb) (by omega) (by omega) hbd (.inr ⟨hb, fun w H7 nw s7 ew => ?_⟩)⟩
        have f1 := full_row hb hbd
        have f2 := full_to f1 (by rw [rowL_len]; omega) (by rw [rowL_len]; omega)
        refine ⟨_, rfl, ChkF.ok (ws := intL (rowL (T.set j v))) (by rw [intL_V]; exact .inr (sqT_of ew)) f2 fun w2 H8 nw2 s8 ew2 => ?_⟩
        rw [natL_intL, tree_row hb hbd] at ew2
        refine ⟨.ref b, rfl, neT_of (dp_tupN (sqT_of ew2)) (dp_tupN (eH _ (s7.trans s8))) (by decide) ⟨_, rfl, ?_⟩⟩
        rw [decide_eq_false (fun z => z rfl)]
        exact iteF (rest H8 (s7.trans s8))
      · have hh := hangB_false.mpr hb
        refine ⟨.ref b, rfl, b, _, rfl, eb, by omega, hbd, false, by rw [hh], iteT ?_⟩
        refine ⟨.ref b, rfl, _, _, _, true, rfl, .inr ⟨rfl, rfl⟩, fun Q' E' e => ⟨_, rfl, ChkT.ok (.inr eb) (by omega) (by omega) hbd (.inl ⟨hb, e⟩)⟩, fun H7 s7 => ⟨rfl, _, rfl, ?_⟩⟩
        show (if (!decide (V.str (nmT true) = V.str (Str.ofString "tree"))) = true then _ else _)
        rw [decide_eq_true (by rfl)]
        refine iteF ?_
        refine ⟨.ref b, rfl, b, _, rfl, eH _ s7, by omega, hbd, false, by rw [hh], iteF (iteF ?_)⟩
        exact rest H7 s7
    intro H7 s7
    have et7 := s7 _ _ et6
    have er7 := s7 _ _ er6
    have s17 := s16.trans s7
    clear eH hbd eb s6 s7 et6 er6 et5 er5 s15 s16 hTb
    -- odd
    have pn : ∀ k : Nat, (10 : Int) ^ k > 0 := fun k => by
      induction k with
      | zero => decide
      | succ k ih => rw [Int.pow_succ]; omega
    refine ⟨.int (j : Int), rfl, _, 1, rfl, rfl, 1, rfl, .ref t, rfl, t, _, rfl, .inr (sqT_of et7), _, 1, rfl, rfl, .ref t, rfl, t, _, rfl, .inr (sqT_of et7), _, 1, rfl, rfl, .int c, rfl, 10, 40, rfl, rfl, cp40, c, _, rfl, rfl, pn _, _, _, rfl, rfl, l1000 (by show 7 ≤ 1000; decide), fun lo nlo => ?_⟩
    have e10 := Int.emod_nonneg c (show (10 : Int) ^ (40 : Int).toNat ≠ 0 by have := pn (40 : Int).toNat; omega)
    obtain ⟨big, ebig⟩ : ∃ big, c % (10 : Int) ^ (40 : Int).toNat = big := ⟨_, rfl⟩
    rw [ebig] at e10
    have s8 := same_new nlo (o := .lst [.int ((j : Int) + 1), .int (-1), .int (((vN T).length : Nat) + 1), .non, .bl true, .str (Str.ofString "0"), .int (((vN T).length : Nat) + 1 + c % (10 : Int) ^ (40 : Int).toNat)])
    obtain ⟨od, eod, hod⟩ := pick7 (c / 11) (.int ((j : Int) + 1)) (.int (-1)) (.int (((vN T).length : Nat) + 1)) .non (.bl true) (.str (Str.ofString "0")) (.int (((vN T).length : Nat) + 1 + c % (10 : Int) ^ (40 : Int).toNat))
    rw [vN_len, ebig] at hod
    refine ⟨.int c, rfl, c, 11, rfl, rfl, d11, _, 7, rfl, rfl, p7, lo, _, _, _, rfl, rfl, sqL_of upd_same, eod, ?_⟩
    suffices rest : ∀ H8, Same H7 H8 → _ from rest _ s8
    clear s8 nlo
    intro H8 s8
    have et8 := s8 _ _ et7
    have er8 := s8 _ _ er7
    have s18 := s17.trans s8
    clear s8 s17 et7 er7
    refine put_mid (i := 2) (r := t) (xs := vN T) (ys := [od]) (j := j) (k := j + 1) rfl (sqT_of et8) hl4 (by show 1 ≤ 100; decide) (fun H' _ Q' q => ⟨_, rfl, q⟩) (fun H' s' Q' q => tup1_of (fun Q'' q => ⟨od, rfl, q⟩) q)
      (fun H' _ Q' q => ⟨_, rfl, _, 1, rfl, rfl, q⟩) fun b H9 s9 eb => ?_
    have et9 := s9 _ _ et8
    have er9 := s9 _ _ er8
    have s19 := s18.trans s9
    have hxl : ((vN T).take j ++ [od] ++ (vN T).drop (j + 1)).length = T.length := by
      rw [List.length_append, List.length_append, List.length_take, List.length_drop, vN_len, List.length_singleton]
      omega
    have hxj : ((vN T).take j ++ [od] ++ (vN T).drop (j + 1))[j]? = some od := by
      rw [List.append_assoc, List.getElem?_append_right (by rw [List.length_take]; omega), List.length_take, vN_len]
      have : j - min j T.length = 0 := by omega
      rw [this]
      rfl
    have tyo : ∃ Ty, TyB K H9 od Ty := by
      rcases hod with h | h | h | h | h | h | h <;> subst h
      · exact ⟨_, .int _⟩
      · exact ⟨_, .int _⟩
      · exact ⟨_, .int _⟩
      · exact ⟨_, .non⟩
      · exact ⟨_, .bl _⟩
      · exact ⟨_, .str _⟩
      · exact ⟨_, .int _⟩
    have tyx : ∀ x ∈ (vN T).take j ++ [od] ++ (vN T).drop (j + 1), ∃ Ty, TyB K H9 x Ty := fun x hx => by
      rcases List.mem_append.mp hx with hx | hx
      · rcases List.mem_append.mp hx with hx | hx
        · exact ty_vN x (List.mem_of_mem_take hx)
        · rw [List.mem_singleton.mp hx]
          exact tyo
      · exact ty_vN x (List.mem_of_mem_drop hx)
    have hno : ∀ (Q' : VK) (E' : XK), (∀ H', Same H9 H' → E' (.ref a.e_NoTree) none H') → sp_wishes_of K a [.ref b] H9 Q' E' := by
      intro Q' E' e
      by_cases h0 : od = .int ((j : Int) + 1)
      · subst h0
        have ex : (vN T).take j ++ [V.int ((j : Int) + 1)] ++ (vN T).drop (j + 1) = vN (T.set j (j + 1)) := by
          rw [← set_mid hj]
          rfl
        rw [ex] at eb
        have hlS : (T.set j (j + 1)).length = T.length := List.length_set
        have hbS : ∀ x ∈ T.set j (j + 1), x ≤ (T.set j (j + 1)).length := fun x hx => by
          rw [hlS]
          rcases List.mem_or_eq_of_mem_set hx with hx | hx
          · exact t3 x hx
          · omega
        exact ⟨_, rfl, ChkT.ok (.inr eb) (by omega) (by omega) hbS (.inl ⟨self_loop (o := j) (by omega) (List.getElem?_set_self hj) hbS, e⟩)⟩
      · refine not_tree (.inr eb) tyx (goodT_bad hxj ?_) (e H9 (Same.refl H9))
        rw [hxl]
        rcases hod with h | h | h | h | h | h | h
        · exact (h0 h).elim
        · subst h
          rfl
        · subst h
          simp [inB]
          omega
        · subst h
          rfl
        · subst h
          rfl
        · subst h
          rfl
        · subst h
          simp [inB]
          omega
    refine ⟨_, _, _, true, rfl, .inr ⟨rfl, rfl⟩, hno, fun H10 s10 => ⟨rfl, _, rfl, ?_⟩⟩
    show (if (!decide (V.str (nmT true) = V.str (Str.ofString "tree"))) = true then _ else _)
    rw [decide_eq_true (by rfl)]
    have er10 := s10 _ _ er9
    have s110 := s19.trans s10
    clear hno tyx tyo hxj hxl hod eod et8 er8 et9 er9 s9 s10 s18 s19 eb e10 ebig
    -- bad
    have hl4R : (vN R).length ≤ 400 := by rw [vN_len]; omega
    obtain ⟨kk, ekk, hk1, hk2⟩ : ∃ kk : Nat, (1 : Int) + (if decide ((1 : Int) < (((vN R).length : Nat) : Int)) = true then 1 else 0) = (kk : Int) ∧ 1 ≤ kk ∧ kk ≤ 2 ∧ True := by
      by_cases z : (1 : Int) < (((vN R).length : Nat) : Int)
      · exact ⟨2, by rw [decide_eq_true z]; rfl, by omega, by omega, trivial⟩
      · exact ⟨1, by rw [decide_eq_false z]; rfl, by omega, by omega, trivial⟩
    refine iteF (put_mid (i := 3) (r := r) (xs := vN R) (ys := List.replicate kk (V.int (((vN R).length : Nat) : Int))) (j := j) (k := j + 2) rfl (sqT_of er10) hl4R (by rw [List.length_replicate]; omega) (fun H' _ Q' q => ⟨_, rfl, q⟩) (fun H' s' Q' q => ?_) (fun H' _ Q' q => ⟨_, rfl, _, 2, rfl, rfl, q⟩) fun b1 H11 s11 eb1 => ?_)
    · have er' := s' _ _ er10
      refine ⟨.ref r, rfl, r, _, rfl, .inr (sqT_of er'), l1000 (by show 1 ≤ 1000; decide), fun p np => ?_⟩
      have er2 := same_new np (o := .tup [V.int (((vN R).length : Nat) : Int)]) _ _ er'
      refine ⟨.ref r, rfl, r, _, rfl, .inr (sqT_of er2), _, 1, rfl, rfl, .inr ⟨_, rfl, 1, _, rfl, rfl, ?_⟩⟩
      show rRepTA K (.ref p) (.int ((1 : Int) + (if decide ((1 : Int) < (((vN R).length : Nat) : Int)) = true then 1 else 0))) _ _
      rw [ekk]
      exact repA_of upd_same (by omega) fun l H'' s'' e => q l H'' ((same_new np).trans s'') e
    have er11 := s11 _ _ er10
    have s111 := s110.trans s11
    refine ⟨.ref r, rfl, 1, rfl, -1, rfl, ?_⟩
    show rSlA K (.ref r) none (some (-1)) H11 _
    refine slA_of (sqT_of er11) fun l2 H12 s12 e12 => ?_
    rw [cut_last1] at e12
    have er12 := s12 _ _ er11
    refine ⟨.ref r, rfl, r, _, rfl, .inr (sqT_of er12), _, 1, rfl, rfl, l1000 (by show 1 ≤ 1000; decide), fun pp np2 => ?_⟩
    have s13 := same_new np2 (o := .tup [V.int ((((vN R).length : Nat) : Int) + 1)])
    refine catA_of (s13.seqT e12) (sqT_of upd_same) (by rw [List.length_dropLast]; show _ + 1 ≤ 1000; omega) fun b2 H14 s14 eb2 => ?_
    have s1114 := (s12.trans s13).trans s14
    have eb1' := s1114.seqT eb1
    have s114 := s111.trans s1114
    clear s11 s12 s13 s14 s111 s110 e12 er11 er12 np2 er10
    refine ⟨l1000 (by show 2 ≤ 1000; decide), fun lp nlp => ?_⟩
    have s15 := same_new nlp (o := .lst [V.ref b1, V.ref b2])
    obtain ⟨bv, ebv, hbv⟩ := pick2b c (V.ref b1) (V.ref b2)
    refine ⟨.int c, rfl, c, 2, rfl, rfl, p2, lp, _, _, _, rfl, rfl, sqL_of upd_same, ebv, ?_⟩
    suffices rest : ∀ H8, Same H14 H8 → _ from rest _ s15
    clear s15 nlp
    intro H15 s15
    obtain ⟨bb, Bd, rfl, eB, B1, B2, B3⟩ : ∃ (bb : Addr) (Bd : List Nat), bv = .ref bb ∧ SqT K H15 bb (vN Bd) ∧ 1 ≤ Bd.length ∧ Bd.length ≤ 92 ∧ ∀ x ∈ Bd, 1 ≤ x ∧ x ≤ 91 := by
      rcases hbv with h | h
      · refine ⟨b1, R.take j ++ List.replicate kk R.length ++ R.drop (j + 2), h, ?_, ?_, ?_, fun x hx => ?_⟩
        · have := s15.seqT eb1'
          have e : (vN R).take j ++ List.replicate kk (V.int (((vN R).length : Nat) : Int)) ++ (vN R).drop (j + 2) = vN (R.take j ++ List.replicate kk R.length ++ R.drop (j + 2)) := by
            rw [vN_len]
            unfold vN
            simp
          rw [e] at this
          exact this
        · rw [List.length_append, List.length_append, List.length_replicate]
          omega
        · rw [List.length_append, List.length_append, List.length_replicate, List.length_take, List.length_drop]
          omega
        · rcases List.mem_append.mp hx with hx | hx
          · rcases List.mem_append.mp hx with hx | hx
            · have := hF.1 x (List.mem_of_mem_take hx)
              omega
            · rw [(List.mem_replicate.mp hx).2]
              omega
          · have := hF.1 x (List.mem_of_mem_drop hx)
            omega
      · refine ⟨b2, R.dropLast ++ [R.length + 1], h, ?_, ?_, ?_, fun x hx => ?_⟩
        · have := s15.seqT eb2
          have e : (vN R).dropLast ++ [V.int ((((vN R).length : Nat) : Int) + 1)] = vN (R.dropLast ++ [R.length + 1]) := by
            rw [vN_len]
            unfold vN
            simp
          rw [e] at this
          exact this
        · simp
        · rw [List.length_append, List.length_dropLast, List.length_singleton]
          omega
        · rcases List.mem_append.mp hx with hx | hx
          · have := hF.1 x (List.dropLast_subset _ hx)
            omega
          · rw [List.mem_singleton.mp hx]
            omega
    have s115 := s114.trans s15
    clear s15 s114 s1114 eb1 eb1' eb2 hbv ebv
    have hBi : SqA K H15 bb ((intL Bd).map V.int) := by rw [intL_V]; exact .inr eB
    have hBl : (intL Bd).length = Bd.length := intL_len Bd
    have hBb : ∀ x ∈ intL Bd, 1 ≤ x ∧ x ≤ 91 := fun x hx => by
      obtain ⟨y, hy, rfl⟩ := List.mem_map.mp hx
      have := B3 y hy
      omega
    suffices word : ∀ H', Same H15 H' → ¬ FullW (intL Bd) → _ from by
      refine ⟨_, rfl, _, _, rfl, ChkW.ok (n := 400) (by decide) (by decide) hBi (by omega) (fun x hx => by have := hBb x hx; omega) fun H16 s16 => ⟨_, rfl, ?_⟩⟩
      by_cases g4 : crowdedL 400 (intL Bd) = none
      case neg =>
        have : (crowdedL 400 (intL Bd)).isNone = false := by
          cases e : crowdedL 400 (intL Bd) with
          | none => exact (g4 e).elim
          | some _ => rfl
        rw [this]
        exact iteT (iteT (word H16 s16 fun f => g4 (full_400 f)))
      rw [g4]
      have eB16 := s16.seqT eB
      refine iteF ⟨_, rfl, bb, intL Bd, rfl, by rw [intL_V]; exact eB16, by omega, fun mx hm1 hm2 => ⟨_, rfl, bb, _, rfl, .inr eB16, _, _, rfl, rfl, _, rfl, ?_⟩⟩
      rw [vN_len]
      by_cases hm : ((Bd.length : Nat) : Int) < mx
      · rw [decide_eq_true hm]
        refine iteT (iteT (word H16 s16 fun f => ?_))
        have := f.2.2.1 mx hm1
        omega
      · rw [decide_eq_false hm]
        refine iteF ⟨_, rfl, bb, _, rfl, .inr eB16, _, rfl, _, _, rfl, ?_⟩
        rw [vN_len]
        refine ChkW.ok B1 (by omega) (s16.seqA hBi) (by omega) (fun x hx => by have := hBb x hx; have := hm2 x hx; omega) fun H17 s17 => ⟨_, rfl, ?_⟩
        by_cases g5 : crowdedL Bd.length (intL Bd) = none
        · rw [g5]
          exact iteF ⟨⟨_, _, _, _, _, _, _, _, rfl⟩, (s115.trans s16).trans s17⟩
        · have : (crowdedL Bd.length (intL Bd)).isNone = false := by
            cases e : crowdedL Bd.length (intL Bd) with
            | none => exact (g5 e).elim
            | some _ => rfl
          rw [this]
          refine iteT (word H17 (s16.trans s17) fun f => g5 ?_)
          have := f.2.2.2
          rw [hBl] at this
          exact this
    intro H' s' hnf
    refine ⟨_, rfl, _, _, _, false, rfl, .inl ⟨rfl, rfl⟩, fun Q' E' e => not_row (.inr (s'.seqT eB)) ty_vN ?_ e, fun H'' s'' => ⟨rfl, _, rfl, ?_⟩⟩
    · rintro ⟨ws, ew, f⟩
      apply hnf
      have : ws = intL Bd := by
        have h0 : ∀ w ∈ ws, 0 ≤ w := fun w hw => by have := f.2.2.1 w hw; omega
        have e2 : vN Bd = vN (natL ws) := by rw [ew]; exact vN_of h0
        rw [vN_inj e2]
        unfold intL natL
        rw [List.map_map]
        refine (List.map_id ws).symm.trans (List.map_congr_left fun w hw => ?_)
        have := h0 w hw
        show w = ((w.toNat : Nat) : Int)
        omega
      rw [← this]
      exact f
    · show (if (!decide (V.str (nmT false) = V.str (Str.ofString "wishes"))) = true then _ else _)
      rw [decide_eq_true (by rfl)]
      exact iteF ⟨⟨_, _, _, _, _, _, _, _, rfl⟩, (s115.trans s').trans s''⟩
  · rintro σ H1 ⟨⟨y1, y2, y3, y4, y5, y6, y7, y8, rfl⟩, s1⟩
    have e0 : goodT [] = false := rfl
    have f0 : ¬ ∃ ws : List Int, [] = ws.map V.int ∧ FullW ws := by
      rintro ⟨ws, e, f⟩
      have := congrArg List.length e
      rw [List.length_map] at this
      have := f.1
      simp at *
      omega
    refine ⟨Nat.zero_le _, fun p1 n1 => ⟨Nat.zero_le _, fun p2 n2 => fun d nd => ?_⟩⟩
    have t1 := same_new n1 (o := .tup [])
    have t2 := same_new n2 (o := .lst [])
    have t3 := same_new nd (o := .dK [])
    have ep1 := t3 _ _ (t2 _ _ (upd_same (H := H1) (a := p1) (o := .tup [])))
    have ep2 := t3 _ _ (upd_same (H := (upd H1 p1 (.tup []))) (a := p2) (o := .lst []))
    have epd := upd_same (H := (upd (upd H1 p1 (.tup [])) p2 (.lst []))) (a := d) (o := .dK [])
    have s2 := s1.trans ((t1.trans t2).trans t3)
    generalize (upd (upd (upd H1 p1 (.tup [])) p2 (.lst [])) d (.dK [])) = H2 at ep1 ep2 epd s2 ⊢
    clear t1 t2 t3 n1 n2 nd
    change tOp (rRepTA K) (tTup (tCons (tC (.int 0)) tNil)) (tC (.int 401)) _ _ _
    refine rep_tup (k := 401) (by decide) (fun H' _ Q' q => q) fun p4 H3 s23 ep4 => ?_
    refine ⟨l1000 (by show 1 ≤ 1000; decide), fun p5 n5 => ⟨l1000 (by show 1 ≤ 1000; decide), fun p6 n6 => ⟨l1000 (by show 8 ≤ 1000; decide), fun la nla => ?_⟩⟩⟩
    have u1 := same_new n5 (o := .lst [.int 0])
    have u2 := same_new n6 (o := .lst [.ref p5])
    have u3 := same_new nla (o := .lst [.ref p1, .ref p2, .non, .int 5, .str (Str.ofString "tree"), .ref d, .ref p4, .ref p6])
    have ep5 := u3 _ _ (u2 _ _ (upd_same (H := H3) (a := p5) (o := .lst [.int 0])))
    have ep6 := u3 _ _ (upd_same (H := (upd H3 p5 (.lst [.int 0]))) (a := p6) (o := .lst [.ref p5]))
    have ela := upd_same (H := (upd (upd H3 p5 (.lst [.int 0])) p6 (.lst [.ref p5]))) (a := la) (o := .lst [.ref p1, .ref p2, .non, .int 5, .str (Str.ofString "tree"), .ref d, .ref p4, .ref p6])
    have s34 := (u1.trans u2).trans u3
    have ep4 := s34.seqT ep4
    have s24 := s23.trans s34
    have ep1 := s24 _ _ ep1
    have ep2 := s24 _ _ ep2
    have epd := s24 _ _ epd
    have s14 := s2.trans s24
    generalize (upd (upd (upd H3 p5 (.lst [.int 0])) p6 (.lst [.ref p5])) la (.lst [.ref p1, .ref p2, .non, .int 5, .str (Str.ofString "tree"), .ref d, .ref p4, .ref p6])) = H4 at ep1 ep2 epd ep4 ep5 ep6 ela s14 ⊢
    have all : ∀ x ∈ [V.ref p1, .ref p2, .non, .int 5, .str (Str.ofString "tree"), .ref d, .ref p4, .ref p6], NoneT K a x H4 := by
      have hrep : (List.replicate 401 (V.int 0)).length = 401 := List.length_replicate
      have k1 : NoneT K a (.ref p1) H4 := noneT_sq (.inr (sqT_of ep1)) (fun H _ x hx => by cases hx) e0 f0
      have k2 : NoneT K a (.ref p2) H4 := noneT_sq (.inl (sqL_of ep2)) (fun H _ x hx => by cases hx) e0 f0
      have k6 : NoneT K a (.ref d) H4 := noneT_ty (T := "dict") (fun H s => .dK (s _ _ epd)) (by decide) (by decide)
      have k7 : NoneT K a (.ref p4) H4 := noneT_sq (.inr ep4) (fun H _ x hx => by rw [(List.mem_replicate.mp hx).2]; exact ⟨_, .int _⟩) (by unfold goodT; rw [hrep]; rfl) (by
        rintro ⟨ws, e, f⟩
        have := congrArg List.length e
        rw [List.length_map, hrep] at this
        have := f.2.1
        omega)
      have k8 : NoneT K a (.ref p6) H4 := noneT_sq (.inl (sqL_of ep6)) (fun H s x hx => by rw [List.mem_singleton.mp hx]; exact ⟨_, .lst (sqL_of (s _ _ ep5))⟩) rfl (by
        rintro ⟨ws, e, f⟩
        cases ws with
        | nil => cases e
        | cons w r => cases e)
      intro x hx
      simp only [List.mem_cons, List.not_mem_nil, or_false] at hx
      rcases hx with h | h | h | h | h | h | h | h <;> subst h
      · exact k1
      · exact k2
      · exact noneT_ty (T := "NoneType") (fun _ _ => .non) (by decide) (by decide)
      · exact noneT_ty (T := "int") (fun _ _ => .int _) (by decide) (by decide)
      · exact noneT_ty (T := "str") (fun _ _ => .str _) (by decide) (by decide)
      · exact k6
      · exact k7
      · exact k8
    refine ⟨la, rfl, ⟨_, sqL_of ela⟩, for_list (K := K) (a := la) (fun i σ H' => (∃ y, σ = [some (.ref s), y1, y2, y3, y4, y5, y6, y7, y8, y]) ∧ Same H4 H') ⟨⟨none, rfl⟩, Same.refl _⟩ (fun i σ H' _ p => p.2.seq (sqL_of ela)) ?_ (fun σ H' _ => q H')⟩
    rintro i x σ H5 hx ⟨⟨y, rfl⟩, s5⟩
    have hx := all x (List.mem_of_getElem? hx)
    refine ⟨x, rfl, _, _, _, true, rfl, .inr ⟨rfl, rfl⟩, (hx H5 s5).1, fun H6 s6 => ⟨rfl, _, rfl, ?_⟩⟩
    show (if (!decide (V.str (nmT true) = V.str (Str.ofString "tree"))) = true then _ else _)
    rw [decide_eq_true (by rfl)]
    refine iteF ⟨x, rfl, _, _, _, false, rfl, .inl ⟨rfl, rfl⟩, (hx H6 (s5.trans s6)).2, fun H7 s7 => ⟨rfl, _, rfl, ?_⟩⟩
    show (if (!decide (V.str (nmT false) = V.str (Str.ofString "wishes"))) = true then _ else _)
    rw [decide_eq_true (by rfl)]
    exact iteF ⟨⟨_, rfl⟩, (s5.trans s6).trans s7⟩

section
variable {P : Program} {w : World} {K : PySem.W.Frag} {mg : Str → Option Value} {base : Heap} {a : Ad}
def topS (i : Nat) : Stmt := PySem.Challenge.pw_berthrow_k10_whole_rows_of_trees.main.body.getD i (.Pass ⟨0, 0, 0, 0⟩)
structure Txt (K : PySem.W.Frag) (mg : Str → Option Value) (a : Ad) : Prop where
  t_0 : True
  b_enumerate : mg "enumerate" = none
  b_int : mg "int" = none
  b_isinstance : mg "isinstance" = none
  b_len : mg "len" = none
  b_list : mg "list" = none
  b_max : mg "max" = none
  b_min : mg "min" = none
  b_range : mg "range" = none
  b_tuple : mg "tuple" = none
  b_type : mg "type" = none
  c_MOST : ∃ u, mg "MOST" = some u ∧ RelV (.int 400) u
  e_BerthError : ExF K mg "BerthError" a.e_BerthError
  e_NoCount : ExF K mg "NoCount" a.e_NoCount
  e_NoOrder : ExF K mg "NoOrder" a.e_NoOrder
  e_NoQuay : ExF K mg "NoQuay" a.e_NoQuay
  e_NoTree : ExF K mg "NoTree" a.e_NoTree
  e_NoWishes : ExF K mg "NoWishes" a.e_NoWishes
  e_TooMany : ExF K mg "TooMany" a.e_TooMany
  g_BerthError : ExG K a.e_BerthError
  g_NoQuay : ExG K a.e_NoQuay
  g_NoWishes : ExG K a.e_NoWishes
  g_TooMany : ExG K a.e_TooMany
  g_NoCount : ExG K a.e_NoCount
  g_NoTree : ExG K a.e_NoTree
  g_NoOrder : ExG K a.e_NoOrder
  s_NoTree_BerthError : PySem.W.subIn K (.ref a.e_NoTree) (.ref a.e_BerthError) = some true
  s_NoTree_NoOrder : PySem.W.subIn K (.ref a.e_NoTree) (.ref a.e_NoOrder) = some false
  s_NoTree_NoTree : PySem.W.subIn K (.ref a.e_NoTree) (.ref a.e_NoTree) = some true
  s_NoTree_NoWishes : PySem.W.subIn K (.ref a.e_NoTree) (.ref a.e_NoWishes) = some false
  s_NoTree_TooMany : PySem.W.subIn K (.ref a.e_NoTree) (.ref a.e_TooMany) = some false
  s_NoTree_NoQuay : PySem.W.subIn K (.ref a.e_NoTree) (.ref a.e_NoQuay) = some false
  s_NoTree_NoCount : PySem.W.subIn K (.ref a.e_NoTree) (.ref a.e_NoCount) = some false
  s_NoWishes_BerthError : PySem.W.subIn K (.ref a.e_NoWishes) (.ref a.e_BerthError) = some true
  s_NoWishes_NoOrder : PySem.W.subIn K (.ref a.e_NoWishes) (.ref a.e_NoOrder) = some false
  s_NoWishes_NoTree : PySem.W.subIn K (.ref a.e_NoWishes) (.ref a.e_NoTree) = some false
  s_NoWishes_NoWishes : PySem.W.subIn K (.ref a.e_NoWishes) (.ref a.e_NoWishes) = some true
  s_NoWishes_TooMany : PySem.W.subIn K (.ref a.e_NoWishes) (.ref a.e_TooMany) = some false
  s_NoWishes_NoQuay : PySem.W.subIn K (.ref a.e_NoWishes) (.ref a.e_NoQuay) = some false
  s_NoWishes_NoCount : PySem.W.subIn K (.ref a.e_NoWishes) (.ref a.e_NoCount) = some false
abbrev s_is_number : Stmt := topS 10
theorem sc_is_number : FnScope N_is_number ["thing"] (defScope s_is_number) := ⟨rfl, rfl, rfl, by decide +kernel, rfl, by decide +kernel, by decide +kernel⟩
theorem ok_is_number (D : DF K mg "is_number" s_is_number ["thing"] a.f_is_number) (T : Txt K mg a) : Cb P w K mg base CX0 1 "is_number" a.f_is_number ["thing"] (sp_is_number K a) := by
  obtain ⟨⟨fd, F, bb⟩, gg⟩ := D
  refine ⟨⟨fd, F.ok sc_is_number (fun vs H Q E h => len_is_number h) (fun cdv A outer s H vs Q E hr h => ⟨t_is_number K a, ?_, pu_is_number h⟩), bb⟩, gg, F.kp⟩
  exact (pss_one (ps_ret (pe_cmpR op_isTyB (pe_callTy call_type1 (by rfl) T.b_type (by decide +kernel) (pa_cons (pv 0) pa_nil)) (pe_bltn (by rfl) T.b_int (by decide +kernel) rfl) (nomark _))))

abbrev s_is_from_to : Stmt := topS 11
theorem sc_is_from_to : FnScope N_is_from_to ["low", "high", "thing"] (defScope s_is_from_to) := ⟨rfl, rfl, rfl, by decide +kernel, rfl, by decide +kernel, by decide +kernel⟩
theorem ok_is_from_to (D : DF K mg "is_from_to" s_is_from_to ["low", "high", "thing"] a.f_is_from_to) (T : Txt K mg a) (g_is_number : Cb P w K mg base CX0 1 "is_number" a.f_is_number ["thing"] (sp_is_number K a)) : Cb P w K mg base CX0 2 "is_from_to" a.f_is_from_to ["low", "high", "thing"] (sp_is_from_to K a) := by
  obtain ⟨⟨fd, F, bb⟩, gg⟩ := D
  refine ⟨⟨fd, F.ok sc_is_from_to (fun vs H Q E h => len_is_from_to h) (fun cdv A outer s H vs Q E hr h => ⟨t_is_from_to K a, ?_, pu_is_from_to h⟩), bb⟩, gg, F.kp⟩
  exact (pss_one (ps_ret (pe_and (pe_cb g_is_number (hr.mono (by decide)) (by rfl) pass0 (pa_cons (pv 2) pa_nil)) (pe_one (pe_chain op_le op_le (pv 0) (pv 2) (pv 1))))))

abbrev s_is_row : Stmt := topS 12
theorem sc_is_row : FnScope N_is_row ["thing"] (defScope s_is_row) := ⟨rfl, rfl, rfl, by decide +kernel, rfl, by decide +kernel, by decide +kernel⟩
theorem ok_is_row (D : DF K mg "is_row" s_is_row ["thing"] a.f_is_row) (T : Txt K mg a) : Cb P w K mg base CX0 1 "is_row" a.f_is_row ["thing"] (sp_is_row K a) := by
  obtain ⟨⟨fd, F, bb⟩, gg⟩ := D
  refine ⟨⟨fd, F.ok sc_is_row (fun vs H Q E h => len_is_row h) (fun cdv A outer s H vs Q E hr h => ⟨t_is_row K a, ?_, pu_is_row h⟩), bb⟩, gg, F.kp⟩
  exact (pss_one (ps_ret (pe_or (pe_cmpR op_isTyB (pe_callTy call_type1 (by rfl) T.b_type (by decide +kernel) (pa_cons (pv 0) pa_nil)) (pe_bltn (by rfl) T.b_list (by decide +kernel) rfl) (nomark _)) (pe_one (pe_cmpR op_isTyB (pe_callTy call_type1 (by rfl) T.b_type (by decide +kernel) (pa_cons (pv 0) pa_nil)) (pe_bltn (by rfl) T.b_tuple (by decide +kernel) rfl) (nomark _))))))

abbrev s_check_quay : Stmt := topS 13
theorem sc_check_quay : FnScope N_check_quay ["berths"] (defScope s_check_quay) := ⟨rfl, rfl, rfl, by decide +kernel, rfl, by decide +kernel, by decide +kernel⟩
theorem ok_check_quay (D : DF K mg "check_quay" s_check_quay ["berths"] a.f_check_quay) (T : Txt K mg a) (g_is_from_to : Cb P w K mg base CX0 2 "is_from_to" a.f_is_from_to ["low", "high", "thing"] (sp_is_from_to K a)) : Cb P w K mg base (L2.CX P w) 3 "check_quay" a.f_check_quay ["berths"] (sp_check_quay K a) := by
  obtain ⟨⟨fd, F, bb⟩, gg⟩ := D
  refine ⟨⟨fd, F.okX sc_check_quay (fun vs H Q E h => len_check_quay h) (fun cdv A outer s H vs Q E hr h => ⟨t_check_quay K a E, ?_, pu_check_quay h⟩), bb⟩, gg, F.kp⟩
  exact (pss_one (ps_if (pt_not (pt_val (pe_cb g_is_from_to (hr.mono (by decide)) (by rfl) pass0 (pa_cons pe_int (pa_cons (pe_gl (by rfl) T.c_MOST) (pa_cons (pv 0) pa_nil)))))) (pss_one (ps_raise rfl (takes_of rfl rfl rfl rfl) (pmk_own PySem.F.excBase_ValueError T.e_NoQuay.x T.e_NoQuay.g T.e_NoQuay.k (raises_own T.e_NoQuay.b T.e_NoQuay.t) (by exact rfl)))) pss_nil))

abbrev s_check_wishes : Stmt := topS 14
theorem sc_check_wishes : FnScope N_check_wishes ["berths", "wishes"] (defScope s_check_wishes) := ⟨rfl, rfl, rfl, by decide +kernel, rfl, by decide +kernel, by decide +kernel⟩
theorem ok_check_wishes (D : DF K mg "check_wishes" s_check_wishes ["berths", "wishes"] a.f_check_wishes) (T : Txt K mg a) (g_is_from_to : Cb P w K mg base CX0 2 "is_from_to" a.f_is_from_to ["low", "high", "thing"] (sp_is_from_to K a)) (g_is_row : Cb P w K mg base CX0 1 "is_row" a.f_is_row ["thing"] (sp_is_row K a)) (g_check_quay : Cb P w K mg base (L2.CX P w) 3 "check_quay" a.f_check_quay ["berths"] (sp_check_quay K a)) : Cb P w K mg base (L2.CX P w) 4 "check_wishes" a.f_check_wishes ["berths", "wishes"] (sp_check_wishes K a) := by
  obtain ⟨⟨fd, F, bb⟩, gg⟩ := D
  refine ⟨⟨fd, F.okX sc_check_wishes (fun vs H Q E h => len_check_wishes h) (fun cdv A outer s H vs Q E hr h => ⟨t_check_wishes K a E, ?_, pu_check_wishes h⟩), bb⟩, gg, F.kp⟩
  exact (pss_cons (ps_expr (pe_cb g_check_quay (hr.mono (by decide)) (by rfl) (passes_call (takes_of rfl rfl rfl rfl) (fun _ _ _ _ h => h)) (pa_cons (pv 0) pa_nil)))
    (pss_cons (ps_if (pt_not (pt_val (pe_cb g_is_row (hr.mono (by decide)) (by rfl) pass0 (pa_cons (pv 1) pa_nil)))) (pss_one (ps_raise rfl (takes_of rfl rfl rfl rfl) (pmk_own PySem.F.excBase_ValueError T.e_NoWishes.x T.e_NoWishes.g T.e_NoWishes.k (raises_own T.e_NoWishes.b T.e_NoWishes.t) (by exact rfl)))) pss_nil)
    (pss_cons (ps_if (pt_cmpR op_gt (pe_callB call_len_seq (by rfl) T.b_len (by decide +kernel) (pa_cons (pv 1) pa_nil)) (pe_gl (by rfl) T.c_MOST) (nomark _)) (pss_one (ps_raise rfl (takes_of rfl rfl rfl rfl) (pmk_own PySem.F.excBase_ValueError T.e_NoWishes.x T.e_NoWishes.g T.e_NoWishes.k (raises_own T.e_NoWishes.b T.e_NoWishes.t) (by exact rfl)))) pss_nil)
    (pss_one (ps_for (passes_of rfl) rfl (pi_seq (pv 1)) (pg_name (i := 2) sc_check_wishes.nd rfl (by first | exact Or.inl rfl | exact Or.inr rfl))
    (pss_one (ps_if (pt_not (pt_val (pe_cb g_is_from_to (hr.mono (by decide)) (by rfl) pass0 (pa_cons pe_int (pa_cons (pv 0) (pa_cons (pv 2) pa_nil)))))) (pss_one (ps_raise rfl (takes_of rfl rfl rfl rfl) (pmk_own PySem.F.excBase_ValueError T.e_NoWishes.x T.e_NoWishes.g T.e_NoWishes.k (raises_own T.e_NoWishes.b T.e_NoWishes.t) (by exact rfl)))) pss_nil)))))))

abbrev s_crowded : Stmt := topS 17
theorem sc_crowded : FnScope N_crowded ["berths", "wishes"] (defScope s_crowded) := ⟨rfl, rfl, rfl, by decide +kernel, rfl, by decide +kernel, by decide +kernel⟩
theorem ok_crowded (D : DF K mg "crowded" s_crowded ["berths", "wishes"] a.f_crowded) (T : Txt K mg a) (g_check_wishes : Cb P w K mg base (L2.CX P w) 4 "check_wishes" a.f_check_wishes ["berths", "wishes"] (sp_check_wishes K a)) : Cb P w K mg base (L2.CX P w) 5 "crowded" a.f_crowded ["berths", "wishes"] (sp_crowded K a) := by
  obtain ⟨⟨fd, F, bb⟩, gg⟩ := D
  refine ⟨⟨fd, F.okX sc_crowded (fun vs H Q E h => len_crowded h) (fun cdv A outer s H vs Q E hr h => ⟨t_crowded K a E, ?_, pu_crowded h⟩), bb⟩, gg, F.kp⟩
  exact (pss_cons (ps_expr (pe_cb g_check_wishes (hr.mono (by decide)) (by rfl) (passes_call (takes_of rfl rfl rfl rfl) (fun _ _ _ _ h => h)) (pa_cons (pv 0) (pa_cons (pv 1) pa_nil))))
    (pss_cons (ps_set (i := 2) sc_crowded.nd rfl (by first | exact Or.inl rfl | exact Or.inr rfl) (pe_op op_rep (pe_lst (pa_cons pe_int pa_nil)) (pe_op op_add (pv 0) pe_int)))
    (pss_cons (ps_for (passes_of rfl) rfl (pi_seq (pv 1)) (pg_name (i := 3) sc_crowded.nd rfl (by first | exact Or.inl rfl | exact Or.inr rfl))
    (pss_one (ps_augS (pv 2) (pv 3) gt_list pe_int ip_add set_list)))
    (pss_cons (ps_set (i := 4) sc_crowded.nd rfl (by first | exact Or.inl rfl | exact Or.inr rfl) pe_int)
    (pss_cons (ps_for (passes_of rfl) rfl (pi_range3 (by rfl) T.b_range (pa_cons (pv 0) (pa_cons pe_int (pa_cons (pe_un un_neg pe_int) pa_nil)))) (pg_name (i := 5) sc_crowded.nd rfl (by first | exact Or.inl rfl | exact Or.inr rfl))
    (pss_cons (ps_aug (i := 4) sc_crowded.nd rfl (by first | exact Or.inl rfl | exact Or.inr rfl) (pe_ix ix_list (pv 2) (pv 5) (fun _ _ => rfl)) ip_add)
    (pss_one (ps_if (pt_cmpR op_gt (pv 4) (pe_op op_add (pe_op op_sub (pv 0) (pv 5)) pe_int) (nomark _)) (pss_one (ps_ret (pv 5))) pss_nil))))
    (pss_one (ps_ret pe_non)))))))

abbrev s_is_good : Stmt := topS 16
theorem sc_is_good : FnScope N_is_good ["berths", "wishes"] (defScope s_is_good) := ⟨rfl, rfl, rfl, by decide +kernel, rfl, by decide +kernel, by decide +kernel⟩
theorem ok_is_good (D : DF K mg "is_good" s_is_good ["berths", "wishes"] a.f_is_good) (T : Txt K mg a) (g_crowded : Cb P w K mg base (L2.CX P w) 5 "crowded" a.f_crowded ["berths", "wishes"] (sp_crowded K a)) : Cb P w K mg base (L2.CX P w) 6 "is_good" a.f_is_good ["berths", "wishes"] (sp_is_good K a) := by
  obtain ⟨⟨fd, F, bb⟩, gg⟩ := D
  refine ⟨⟨fd, F.okX sc_is_good (fun vs H Q E h => len_is_good h) (fun cdv A outer s H vs Q E hr h => ⟨t_is_good K a E, ?_, pu_is_good h⟩), bb⟩, gg, F.kp⟩
  exact (pss_one (ps_ret (pe_cmp (pc_isN (pe_cb g_crowded (hr.mono (by decide)) (by rfl) (passes_call (takes_of rfl rfl rfl rfl) (fun _ _ _ _ h => h)) (pa_cons (pv 0) (pa_cons (pv 1) pa_nil)))) rfl)))

abbrev s_check_full_row : Stmt := topS 18
theorem sc_check_full_row : FnScope N_check_full_row ["wishes"] (defScope s_check_full_row) := ⟨rfl, rfl, rfl, by decide +kernel, rfl, by decide +kernel, by decide +kernel⟩
theorem ok_check_full_row (D : DF K mg "check_full_row" s_check_full_row ["wishes"] a.f_check_full_row) (T : Txt K mg a) (g_is_row : Cb P w K mg base CX0 1 "is_row" a.f_is_row ["thing"] (sp_is_row K a)) (g_is_good : Cb P w K mg base (L2.CX P w) 6 "is_good" a.f_is_good ["berths", "wishes"] (sp_is_good K a)) : Cb P w K mg base (L2.CX P w) 7 "check_full_row" a.f_check_full_row ["wishes"] (sp_check_full_row K a) := by
  obtain ⟨⟨fd, F, bb⟩, gg⟩ := D
  refine ⟨⟨fd, F.okX sc_check_full_row (fun vs H Q E h => len_check_full_row h) (fun cdv A outer s H vs Q E hr h => ⟨t_check_full_row K a E, ?_, pu_check_full_row h⟩), bb⟩, gg, F.kp⟩
  exact (pss_cons (ps_if (PW.pt (pw_or (pt_not (pt_val (pe_cb g_is_row (hr.mono (by decide)) (by rfl) pass0 (pa_cons (pv 0) pa_nil)))) (pw_or1 (pt_not (pt_chain op_le op_le pe_int (pe_callB call_len_seq (by rfl) T.b_len (by decide +kernel) (pa_cons (pv 0) pa_nil)) (pe_gl (by rfl) T.c_MOST)))))) (pss_one (ps_raise rfl (takes_of rfl rfl rfl rfl) (pmk_own PySem.F.excBase_ValueError T.e_NoWishes.x T.e_NoWishes.g T.e_NoWishes.k (raises_own T.e_NoWishes.b T.e_NoWishes.t) (by exact rfl)))) pss_nil)
    (pss_one (ps_if (pt_not (pt_val (pe_cb g_is_good (hr.mono (by decide)) (by rfl) (passes_call (takes_of rfl rfl rfl rfl) (fun _ _ _ _ h => h)) (pa_cons (pe_callB call_len_seq (by rfl) T.b_len (by decide +kernel) (pa_cons (pv 0) pa_nil)) (pa_cons (pv 0) pa_nil))))) (pss_one (ps_raise rfl (takes_of rfl rfl rfl rfl) (pmk_own PySem.F.excBase_ValueError T.e_NoWishes.x T.e_NoWishes.g T.e_NoWishes.k (raises_own T.e_NoWishes.b T.e_NoWishes.t) (by exact rfl)))) pss_nil)))

abbrev s_tree_of : Stmt := topS 20
theorem sc_tree_of : FnScope N_tree_of ["wishes"] (defScope s_tree_of) := ⟨rfl, rfl, rfl, by decide +kernel, rfl, by decide +kernel, by decide +kernel⟩
theorem ok_tree_of (D : DF K mg "tree_of" s_tree_of ["wishes"] a.f_tree_of) (T : Txt K mg a) (g_check_full_row : Cb P w K mg base (L2.CX P w) 7 "check_full_row" a.f_check_full_row ["wishes"] (sp_check_full_row K a)) : Cb P w K mg base (L2.CX P w) 8 "tree_of" a.f_tree_of ["wishes"] (sp_tree_of K a) := by
  obtain ⟨⟨fd, F, bb⟩, gg⟩ := D
  refine ⟨⟨fd, F.okX sc_tree_of (fun vs H Q E h => len_tree_of h) (fun cdv A outer s H vs Q E hr h => ⟨t_tree_of K a E, ?_, pu_tree_of h⟩), bb⟩, gg, F.kp⟩
  exact (pss_cons (ps_expr (pe_cb g_check_full_row (hr.mono (by decide)) (by rfl) (passes_call (takes_of rfl rfl rfl rfl) (fun _ _ _ _ h => h)) (pa_cons (pv 0) pa_nil)))
    (pss_cons (ps_setLc (i := 1) (own := [("_", 9)]) rfl sc_tree_of.nd rfl rfl (sw_true rfl rfl rfl (by decide +kernel)) (pi_range1 (by rfl) T.b_range (pa_cons (pe_op op_add (pe_callB call_len_seq (by rfl) T.b_len (by decide +kernel) (pa_cons (pv 0) pa_nil)) pe_int) pa_nil)) (blkOk_by (N := N_tree_of) (sc := defScope s_tree_of) (by decide +kernel)) (fun _ _ _ _ _ => (pg_name (i := 9) sc_tree_of.nd rfl (by first | exact Or.inl rfl | exact Or.inr rfl))) (fun _ _ _ _ _ => pts_nil) (fun _ _ _ _ _ => (pe_lst pa_nil)))
    (pss_cons (ps_for (passes_of rfl) rfl (pi_enumS (by rfl) T.b_enumerate (pa_cons (pv 0) pa_nil)) (pg_tup rfl (pgs_cons (pg_name (i := 2) sc_tree_of.nd rfl (by first | exact Or.inl rfl | exact Or.inr rfl)) (pgs_cons (pg_name (i := 3) sc_tree_of.nd rfl (by first | exact Or.inl rfl | exact Or.inr rfl)) pgs_nil)))
    (pss_one (ps_expr (pe_bm PySem.F.plainAttrs_list PySem.F.slot_list_append PySem.F.type_list_append mt_append (pe_ix ix_list (pv 1) (pv 3) (fun _ _ => rfl)) (pa_cons (pe_op op_add (pv 2) pe_int) pa_nil)))))
    (pss_cons (ps_set (i := 4) sc_tree_of.nd rfl (by first | exact Or.inl rfl | exact Or.inr rfl) (pe_lst (pa_cons pe_int pa_nil)))
    (pss_cons (ps_set (i := 5) sc_tree_of.nd rfl (by first | exact Or.inl rfl | exact Or.inr rfl) (pe_op op_rep (pe_lst (pa_cons pe_int pa_nil)) (pe_callB call_len_seq (by rfl) T.b_len (by decide +kernel) (pa_cons (pv 0) pa_nil))))
    (pss_cons (ps_for (passes_of rfl) rfl (pi_range2 (by rfl) T.b_range (pa_cons pe_int (pa_cons (pe_op op_add (pe_callB call_len_seq (by rfl) T.b_len (by decide +kernel) (pa_cons (pv 0) pa_nil)) pe_int) pa_nil))) (pg_name (i := 6) sc_tree_of.nd rfl (by first | exact Or.inl rfl | exact Or.inr rfl))
    (pss_cons (ps_set (i := 7) sc_tree_of.nd rfl (by first | exact Or.inl rfl | exact Or.inr rfl) (pe_ix ix_list (pv 4) (pe_op op_sub (pv 6) pe_int) (fun _ _ => rfl)))
    (pss_one (ps_for (passes_of rfl) rfl (pi_list (pe_ix ix_list (pv 1) (pv 6) (fun _ _ => rfl))) (pg_name (i := 8) sc_tree_of.nd rfl (by first | exact Or.inl rfl | exact Or.inr rfl))
    (pss_cons (ps_asg (pv 7) (pg_sub (pv 5) (pe_op op_sub (pv 8) pe_int) set_list))
    (pss_one (ps_expr (pe_bm PySem.F.plainAttrs_list PySem.F.slot_list_append PySem.F.type_list_append mt_append (pv 4) (pa_cons (pv 8) pa_nil)))))))))
    (pss_one (ps_ret (pe_callTy call_tuple_of (by rfl) T.b_tuple (by decide +kernel) (pa_cons (pv 5) pa_nil))))))))))

abbrev s_p_check_knots : Stmt := topS 22
theorem sc_p_check_knots : FnScope N_p_check_knots ["tree"] (defScope s_p_check_knots) := ⟨rfl, rfl, rfl, by decide +kernel, rfl, by decide +kernel, by decide +kernel⟩
theorem ok_p_check_knots (D : DF K mg "_check_knots" s_p_check_knots ["tree"] a.f_p_check_knots) (T : Txt K mg a) (g_is_from_to : Cb P w K mg base CX0 2 "is_from_to" a.f_is_from_to ["low", "high", "thing"] (sp_is_from_to K a)) (g_is_row : Cb P w K mg base CX0 1 "is_row" a.f_is_row ["thing"] (sp_is_row K a)) : Cb P w K mg base (L2.CX P w) 3 "_check_knots" a.f_p_check_knots ["tree"] (sp_p_check_knots K a) := by
  obtain ⟨⟨fd, F, bb⟩, gg⟩ := D
  refine ⟨⟨fd, F.okX sc_p_check_knots (fun vs H Q E h => len_p_check_knots h) (fun cdv A outer s H vs Q E hr h => ⟨t_p_check_knots K a E, ?_, pu_p_check_knots h⟩), bb⟩, gg, F.kp⟩
  exact (pss_cons (ps_if (PW.pt (pw_or (pt_not (pt_val (pe_cb g_is_row (hr.mono (by decide)) (by rfl) pass0 (pa_cons (pv 0) pa_nil)))) (pw_or1 (pt_not (pt_chain op_le op_le pe_int (pe_callB call_len_seq (by rfl) T.b_len (by decide +kernel) (pa_cons (pv 0) pa_nil)) (pe_gl (by rfl) T.c_MOST)))))) (pss_one (ps_raise rfl (takes_of rfl rfl rfl rfl) (pmk_own PySem.F.excBase_ValueError T.e_NoTree.x T.e_NoTree.g T.e_NoTree.k (raises_own T.e_NoTree.b T.e_NoTree.t) (by exact rfl)))) pss_nil)
    (pss_one (ps_for (passes_of rfl) rfl (pi_seq (pv 0)) (pg_name (i := 1) sc_p_check_knots.nd rfl (by first | exact Or.inl rfl | exact Or.inr rfl))
    (pss_one (ps_if (pt_not (pt_val (pe_cb g_is_from_to (hr.mono (by decide)) (by rfl) pass0 (pa_cons pe_int (pa_cons (pe_callB call_len_seq (by rfl) T.b_len (by decide +kernel) (pa_cons (pv 0) pa_nil)) (pa_cons (pv 1) pa_nil)))))) (pss_one (ps_raise rfl (takes_of rfl rfl rfl rfl) (pmk_own PySem.F.excBase_ValueError T.e_NoTree.x T.e_NoTree.g T.e_NoTree.k (raises_own T.e_NoTree.b T.e_NoTree.t) (by exact rfl)))) pss_nil)))))

abbrev s_wishes_of : Stmt := topS 21
theorem sc_wishes_of : FnScope N_wishes_of ["tree"] (defScope s_wishes_of) := ⟨rfl, rfl, rfl, by decide +kernel, rfl, by decide +kernel, by decide +kernel⟩
theorem ok_wishes_of (D : DF K mg "wishes_of" s_wishes_of ["tree"] a.f_wishes_of) (T : Txt K mg a) (g_p_check_knots : Cb P w K mg base (L2.CX P w) 3 "_check_knots" a.f_p_check_knots ["tree"] (sp_p_check_knots K a)) : Cb P w K mg base (L2.CX P w) 4 "wishes_of" a.f_wishes_of ["tree"] (sp_wishes_of K a) := by
  obtain ⟨⟨fd, F, bb⟩, gg⟩ := D
  refine ⟨⟨fd, F.okX sc_wishes_of (fun vs H Q E h => len_wishes_of h) (fun cdv A outer s H vs Q E hr h => ⟨t_wishes_of K a E, ?_, pu_wishes_of h⟩), bb⟩, gg, F.kp⟩
  exact (pss_cons (ps_expr (pe_cb g_p_check_knots (hr.mono (by decide)) (by rfl) (passes_call (takes_of rfl rfl rfl rfl) (fun _ _ _ _ h => h)) (pa_cons (pv 0) pa_nil)))
    (pss_cons (ps_setLc (i := 1) (own := [("_", 8)]) rfl sc_wishes_of.nd rfl rfl (sw_true rfl rfl rfl (by decide +kernel)) (pi_range1 (by rfl) T.b_range (pa_cons (pe_op op_add (pe_callB call_len_seq (by rfl) T.b_len (by decide +kernel) (pa_cons (pv 0) pa_nil)) pe_int) pa_nil)) (blkOk_by (N := N_wishes_of) (sc := defScope s_wishes_of) (by decide +kernel)) (fun _ _ _ _ _ => (pg_name (i := 8) sc_wishes_of.nd rfl (by first | exact Or.inl rfl | exact Or.inr rfl))) (fun _ _ _ _ _ => pts_nil) (fun _ _ _ _ _ => (pe_lst pa_nil)))
    (pss_cons (ps_for (passes_of rfl) rfl (pi_enumS (by rfl) T.b_enumerate (pa_cons (pv 0) pa_nil)) (pg_tup rfl (pgs_cons (pg_name (i := 2) sc_wishes_of.nd rfl (by first | exact Or.inl rfl | exact Or.inr rfl)) (pgs_cons (pg_name (i := 3) sc_wishes_of.nd rfl (by first | exact Or.inl rfl | exact Or.inr rfl)) pgs_nil)))
    (pss_one (ps_expr (pe_bm PySem.F.plainAttrs_list PySem.F.slot_list_append PySem.F.type_list_append mt_append (pe_ix ix_list (pv 1) (pv 3) (fun _ _ => rfl)) (pa_cons (pe_op op_add (pv 2) pe_int) pa_nil)))))
    (pss_cons (ps_set (i := 4) sc_wishes_of.nd rfl (by first | exact Or.inl rfl | exact Or.inr rfl) (pe_lst (pa_cons pe_int pa_nil)))
    (pss_cons (ps_set (i := 5) sc_wishes_of.nd rfl (by first | exact Or.inl rfl | exact Or.inr rfl) (pe_op op_rep (pe_lst (pa_cons pe_int pa_nil)) (pe_callB call_len_seq (by rfl) T.b_len (by decide +kernel) (pa_cons (pv 0) pa_nil))))
    (pss_cons (ps_set (i := 6) sc_wishes_of.nd rfl (by first | exact Or.inl rfl | exact Or.inr rfl) pe_int)
    (pss_cons (ps_while (passes_of rfl) (pt_cmpR op_lt (pv 6) (pe_callB call_len_seq (by rfl) T.b_len (by decide +kernel) (pa_cons (pv 4) pa_nil)) (nomark _)) (pss_cons (ps_set (i := 3) sc_wishes_of.nd rfl (by first | exact Or.inl rfl | exact Or.inr rfl) (pe_ix ix_list (pv 4) (pv 6) (fun _ _ => rfl)))
    (pss_cons (ps_aug (i := 6) sc_wishes_of.nd rfl (by first | exact Or.inl rfl | exact Or.inr rfl) pe_int ip_add)
    (pss_one (ps_for (passes_of rfl) rfl (pi_list (pe_ix ix_list (pv 1) (pv 3) (fun _ _ => rfl))) (pg_name (i := 7) sc_wishes_of.nd rfl (by first | exact Or.inl rfl | exact Or.inr rfl))
    (pss_cons (ps_asg (pv 6) (pg_sub (pv 5) (pe_op op_sub (pv 7) pe_int) set_list))
    (pss_one (ps_expr (pe_bm PySem.F.plainAttrs_list PySem.F.slot_list_append PySem.F.type_list_append mt_append (pv 4) (pa_cons (pv 7) pa_nil))))))))))
    (pss_cons (ps_if (pt_cmpR op_le (pe_callB call_len_seq (by rfl) T.b_len (by decide +kernel) (pa_cons (pv 4) pa_nil)) (pe_callB call_len_seq (by rfl) T.b_len (by decide +kernel) (pa_cons (pv 0) pa_nil)) (nomark _)) (pss_one (ps_raise rfl (takes_of rfl rfl rfl rfl) (pmk_own PySem.F.excBase_ValueError T.e_NoTree.x T.e_NoTree.g T.e_NoTree.k (raises_own T.e_NoTree.b T.e_NoTree.t) (by exact rfl)))) pss_nil)
    (pss_one (ps_ret (pe_callTy call_tuple_of (by rfl) T.b_tuple (by decide +kernel) (pa_cons (pv 5) pa_nil))))))))))))

abbrev s_l_cell_at : Stmt := topS 24
theorem sc_l_cell_at : FnScope N_l_cell_at ["_law_script", "_law_k"] (defScope s_l_cell_at) := ⟨rfl, rfl, rfl, by decide +kernel, rfl, by decide +kernel, by decide +kernel⟩
theorem ok_l_cell_at (D : DF K mg "_law_cell_at" s_l_cell_at ["_law_script", "_law_k"] a.f_l_cell_at) (T : Txt K mg a) : Cb P w K mg base CX0 1 "_law_cell_at" a.f_l_cell_at ["_law_script", "_law_k"] (sp_l_cell_at K) := by
  obtain ⟨⟨fd, F, bb⟩, gg⟩ := D
  refine ⟨⟨fd, F.ok sc_l_cell_at (fun vs H Q E h => len_l_cell_at h) (fun cdv A outer s H vs Q E hr h => ⟨t_l_cell_at K a, ?_, pu_l_cell_at h⟩), bb⟩, gg, F.kp⟩
  exact (pss_cons (ps_if (pt_cmpR op_lt (pv 1) (pe_callB call_len_seq (by rfl) T.b_len (by decide +kernel) (pa_cons (pv 0) pa_nil)) (nomark _)) (pss_one (ps_ret (pe_ix ix_list (pv 0) (pv 1) (fun _ _ => rfl)))) pss_nil)
    (pss_one (ps_ret pe_int)))

abbrev s_l_mix : Stmt := topS 25
theorem sc_l_mix : FnScope N_l_mix ["_law_state", "_law_cell"] (defScope s_l_mix) := ⟨rfl, rfl, rfl, by decide +kernel, rfl, by decide +kernel, by decide +kernel⟩
theorem ok_l_mix (D : DF K mg "_law_mix" s_l_mix ["_law_state", "_law_cell"] a.f_l_mix) (T : Txt K mg a) : Cb P w K mg base CX0 1 "_law_mix" a.f_l_mix ["_law_state", "_law_cell"] (sp_l_mix K) := by
  obtain ⟨⟨fd, F, bb⟩, gg⟩ := D
  refine ⟨⟨fd, F.ok sc_l_mix (fun vs H Q E h => len_l_mix h) (fun cdv A outer s H vs Q E hr h => ⟨t_l_mix K a, ?_, pu_l_mix h⟩), bb⟩, gg, F.kp⟩
  exact (pss_cons (ps_asg (pe_op op_mod (pe_op op_add (pe_op op_add (pe_op op_mul (pe_ix ix_list (pv 0) pe_int (fun _ _ => rfl)) pe_int) (pe_op op_mul (pv 1) pe_int)) pe_int) pe_int) (pg_sub (pv 0) pe_int set_list))
    (pss_one (ps_ret (pe_op op_fdiv (pe_op op_mod (pe_op op_mul (pe_ix ix_list (pv 0) pe_int (fun _ _ => rfl)) (pe_ix ix_list (pv 0) pe_int (fun _ _ => rfl))) pe_int) pe_int))))

abbrev s_l_order : Stmt := topS 26
theorem sc_l_order : FnScope N_l_order ["_law_script", "_law_many", "_law_first"] (defScope s_l_order) := ⟨rfl, rfl, rfl, by decide +kernel, rfl, by decide +kernel, by decide +kernel⟩
theorem ok_l_order (D : DF K mg "_law_order" s_l_order ["_law_script", "_law_many", "_law_first"] a.f_l_order) (T : Txt K mg a) (g_l_cell_at : Cb P w K mg base CX0 1 "_law_cell_at" a.f_l_cell_at ["_law_script", "_law_k"] (sp_l_cell_at K)) (g_l_mix : Cb P w K mg base CX0 1 "_law_mix" a.f_l_mix ["_law_state", "_law_cell"] (sp_l_mix K)) : Cb P w K mg base CX0 2 "_law_order" a.f_l_order ["_law_script", "_law_many", "_law_first"] (sp_l_order K) := by
  obtain ⟨⟨fd, F, bb⟩, gg⟩ := D
  refine ⟨⟨fd, F.ok sc_l_order (fun vs H Q E h => len_l_order h) (fun cdv A outer s H vs Q E hr h => ⟨t_l_order K a, ?_, pu_l_order h⟩), bb⟩, gg, F.kp⟩
  exact (pss_cons (ps_set (i := 3) sc_l_order.nd rfl (by first | exact Or.inl rfl | exact Or.inr rfl) (pe_lst (pa_cons (pe_op op_add pe_int (pe_op op_mod (pe_cb g_l_cell_at (hr.mono (by decide)) (by rfl) pass0 (pa_cons (pv 0) (pa_cons (pv 2) pa_nil))) pe_int)) pa_nil)))
    (pss_cons (ps_set (i := 4) sc_l_order.nd rfl (by first | exact Or.inl rfl | exact Or.inr rfl) (pe_listRg rfl (by rfl) T.b_list (prg_1 (by rfl) T.b_range (pv 1))))
    (pss_cons (ps_set (i := 5) sc_l_order.nd rfl (by first | exact Or.inl rfl | exact Or.inr rfl) (pe_lst pa_nil))
    (pss_cons (ps_for PassesOwn.never rfl (pi_range1 (by rfl) T.b_range (pa_cons (pv 1) pa_nil)) (pg_name (i := 6) sc_l_order.nd rfl (by first | exact Or.inl rfl | exact Or.inr rfl))
    (pss_one (ps_expr (pe_bm PySem.F.plainAttrs_list PySem.F.slot_list_append PySem.F.type_list_append mt_append (pv 5) (pa_cons (pe_bm PySem.F.plainAttrs_list PySem.F.slot_list_pop PySem.F.type_list_pop mt_popAt (pv 4) (pa_cons (pe_op op_mod (pe_cb g_l_mix (hr.mono (by decide)) (by rfl) pass0 (pa_cons (pv 3) (pa_cons (pe_cb g_l_cell_at (hr.mono (by decide)) (by rfl) pass0 (pa_cons (pv 0) (pa_cons (pe_op op_add (pe_op op_add (pv 2) pe_int) (pe_op op_mod (pv 6) pe_int)) pa_nil))) pa_nil))) (pe_callB call_len_seq (by rfl) T.b_len (by decide +kernel) (pa_cons (pv 4) pa_nil))) pa_nil)) pa_nil)))))
    (pss_one (ps_ret (pv 5)))))))

abbrev s_l_drawn : Stmt := topS 27
theorem sc_l_drawn : FnScope N_l_drawn ["_law_script", "_law_first"] (defScope s_l_drawn) := ⟨rfl, rfl, rfl, by decide +kernel, rfl, by decide +kernel, by decide +kernel⟩
theorem ok_l_drawn (D : DF K mg "_law_drawn" s_l_drawn ["_law_script", "_law_first"] a.f_l_drawn) (T : Txt K mg a) (g_l_cell_at : Cb P w K mg base CX0 1 "_law_cell_at" a.f_l_cell_at ["_law_script", "_law_k"] (sp_l_cell_at K)) (g_l_mix : Cb P w K mg base CX0 1 "_law_mix" a.f_l_mix ["_law_state", "_law_cell"] (sp_l_mix K)) (g_l_order : Cb P w K mg base CX0 2 "_law_order" a.f_l_order ["_law_script", "_law_many", "_law_first"] (sp_l_order K)) : Cb P w K mg base CX0 3 "_law_drawn" a.f_l_drawn ["_law_script", "_law_first"] (sp_l_drawn K) := by
  obtain ⟨⟨fd, F, bb⟩, gg⟩ := D
  refine ⟨⟨fd, F.ok sc_l_drawn (fun vs H Q E h => len_l_drawn h) (fun cdv A outer s H vs Q E hr h => ⟨t_l_drawn K a, ?_, pu_l_drawn h⟩), bb⟩, gg, F.kp⟩
  exact (pss_cons (ps_set (i := 2) sc_l_drawn.nd rfl (by first | exact Or.inl rfl | exact Or.inr rfl) (pe_cb g_l_cell_at (hr.mono (by decide)) (by rfl) pass0 (pa_cons (pv 0) (pa_cons (pv 1) pa_nil))))
    (pss_cons (ps_set (i := 3) sc_l_drawn.nd rfl (by first | exact Or.inl rfl | exact Or.inr rfl) (pe_ix ix_list (pe_lst (pa_cons (pe_op op_add pe_int (pe_op op_mod (pv 2) pe_int)) (pa_cons (pe_op op_add pe_int (pe_op op_mod (pe_op op_fdiv (pv 2) pe_int) pe_int)) pa_nil))) (pe_op op_fdiv (pe_op op_mod (pv 2) pe_int) pe_int) (fun _ _ => rfl)))
    (pss_cons (ps_set (i := 4) sc_l_drawn.nd rfl (by first | exact Or.inl rfl | exact Or.inr rfl) (pe_cb g_l_order (hr.mono (by decide)) (by rfl) pass0 (pa_cons (pv 0) (pa_cons (pv 3) (pa_cons (pv 1) pa_nil)))))
    (pss_cons (ps_set (i := 5) sc_l_drawn.nd rfl (by first | exact Or.inl rfl | exact Or.inr rfl) (pe_lst (pa_cons (pe_op op_add pe_int (pe_op op_mod (pe_cb g_l_cell_at (hr.mono (by decide)) (by rfl) pass0 (pa_cons (pv 0) (pa_cons (pe_op op_add (pv 1) pe_int) pa_nil))) pe_int)) pa_nil)))
    (pss_cons (ps_set (i := 6) sc_l_drawn.nd rfl (by first | exact Or.inl rfl | exact Or.inr rfl) (pe_op op_rep (pe_lst (pa_cons pe_int pa_nil)) (pv 3)))
    (pss_cons (ps_set (i := 7) sc_l_drawn.nd rfl (by first | exact Or.inl rfl | exact Or.inr rfl) (pe_lst (pa_cons pe_int pa_nil)))
    (pss_cons (ps_for PassesOwn.never rfl (pi_list (pv 4)) (pg_name (i := 8) sc_l_drawn.nd rfl (by first | exact Or.inl rfl | exact Or.inr rfl))
    (pss_cons (ps_asg (pe_ix ix_list (pv 7) (pe_op op_mod (pe_cb g_l_mix (hr.mono (by decide)) (by rfl) pass0 (pa_cons (pv 5) (pa_cons (pv 8) pa_nil))) (pe_callB call_len_seq (by rfl) T.b_len (by decide +kernel) (pa_cons (pv 7) pa_nil))) (fun _ _ => rfl)) (pg_sub (pv 6) (pv 8) set_list))
    (pss_one (ps_expr (pe_bm PySem.F.plainAttrs_list PySem.F.slot_list_append PySem.F.type_list_append mt_append (pv 7) (pa_cons (pe_op op_add (pv 8) pe_int) pa_nil))))))
    (pss_one (ps_ret (pe_callTy call_tuple_of (by rfl) T.b_tuple (by decide +kernel) (pa_cons (pv 6) pa_nil)))))))))))

abbrev s_l_hangs : Stmt := topS 28
theorem sc_l_hangs : FnScope N_l_hangs ["_law_tree"] (defScope s_l_hangs) := ⟨rfl, rfl, rfl, by decide +kernel, rfl, by decide +kernel, by decide +kernel⟩
theorem ok_l_hangs (D : DF K mg "_law_hangs" s_l_hangs ["_law_tree"] a.f_l_hangs) (T : Txt K mg a) : Cb P w K mg base CX0 1 "_law_hangs" a.f_l_hangs ["_law_tree"] (sp_l_hangs K) := by
  obtain ⟨⟨fd, F, bb⟩, gg⟩ := D
  refine ⟨⟨fd, F.ok sc_l_hangs (fun vs H Q E h => len_l_hangs h) (fun cdv A outer s H vs Q E hr h => ⟨t_l_hangs K a, ?_, pu_l_hangs h⟩), bb⟩, gg, F.kp⟩
  exact (pss_cons (ps_for PassesOwn.never rfl (pi_range2 (by rfl) T.b_range (pa_cons pe_int (pa_cons (pe_op op_add (pe_callB call_len_seq (by rfl) T.b_len (by decide +kernel) (pa_cons (pv 0) pa_nil)) pe_int) pa_nil))) (pg_name (i := 1) sc_l_hangs.nd rfl (by first | exact Or.inl rfl | exact Or.inr rfl))
    (pss_cons (ps_set (i := 2) sc_l_hangs.nd rfl (by first | exact Or.inl rfl | exact Or.inr rfl) (pv 1))
    (pss_cons (ps_set (i := 3) sc_l_hangs.nd rfl (by first | exact Or.inl rfl | exact Or.inr rfl) pe_int)
    (pss_cons (ps_while PassesOwn.never (PW.pt (pw_and (pt_cmpR op_ne (pv 2) pe_int (nomark _)) (pw_and1 (pt_cmpR op_le (pv 3) (pe_callB call_len_seq (by rfl) T.b_len (by decide +kernel) (pa_cons (pv 0) pa_nil)) (nomark _))))) (pss_cons (ps_set (i := 2) sc_l_hangs.nd rfl (by first | exact Or.inl rfl | exact Or.inr rfl) (pe_ix ix_tup (pv 0) (pe_op op_sub (pv 2) pe_int) (fun _ _ => rfl)))
    (pss_one (ps_set (i := 3) sc_l_hangs.nd rfl (by first | exact Or.inl rfl | exact Or.inr rfl) (pe_op op_add (pv 3) pe_int)))))
    (pss_one (ps_if (pt_cmpR op_ne (pv 2) pe_int (nomark _)) (pss_one (ps_ret pe_bl)) pss_nil))))))
    (pss_one (ps_ret pe_bl)))

abbrev s_l_word : Stmt := topS 29
theorem sc_l_word : FnScope N_l_word ["_law_act", "_law_thing"] (defScope s_l_word) := ⟨rfl, rfl, rfl, by decide +kernel, rfl, by decide +kernel, by decide +kernel⟩
theorem ok_l_word (D : DF K mg "_law_word" s_l_word ["_law_act", "_law_thing"] a.f_l_word) (T : Txt K mg a) (g_tree_of : Cb P w K mg base (L2.CX P w) 8 "tree_of" a.f_tree_of ["wishes"] (sp_tree_of K a)) (g_wishes_of : Cb P w K mg base (L2.CX P w) 4 "wishes_of" a.f_wishes_of ["tree"] (sp_wishes_of K a)) : Cb P w K mg base CX0 9 "_law_word" a.f_l_word ["_law_act", "_law_thing"] (sp_l_word K a) := by
  obtain ⟨⟨fd, F, bb⟩, gg⟩ := D
  refine ⟨⟨fd, F.ok sc_l_word (fun vs H Q E h => len_l_word h) (fun cdv A outer s H vs Q E hr h => ⟨t_l_word K a, ?_, pu_l_word ⟨exm_of T.g_BerthError T.s_NoTree_BerthError, T.g_NoTree.c, kit_ref T.g_NoCount T.s_NoTree_NoCount, kit_ref T.g_NoOrder T.s_NoTree_NoOrder, kit_ref T.g_NoQuay T.s_NoTree_NoQuay, kit_ref T.g_TooMany T.s_NoTree_TooMany, kit_ref T.g_NoTree T.s_NoTree_NoTree, kit_ref T.g_NoWishes T.s_NoTree_NoWishes⟩ ⟨exm_of T.g_BerthError T.s_NoWishes_BerthError, T.g_NoWishes.c, kit_ref T.g_NoCount T.s_NoWishes_NoCount, kit_ref T.g_NoOrder T.s_NoWishes_NoOrder, kit_ref T.g_NoQuay T.s_NoWishes_NoQuay, kit_ref T.g_TooMany T.s_NoWishes_TooMany, kit_ref T.g_NoTree T.s_NoWishes_NoTree, kit_ref T.g_NoWishes T.s_NoWishes_NoWishes⟩ h⟩), bb⟩, gg, F.kp⟩
  exact (pss_cons (ps_set (i := 2) sc_l_word.nd rfl (by first | exact Or.inl rfl | exact Or.inr rfl) pe_non)
    (pss_cons (ps_try_keep (i := 3) (j := 2) (tb := fun W => (tDrop (tCallD 0 (S_word K a) (WE W) (tCons (tVar 1) tNil)))) rfl rfl rfl sc_l_word.nd rfl rfl ⟨rfl, by decide, .inl T.e_BerthError.g⟩ (fun W pn xe tk _ => (pss_one (ps_expr (pe_callD (kk := 8) (i := 0) (A_word g_tree_of g_wishes_of (by decide) (by decide)) (hr.mono (by decide)) (fun s => passAt tk s) (pa_cons (pv 1) pa_nil))))) (fun _ _ _ _ _ _ _ => pss_one (ps_set (i := 2) sc_l_word.nd rfl (.inl rfl) (pv 3))))
    (pss_cons (ps_set (i := 4) sc_l_word.nd rfl (by first | exact Or.inl rfl | exact Or.inr rfl) (pe_lst (pa_cons (pe_callB call_isiE (by rfl) T.b_isinstance (by decide +kernel) (pa_cons (pv 2) (pa_cons (pe_glob (by rfl) T.e_NoCount.g rfl) pa_nil))) (pa_cons (pe_callB call_isiE (by rfl) T.b_isinstance (by decide +kernel) (pa_cons (pv 2) (pa_cons (pe_glob (by rfl) T.e_NoOrder.g rfl) pa_nil))) (pa_cons (pe_callB call_isiE (by rfl) T.b_isinstance (by decide +kernel) (pa_cons (pv 2) (pa_cons (pe_glob (by rfl) T.e_NoQuay.g rfl) pa_nil))) pa_nil)))))
    (pss_cons (ps_if (PW.pt (pw_or (pt_cmpR op_in_seq pe_bl (pv 4) (by rfl)) (pw_or (pt_val (pe_callB call_isiE (by rfl) T.b_isinstance (by decide +kernel) (pa_cons (pv 2) (pa_cons (pe_glob (by rfl) T.e_TooMany.g rfl) pa_nil)))) (pw_or1 (pt_cmp (pc_isN (pv 2)) rfl))))) (pss_one (ps_ret pe_str)) pss_nil)
    (pss_one (ps_ret (pe_op op_add_str (pe_ix ix_list (pe_lst (pa_cons pe_str (pa_cons pe_str pa_nil))) (pe_callTy call_int1 (by rfl) T.b_int (by decide +kernel) (pa_cons (pe_callB call_isiE (by rfl) T.b_isinstance (by decide +kernel) (pa_cons (pv 2) (pa_cons (pe_glob (by rfl) T.e_NoTree.g rfl) pa_nil))) pa_nil)) (fun _ _ => rfl)) (pe_ix ix_list (pe_lst (pa_cons pe_str (pa_cons pe_str pa_nil))) (pe_callTy call_int1 (by rfl) T.b_int (by decide +kernel) (pa_cons (pe_callB call_isiE (by rfl) T.b_isinstance (by decide +kernel) (pa_cons (pv 2) (pa_cons (pe_glob (by rfl) T.e_NoWishes.g rfl) pa_nil))) pa_nil)) (fun _ _ => rfl)))))))))

abbrev s_law : Stmt := topS 30
theorem sc_law : FnScope N_law ["_law_script"] (defScope s_law) := ⟨rfl, rfl, rfl, by decide +kernel, rfl, by decide +kernel, by decide +kernel⟩
theorem ok_law {f : Addr} {fd : FuncData} (F : Fun K "law" "law" s_law f fd) (T : Txt K mg a) (g_is_good : Cb P w K mg base (L2.CX P w) 6 "is_good" a.f_is_good ["berths", "wishes"] (sp_is_good K a)) (g_tree_of : Cb P w K mg base (L2.CX P w) 8 "tree_of" a.f_tree_of ["wishes"] (sp_tree_of K a)) (g_wishes_of : Cb P w K mg base (L2.CX P w) 4 "wishes_of" a.f_wishes_of ["tree"] (sp_wishes_of K a)) (g_l_cell_at : Cb P w K mg base CX0 1 "_law_cell_at" a.f_l_cell_at ["_law_script", "_law_k"] (sp_l_cell_at K)) (g_l_drawn : Cb P w K mg base CX0 3 "_law_drawn" a.f_l_drawn ["_law_script", "_law_first"] (sp_l_drawn K)) (g_l_hangs : Cb P w K mg base CX0 1 "_law_hangs" a.f_l_hangs ["_law_tree"] (sp_l_hangs K)) (g_l_word : Cb P w K mg base CX0 9 "_law_word" a.f_l_word ["_law_act", "_law_thing"] (sp_l_word K a)) : FnOk P w K mg base CX0 10 f fd ["_law_script"] (sp_law K) := by
  refine F.ok sc_law (fun vs H Q E h => len_law h) (fun cdv A outer s H vs Q E hr h => ⟨t_law K a, ?_, pu_law h⟩)
  exact (pss_cons (ps_for PassesOwn.never rfl (pi_range1 (by rfl) T.b_range (pa_cons (pe_op op_add pe_int (pe_callB (call_min2 rfl) (by rfl) T.b_min (by decide +kernel) (pa_cons pe_int (pa_cons (pe_callB call_len_seq (by rfl) T.b_len (by decide +kernel) (pa_cons (pv 0) pa_nil)) pa_nil)))) pa_nil)) (pg_name (i := 1) sc_law.nd rfl (by first | exact Or.inl rfl | exact Or.inr rfl))
    (pss_cons (ps_set (i := 2) sc_law.nd rfl (by first | exact Or.inl rfl | exact Or.inr rfl) (pe_cb g_l_drawn (hr.mono (by decide)) (by rfl) pass0 (pa_cons (pv 0) (pa_cons (pv 1) pa_nil))))
    (pss_cons (ps_set (i := 3) sc_law.nd rfl (by first | exact Or.inl rfl | exact Or.inr rfl) (pe_cb g_wishes_of (hr.mono (by decide)) (by rfl) passL (pa_cons (pv 2) pa_nil)))
    (pss_cons (ps_if (PW.pt (pw_or (pt_not (pt_val (pe_callB call_isi (by rfl) T.b_isinstance (by decide +kernel) (pa_cons (pv 3) (pa_cons (pe_bltn (by rfl) T.b_tuple (by decide +kernel) rfl) pa_nil))))) (pw_or (pt_cmpR op_ne (pe_callB call_len_seq (by rfl) T.b_len (by decide +kernel) (pa_cons (pv 3) pa_nil)) (pe_callB call_len_seq (by rfl) T.b_len (by decide +kernel) (pa_cons (pv 2) pa_nil)) (nomark _)) (pw_or (pt_not (pt_val (pe_cb g_is_good (hr.mono (by decide)) (by rfl) passL (pa_cons (pe_callB call_len_seq (by rfl) T.b_len (by decide +kernel) (pa_cons (pv 3) pa_nil)) (pa_cons (pv 3) pa_nil))))) (pw_or1 (pt_cmpR (op_neT hr.units) (pe_cb g_tree_of (hr.mono (by decide)) (by rfl) passL (pa_cons (pv 3) pa_nil)) (pv 2) (nomark _))))))) (pss_one (ps_ret pe_bl)) pss_nil)
    (pss_cons (ps_set (i := 4) sc_law.nd rfl (by first | exact Or.inl rfl | exact Or.inr rfl) (pe_cb g_l_cell_at (hr.mono (by decide)) (by rfl) pass0 (pa_cons (pv 0) (pa_cons (pv 1) pa_nil))))
    (pss_cons (ps_set (i := 5) sc_law.nd rfl (by first | exact Or.inl rfl | exact Or.inr rfl) (pe_op op_mod (pv 4) (pe_callB call_len_seq (by rfl) T.b_len (by decide +kernel) (pa_cons (pv 2) pa_nil))))
    (pss_cons (ps_set (i := 6) sc_law.nd rfl (by first | exact Or.inl rfl | exact Or.inr rfl) (pe_op op_catA (pe_op op_catA (pe_slice sl_tupA (pv 2) po_none (po_some (pv 5))) (pe_tup (pa_cons (pe_op op_mod (pe_op op_fdiv (pv 4) pe_int) (pe_op op_add (pe_callB call_len_seq (by rfl) T.b_len (by decide +kernel) (pa_cons (pv 2) pa_nil)) pe_int)) pa_nil))) (pe_slice sl_tupA (pv 2) (po_some (pe_op op_add (pv 5) pe_int)) po_none)))
    (pss_cons (ps_if (PW.pt (pw_and (pt_not (pt_val (pe_cb g_l_hangs (hr.mono (by decide)) (by rfl) pass0 (pa_cons (pv 6) pa_nil)))) (pw_and1 (pt_cmpR op_ne (pe_cb g_l_word (hr.mono (by decide)) (by rfl) pass0 (pa_cons (pe_glob (by rfl) g_wishes_of.g rfl) (pa_cons (pv 6) pa_nil))) pe_str (nomark _))))) (pss_one (ps_ret pe_bl)) pss_nil)
    (pss_cons (ps_if (PW.pt (pw_and (pt_val (pe_cb g_l_hangs (hr.mono (by decide)) (by rfl) pass0 (pa_cons (pv 6) pa_nil))) (pw_and1 (pt_cmpR (op_neT hr.units) (pe_cb g_tree_of (hr.mono (by decide)) (by rfl) passL (pa_cons (pe_cb g_wishes_of (hr.mono (by decide)) (by rfl) passL (pa_cons (pv 6) pa_nil)) pa_nil)) (pv 6) (nomark _))))) (pss_one (ps_ret pe_bl)) pss_nil)
    (pss_cons (ps_set (i := 7) sc_law.nd rfl (by first | exact Or.inl rfl | exact Or.inr rfl) (pe_ix ix_list (pe_lst (pa_cons (pe_op op_add (pv 5) pe_int) (pa_cons (pe_un un_neg pe_int) (pa_cons (pe_op op_add (pe_callB call_len_seq (by rfl) T.b_len (by decide +kernel) (pa_cons (pv 2) pa_nil)) pe_int) (pa_cons pe_non (pa_cons pe_bl (pa_cons pe_str (pa_cons (pe_op op_add (pe_op op_add (pe_callB call_len_seq (by rfl) T.b_len (by decide +kernel) (pa_cons (pv 2) pa_nil)) pe_int) (pe_op op_mod (pv 4) (pe_op op_pow pe_int pe_int))) pa_nil)))))))) (pe_op op_mod (pe_op op_fdiv (pv 4) pe_int) pe_int) (fun _ _ => rfl)))
    (pss_cons (ps_if (pt_cmpR op_ne (pe_cb g_l_word (hr.mono (by decide)) (by rfl) pass0 (pa_cons (pe_glob (by rfl) g_wishes_of.g rfl) (pa_cons (pe_op op_catA (pe_op op_catA (pe_slice sl_tupA (pv 2) po_none (po_some (pv 5))) (pe_tup (pa_cons (pv 7) pa_nil))) (pe_slice sl_tupA (pv 2) (po_some (pe_op op_add (pv 5) pe_int)) po_none)) pa_nil))) pe_str (nomark _)) (pss_one (ps_ret pe_bl)) pss_nil)
    (pss_cons (ps_set (i := 8) sc_law.nd rfl (by first | exact Or.inl rfl | exact Or.inr rfl) (pe_ix ix_list (pe_lst (pa_cons (pe_op op_catA (pe_op op_catA (pe_slice sl_tupA (pv 3) po_none (po_some (pv 5))) (pe_op op_repTA (pe_tup (pa_cons (pe_callB call_len_seq (by rfl) T.b_len (by decide +kernel) (pa_cons (pv 3) pa_nil)) pa_nil)) (pe_op op_add pe_int (pe_callTy call_int1 (by rfl) T.b_int (by decide +kernel) (pa_cons (pe_cmpR op_gt (pe_callB call_len_seq (by rfl) T.b_len (by decide +kernel) (pa_cons (pv 3) pa_nil)) pe_int (nomark _)) pa_nil))))) (pe_slice sl_tupA (pv 3) (po_some (pe_op op_add (pv 5) pe_int)) po_none)) (pa_cons (pe_op op_catA (pe_slice sl_tupA (pv 3) po_none (po_some (pe_un un_neg pe_int))) (pe_tup (pa_cons (pe_op op_add (pe_callB call_len_seq (by rfl) T.b_len (by decide +kernel) (pa_cons (pv 3) pa_nil)) pe_int) pa_nil))) pa_nil))) (pe_op op_mod (pv 4) pe_int) (fun _ _ => rfl)))
    (pss_one (ps_if (PW.pt (pw_or (pt_not (pt_val (pe_cb g_is_good (hr.mono (by decide)) (by rfl) passL (pa_cons pe_int (pa_cons (pv 8) pa_nil))))) (pw_or (pt_cmpR op_gt (pe_callB (cr_maxT rfl hr.units) (by rfl) T.b_max (by decide +kernel) (pa_cons (pv 8) pa_nil)) (pe_callB call_len_seq (by rfl) T.b_len (by decide +kernel) (pa_cons (pv 8) pa_nil)) (nomark _)) (pw_or1 (pt_not (pt_val (pe_cb g_is_good (hr.mono (by decide)) (by rfl) passL (pa_cons (pe_callB call_len_seq (by rfl) T.b_len (by decide +kernel) (pa_cons (pv 8) pa_nil)) (pa_cons (pv 8) pa_nil))))))))) (pss_one (ps_if (pt_cmpR op_ne (pe_cb g_l_word (hr.mono (by decide)) (by rfl) pass0 (pa_cons (pe_glob (by rfl) g_tree_of.g rfl) (pa_cons (pv 8) pa_nil))) pe_str (nomark _)) (pss_one (ps_ret pe_bl)) pss_nil)) pss_nil))))))))))))))
    (pss_cons (ps_for PassesOwn.never rfl (pi_list (pe_lst (pa_cons (pe_tup pa_nil) (pa_cons (pe_lst pa_nil) (pa_cons pe_non (pa_cons pe_int (pa_cons pe_str (pa_cons pe_dnewK (pa_cons (pe_op op_repTA (pe_tup (pa_cons pe_int pa_nil)) pe_int) (pa_cons (pe_lst (pa_cons (pe_lst (pa_cons pe_int pa_nil)) pa_nil)) pa_nil)))))))))) (pg_name (i := 9) sc_law.nd rfl (by first | exact Or.inl rfl | exact Or.inr rfl))
    (pss_one (ps_if (PW.pt (pw_or (pt_cmpR op_ne (pe_cb g_l_word (hr.mono (by decide)) (by rfl) pass0 (pa_cons (pe_glob (by rfl) g_wishes_of.g rfl) (pa_cons (pv 9) pa_nil))) pe_str (nomark _)) (pw_or1 (pt_cmpR op_ne (pe_cb g_l_word (hr.mono (by decide)) (by rfl) pass0 (pa_cons (pe_glob (by rfl) g_tree_of.g rfl) (pa_cons (pv 9) pa_nil))) pe_str (nomark _))))) (pss_one (ps_ret pe_bl)) pss_nil)))
    (pss_one (ps_ret pe_bl))))
end
theorem all_mk {P : Program} {w : World} {K : PySem.W.Frag} {h : Heap} {mg : Str → Option Value} {fa : Addr} (X : K.In h) (G : h.Ns mainGlobals mg) (hfa : mg "law" = some (.ref fa))
    {f_is_number f_is_from_to f_is_row f_check_quay f_check_wishes f_crowded f_is_good f_check_full_row f_tree_of f_p_check_knots f_wishes_of f_l_cell_at f_l_mix f_l_order f_l_drawn f_l_hangs f_l_word f_law e_BerthError e_NoCount e_NoOrder e_NoQuay e_NoTree e_NoWishes e_TooMany : Addr}
    {od_is_number an_is_number od_is_from_to an_is_from_to od_is_row an_is_row od_check_quay an_check_quay od_check_wishes an_check_wishes od_crowded an_crowded od_is_good an_is_good od_check_full_row an_check_full_row od_tree_of an_tree_of od_p_check_knots an_p_check_knots od_wishes_of an_wishes_of od_l_cell_at an_l_cell_at od_l_mix an_l_mix od_l_order an_l_order od_l_drawn an_l_drawn od_l_hangs an_l_hangs od_l_word an_l_word od_law an_law : Option Addr}
    {sl_is_number sl_is_from_to sl_is_row sl_check_quay sl_check_wishes sl_crowded sl_is_good sl_check_full_row sl_tree_of sl_p_check_knots sl_wishes_of sl_l_cell_at sl_l_mix sl_l_order sl_l_drawn sl_l_hangs sl_l_word sl_law : Array (Option Value)}
    {oc_is_number kV_is_number dc_is_number pm_is_number cd_is_number ct_is_number oc_is_from_to kV_is_from_to dc_is_from_to pm_is_from_to cd_is_from_to ct_is_from_to oc_is_row kV_is_row dc_is_row pm_is_row cd_is_row ct_is_row oc_check_quay kV_check_quay dc_check_quay pm_check_quay cd_check_quay ct_check_quay oc_check_wishes kV_check_wishes dc_check_wishes pm_check_wishes cd_check_wishes ct_check_wishes oc_crowded kV_crowded dc_crowded pm_crowded cd_crowded ct_crowded oc_is_good kV_is_good dc_is_good pm_is_good cd_is_good ct_is_good oc_check_full_row kV_check_full_row dc_check_full_row pm_check_full_row cd_check_full_row ct_check_full_row oc_tree_of kV_tree_of dc_tree_of pm_tree_of cd_tree_of ct_tree_of oc_p_check_knots kV_p_check_knots dc_p_check_knots pm_p_check_knots cd_p_check_knots ct_p_check_knots oc_wishes_of kV_wishes_of dc_wishes_of pm_wishes_of cd_wishes_of ct_wishes_of oc_l_cell_at kV_l_cell_at dc_l_cell_at pm_l_cell_at cd_l_cell_at ct_l_cell_at oc_l_mix kV_l_mix dc_l_mix pm_l_mix cd_l_mix ct_l_mix oc_l_order kV_l_order dc_l_order pm_l_order cd_l_order ct_l_order oc_l_drawn kV_l_drawn dc_l_drawn pm_l_drawn cd_l_drawn ct_l_drawn oc_l_hangs kV_l_hangs dc_l_hangs pm_l_hangs cd_l_hangs ct_l_hangs oc_l_word kV_l_word dc_l_word pm_l_word cd_l_word ct_l_word oc_law kV_law dc_law pm_law cd_law ct_law : Value}
    {t_MOST : Tok}
    (a_is_number : PySem.W.nsIn K mainGlobals "is_number" = some (some (.ref f_is_number))) (l_is_number : K.lookup f_is_number = some ⟨oc_is_number, od_is_number, .func (PySem.W.fnOf "is_number" "is_number" (defArgs s_is_number) (defBody s_is_number) (defScope s_is_number) .none kV_is_number dc_is_number pm_is_number an_is_number cd_is_number ct_is_number), sl_is_number⟩) (cI_is_number : PySem.W.codeIn K cd_is_number "is_number" = true) (kI_is_number : PySem.W.keepIn K (.ref f_is_number) = true)
    (a_is_from_to : PySem.W.nsIn K mainGlobals "is_from_to" = some (some (.ref f_is_from_to))) (l_is_from_to : K.lookup f_is_from_to = some ⟨oc_is_from_to, od_is_from_to, .func (PySem.W.fnOf "is_from_to" "is_from_to" (defArgs s_is_from_to) (defBody s_is_from_to) (defScope s_is_from_to) .none kV_is_from_to dc_is_from_to pm_is_from_to an_is_from_to cd_is_from_to ct_is_from_to), sl_is_from_to⟩) (cI_is_from_to : PySem.W.codeIn K cd_is_from_to "is_from_to" = true) (kI_is_from_to : PySem.W.keepIn K (.ref f_is_from_to) = true)
    (a_is_row : PySem.W.nsIn K mainGlobals "is_row" = some (some (.ref f_is_row))) (l_is_row : K.lookup f_is_row = some ⟨oc_is_row, od_is_row, .func (PySem.W.fnOf "is_row" "is_row" (defArgs s_is_row) (defBody s_is_row) (defScope s_is_row) .none kV_is_row dc_is_row pm_is_row an_is_row cd_is_row ct_is_row), sl_is_row⟩) (cI_is_row : PySem.W.codeIn K cd_is_row "is_row" = true) (kI_is_row : PySem.W.keepIn K (.ref f_is_row) = true)
    (a_check_quay : PySem.W.nsIn K mainGlobals "check_quay" = some (some (.ref f_check_quay))) (l_check_quay : K.lookup f_check_quay = some ⟨oc_check_quay, od_check_quay, .func (PySem.W.fnOf "check_quay" "check_quay" (defArgs s_check_quay) (defBody s_check_quay) (defScope s_check_quay) .none kV_check_quay dc_check_quay pm_check_quay an_check_quay cd_check_quay ct_check_quay), sl_check_quay⟩) (cI_check_quay : PySem.W.codeIn K cd_check_quay "check_quay" = true) (kI_check_quay : PySem.W.keepIn K (.ref f_check_quay) = true)
    (a_check_wishes : PySem.W.nsIn K mainGlobals "check_wishes" = some (some (.ref f_check_wishes))) (l_check_wishes : K.lookup f_check_wishes = some ⟨oc_check_wishes, od_check_wishes, .func (PySem.W.fnOf "check_wishes" "check_wishes" (defArgs s_check_wishes) (defBody s_check_wishes) (defScope s_check_wishes) .none kV_check_wishes dc_check_wishes pm_check_wishes an_check_wishes cd_check_wishes ct_check_wishes), sl_check_wishes⟩) (cI_check_wishes : PySem.W.codeIn K cd_check_wishes "check_wishes" = true) (kI_check_wishes : PySem.W.keepIn K (.ref f_check_wishes) = true)
    (a_crowded : PySem.W.nsIn K mainGlobals "crowded" = some (some (.ref f_crowded))) (l_crowded : K.lookup f_crowded = some ⟨oc_crowded, od_crowded, .func (PySem.W.fnOf "crowded" "crowded" (defArgs s_crowded) (defBody s_crowded) (defScope s_crowded) .none kV_crowded dc_crowded pm_crowded an_crowded cd_crowded ct_crowded), sl_crowded⟩) (cI_crowded : PySem.W.codeIn K cd_crowded "crowded" = true) (kI_crowded : PySem.W.keepIn K (.ref f_crowded) = true)
    (a_is_good : PySem.W.nsIn K mainGlobals "is_good" = some (some (.ref f_is_good))) (l_is_good : K.lookup f_is_good = some ⟨oc_is_good, od_is_good, .func (PySem.W.fnOf "is_good" "is_good" (defArgs s_is_good) (defBody s_is_good) (defScope s_is_good) .none kV_is_good dc_is_good pm_is_good an_is_good cd_is_good ct_is_good), sl_is_good⟩) (cI_is_good : PySem.W.codeIn K cd_is_good "is_good" = true) (kI_is_good : PySem.W.keepIn K (.ref f_is_good) = true)
    (a_check_full_row : PySem.W.nsIn K mainGlobals "check_full_row" = some (some (.ref f_check_full_row))) (l_check_full_row : K.lookup f_check_full_row = some ⟨oc_check_full_row, od_check_full_row, .func (PySem.W.fnOf "check_full_row" "check_full_row" (defArgs s_check_full_row) (defBody s_check_full_row) (defScope s_check_full_row) .none kV_check_full_row dc_check_full_row pm_check_full_row an_check_full_row cd_check_full_row ct_check_full_row), sl_check_full_row⟩) (cI_check_full_row : PySem.W.codeIn K cd_check_full_row "check_full_row" = true) (kI_check_full_row : PySem.W.keepIn K (.ref f_check_full_row) = true)
    (a_tree_of : PySem.W.nsIn K mainGlobals "tree_of" = some (some (.ref f_tree_of))) (l_tree_of : K.lookup f_tree_of = some ⟨oc_tree_of, od_tree_of, .func (PySem.W.fnOf "tree_of" "tree_of" (defArgs s_tree_of) (defBody s_tree_of) (defScope s_tree_of) .none kV_tree_of dc_tree_of pm_tree_of an_tree_of cd_tree_of ct_tree_of), sl_tree_of⟩) (cI_tree_of : PySem.W.codeIn K cd_tree_of "tree_of" = true) (kI_tree_of : PySem.W.keepIn K (.ref f_tree_of) = true)
    (a_p_check_knots : PySem.W.nsIn K mainGlobals "_check_knots" = some (some (.ref f_p_check_knots))) (l_p_check_knots : K.lookup f_p_check_knots = some ⟨oc_p_check_knots, od_p_check_knots, .func (PySem.W.fnOf "_check_knots" "_check_knots" (defArgs s_p_check_knots) (defBody s_p_check_knots) (defScope s_p_check_knots) .none kV_p_check_knots dc_p_check_knots pm_p_check_knots an_p_check_knots cd_p_check_knots ct_p_check_knots), sl_p_check_knots⟩) (cI_p_check_knots : PySem.W.codeIn K cd_p_check_knots "_check_knots" = true) (kI_p_check_knots : PySem.W.keepIn K (.ref f_p_check_knots) = true)
    (a_wishes_of : PySem.W.nsIn K mainGlobals "wishes_of" = some (some (.ref f_wishes_of))) (l_wishes_of : K.lookup f_wishes_of = some ⟨oc_wishes_of, od_wishes_of, .func (PySem.W.fnOf "wishes_of" "wishes_of" (defArgs s_wishes_of) (defBody s_wishes_of) (defScope s_wishes_of) .none kV_wishes_of dc_wishes_of pm_wishes_of an_wishes_of cd_wishes_of ct_wishes_of), sl_wishes_of⟩) (cI_wishes_of : PySem.W.codeIn K cd_wishes_of "wishes_of" = true) (kI_wishes_of : PySem.W.keepIn K (.ref f_wishes_of) = true)
    (a_l_cell_at : PySem.W.nsIn K mainGlobals "_law_cell_at" = some (some (.ref f_l_cell_at))) (l_l_cell_at : K.lookup f_l_cell_at = some ⟨oc_l_cell_at, od_l_cell_at, .func (PySem.W.fnOf "_law_cell_at" "_law_cell_at" (defArgs s_l_cell_at) (defBody s_l_cell_at) (defScope s_l_cell_at) .none kV_l_cell_at dc_l_cell_at pm_l_cell_at an_l_cell_at cd_l_cell_at ct_l_cell_at), sl_l_cell_at⟩) (cI_l_cell_at : PySem.W.codeIn K cd_l_cell_at "_law_cell_at" = true) (kI_l_cell_at : PySem.W.keepIn K (.ref f_l_cell_at) = true)
    (a_l_mix : PySem.W.nsIn K mainGlobals "_law_mix" = some (some (.ref f_l_mix))) (l_l_mix : K.lookup f_l_mix = some ⟨oc_l_mix, od_l_mix, .func (PySem.W.fnOf "_law_mix" "_law_mix" (defArgs s_l_mix) (defBody s_l_mix) (defScope s_l_mix) .none kV_l_mix dc_l_mix pm_l_mix an_l_mix cd_l_mix ct_l_mix), sl_l_mix⟩) (cI_l_mix : PySem.W.codeIn K cd_l_mix "_law_mix" = true) (kI_l_mix : PySem.W.keepIn K (.ref f_l_mix) = true)
    (a_l_order : PySem.W.nsIn K mainGlobals "_law_order" = some (some (.ref f_l_order))) (l_l_order : K.lookup f_l_order = some ⟨oc_l_order, od_l_order, .func (PySem.W.fnOf "_law_order" "_law_order" (defArgs s_l_order) (defBody s_l_order) (defScope s_l_order) .none kV_l_order dc_l_order pm_l_order an_l_order cd_l_order ct_l_order), sl_l_order⟩) (cI_l_order : PySem.W.codeIn K cd_l_order "_law_order" = true) (kI_l_order : PySem.W.keepIn K (.ref f_l_order) = true)
    (a_l_drawn : PySem.W.nsIn K mainGlobals "_law_drawn" = some (some (.ref f_l_drawn))) (l_l_drawn : K.lookup f_l_drawn = some ⟨oc_l_drawn, od_l_drawn, .func (PySem.W.fnOf "_law_drawn" "_law_drawn" (defArgs s_l_drawn) (defBody s_l_drawn) (defScope s_l_drawn) .none kV_l_drawn dc_l_drawn pm_l_drawn an_l_drawn cd_l_drawn ct_l_drawn), sl_l_drawn⟩) (cI_l_drawn : PySem.W.codeIn K cd_l_drawn "_law_drawn" = true) (kI_l_drawn : PySem.W.keepIn K (.ref f_l_drawn) = true)
    (a_l_hangs : PySem.W.nsIn K mainGlobals "_law_hangs" = some (some (.ref f_l_hangs))) (l_l_hangs : K.lookup f_l_hangs = some ⟨oc_l_hangs, od_l_hangs, .func (PySem.W.fnOf "_law_hangs" "_law_hangs" (defArgs s_l_hangs) (defBody s_l_hangs) (defScope s_l_hangs) .none kV_l_hangs dc_l_hangs pm_l_hangs an_l_hangs cd_l_hangs ct_l_hangs), sl_l_hangs⟩) (cI_l_hangs : PySem.W.codeIn K cd_l_hangs "_law_hangs" = true) (kI_l_hangs : PySem.W.keepIn K (.ref f_l_hangs) = true)
    (a_l_word : PySem.W.nsIn K mainGlobals "_law_word" = some (some (.ref f_l_word))) (l_l_word : K.lookup f_l_word = some ⟨oc_l_word, od_l_word, .func (PySem.W.fnOf "_law_word" "_law_word" (defArgs s_l_word) (defBody s_l_word) (defScope s_l_word) .none kV_l_word dc_l_word pm_l_word an_l_word cd_l_word ct_l_word), sl_l_word⟩) (cI_l_word : PySem.W.codeIn K cd_l_word "_law_word" = true) (kI_l_word : PySem.W.keepIn K (.ref f_l_word) = true)
    (a_law : PySem.W.nsIn K mainGlobals "law" = some (some (.ref f_law))) (l_law : K.lookup f_law = some ⟨oc_law, od_law, .func (PySem.W.fnOf "law" "law" (defArgs s_law) (defBody s_law) (defScope s_law) .none kV_law dc_law pm_law an_law cd_law ct_law), sl_law⟩) (cI_law : PySem.W.codeIn K cd_law "law" = true) (kI_law : PySem.W.keepIn K (.ref f_law) = true)
    (z_enumerate : PySem.W.nsIn K mainGlobals "enumerate" = some none)
    (z_int : PySem.W.nsIn K mainGlobals "int" = some none)
    (z_isinstance : PySem.W.nsIn K mainGlobals "isinstance" = some none)
    (z_len : PySem.W.nsIn K mainGlobals "len" = some none)
    (z_list : PySem.W.nsIn K mainGlobals "list" = some none)
    (z_max : PySem.W.nsIn K mainGlobals "max" = some none)
    (z_min : PySem.W.nsIn K mainGlobals "min" = some none)
    (z_range : PySem.W.nsIn K mainGlobals "range" = some none)
    (z_tuple : PySem.W.nsIn K mainGlobals "tuple" = some none)
    (z_type : PySem.W.nsIn K mainGlobals "type" = some none)
    (y_MOST : PySem.W.nsIn K mainGlobals "MOST" = some (some (.int 400 t_MOST)))
    (xg_BerthError : PySem.W.nsIn K mainGlobals "BerthError" = some (some (.ref e_BerthError)))
    (xx_BerthError : PySem.W.excIn K e_BerthError [.type "ValueError", .type "Exception", .type "BaseException", .type "object"] "ValueError.__new__" = true)
    (xk_BerthError : PySem.W.keepIn K (.ref e_BerthError) = true)
    (xb_BerthError : PySem.W.subIn K (.ref e_BerthError) (.type "BaseException") = some true)
    (xt_BerthError : PySem.W.typeIn K (.ref e_BerthError) = some (.type "type"))
    (xg_NoCount : PySem.W.nsIn K mainGlobals "NoCount" = some (some (.ref e_NoCount)))
    (xx_NoCount : PySem.W.excIn K e_NoCount [.type "ValueError", .type "Exception", .type "BaseException", .type "object"] "ValueError.__new__" = true)
    (xk_NoCount : PySem.W.keepIn K (.ref e_NoCount) = true)
    (xb_NoCount : PySem.W.subIn K (.ref e_NoCount) (.type "BaseException") = some true)
    (xt_NoCount : PySem.W.typeIn K (.ref e_NoCount) = some (.type "type"))
    (xg_NoOrder : PySem.W.nsIn K mainGlobals "NoOrder" = some (some (.ref e_NoOrder)))
    (xx_NoOrder : PySem.W.excIn K e_NoOrder [.type "ValueError", .type "Exception", .type "BaseException", .type "object"] "ValueError.__new__" = true)
    (xk_NoOrder : PySem.W.keepIn K (.ref e_NoOrder) = true)
    (xb_NoOrder : PySem.W.subIn K (.ref e_NoOrder) (.type "BaseException") = some true)
    (xt_NoOrder : PySem.W.typeIn K (.ref e_NoOrder) = some (.type "type"))
    (xg_NoQuay : PySem.W.nsIn K mainGlobals "NoQuay" = some (some (.ref e_NoQuay)))
    (xx_NoQuay : PySem.W.excIn K e_NoQuay [.type "ValueError", .type "Exception", .type "BaseException", .type "object"] "ValueError.__new__" = true)
    (xk_NoQuay : PySem.W.keepIn K (.ref e_NoQuay) = true)
    (xb_NoQuay : PySem.W.subIn K (.ref e_NoQuay) (.type "BaseException") = some true)
    (xt_NoQuay : PySem.W.typeIn K (.ref e_NoQuay) = some (.type "type"))
    (xg_NoTree : PySem.W.nsIn K mainGlobals "NoTree" = some (some (.ref e_NoTree)))
    (xx_NoTree : PySem.W.excIn K e_NoTree [.type "ValueError", .type "Exception", .type "BaseException", .type "object"] "ValueError.__new__" = true)
    (xk_NoTree : PySem.W.keepIn K (.ref e_NoTree) = true)
    (xb_NoTree : PySem.W.subIn K (.ref e_NoTree) (.type "BaseException") = some true)
    (xt_NoTree : PySem.W.typeIn K (.ref e_NoTree) = some (.type "type"))
    (xg_NoWishes : PySem.W.nsIn K mainGlobals "NoWishes" = some (some (.ref e_NoWishes)))
    (xx_NoWishes : PySem.W.excIn K e_NoWishes [.type "ValueError", .type "Exception", .type "BaseException", .type "object"] "ValueError.__new__" = true)
    (xk_NoWishes : PySem.W.keepIn K (.ref e_NoWishes) = true)
    (xb_NoWishes : PySem.W.subIn K (.ref e_NoWishes) (.type "BaseException") = some true)
    (xt_NoWishes : PySem.W.typeIn K (.ref e_NoWishes) = some (.type "type"))
    (xg_TooMany : PySem.W.nsIn K mainGlobals "TooMany" = some (some (.ref e_TooMany)))
    (xx_TooMany : PySem.W.excIn K e_TooMany [.type "ValueError", .type "Exception", .type "BaseException", .type "object"] "ValueError.__new__" = true)
    (xk_TooMany : PySem.W.keepIn K (.ref e_TooMany) = true)
    (xb_TooMany : PySem.W.subIn K (.ref e_TooMany) (.type "BaseException") = some true)
    (xt_TooMany : PySem.W.typeIn K (.ref e_TooMany) = some (.type "type"))
    (v_hn : PySem.W.specialIn K (.builtin "object.__class__") "__get__" = some (some (.builtin "getset_descriptor.__get__")))
    (v_ht : PySem.W.takesIn K (.builtin "object.__class__") = some true)
    (vhg_BerthError : PySem.W.findIn K (.ref e_BerthError) "__getattribute__" = some (some (.builtin "BaseException.__getattribute__")))
    (vhk_BerthError : PySem.W.findIn K (.ref e_BerthError) "__getattr__" = some none)
    (vhs_BerthError : PySem.W.subIn K (.ref e_BerthError) (.type "BaseException") = some true)
    (vhd_BerthError : PySem.W.hasDictIn K e_BerthError = true)
    (vha_BerthError : PySem.W.findIn K (.ref e_BerthError) "__class__" = some (some (.builtin "object.__class__")))
    (vhm_BerthError : PySem.W.mroIn K e_BerthError (.type "object") = some true)
    (vty_BerthError : PySem.W.typeIn K (.ref e_BerthError) = some (.type "type"))
    (vse_BerthError : PySem.W.subIn K (.ref e_BerthError) (.ref e_BerthError) = some true)
    (vhg_NoQuay : PySem.W.findIn K (.ref e_NoQuay) "__getattribute__" = some (some (.builtin "BaseException.__getattribute__")))
    (vhk_NoQuay : PySem.W.findIn K (.ref e_NoQuay) "__getattr__" = some none)
    (vhs_NoQuay : PySem.W.subIn K (.ref e_NoQuay) (.type "BaseException") = some true)
    (vhd_NoQuay : PySem.W.hasDictIn K e_NoQuay = true)
    (vha_NoQuay : PySem.W.findIn K (.ref e_NoQuay) "__class__" = some (some (.builtin "object.__class__")))
    (vhm_NoQuay : PySem.W.mroIn K e_NoQuay (.type "object") = some true)
    (vty_NoQuay : PySem.W.typeIn K (.ref e_NoQuay) = some (.type "type"))
    (vse_NoQuay : PySem.W.subIn K (.ref e_NoQuay) (.ref e_NoQuay) = some true)
    (vhg_NoWishes : PySem.W.findIn K (.ref e_NoWishes) "__getattribute__" = some (some (.builtin "BaseException.__getattribute__")))
    (vhk_NoWishes : PySem.W.findIn K (.ref e_NoWishes) "__getattr__" = some none)
    (vhs_NoWishes : PySem.W.subIn K (.ref e_NoWishes) (.type "BaseException") = some true)
    (vhd_NoWishes : PySem.W.hasDictIn K e_NoWishes = true)
    (vha_NoWishes : PySem.W.findIn K (.ref e_NoWishes) "__class__" = some (some (.builtin "object.__class__")))
    (vhm_NoWishes : PySem.W.mroIn K e_NoWishes (.type "object") = some true)
    (vty_NoWishes : PySem.W.typeIn K (.ref e_NoWishes) = some (.type "type"))
    (vse_NoWishes : PySem.W.subIn K (.ref e_NoWishes) (.ref e_NoWishes) = some true)
    (vhg_TooMany : PySem.W.findIn K (.ref e_TooMany) "__getattribute__" = some (some (.builtin "BaseException.__getattribute__")))
    (vhk_TooMany : PySem.W.findIn K (.ref e_TooMany) "__getattr__" = some none)
    (vhs_TooMany : PySem.W.subIn K (.ref e_TooMany) (.type "BaseException") = some true)
    (vhd_TooMany : PySem.W.hasDictIn K e_TooMany = true)
    (vha_TooMany : PySem.W.findIn K (.ref e_TooMany) "__class__" = some (some (.builtin "object.__class__")))
    (vhm_TooMany : PySem.W.mroIn K e_TooMany (.type "object") = some true)
    (vty_TooMany : PySem.W.typeIn K (.ref e_TooMany) = some (.type "type"))
    (vse_TooMany : PySem.W.subIn K (.ref e_TooMany) (.ref e_TooMany) = some true)
    (vhg_NoCount : PySem.W.findIn K (.ref e_NoCount) "__getattribute__" = some (some (.builtin "BaseException.__getattribute__")))
    (vhk_NoCount : PySem.W.findIn K (.ref e_NoCount) "__getattr__" = some none)
    (vhs_NoCount : PySem.W.subIn K (.ref e_NoCount) (.type "BaseException") = some true)
    (vhd_NoCount : PySem.W.hasDictIn K e_NoCount = true)
    (vha_NoCount : PySem.W.findIn K (.ref e_NoCount) "__class__" = some (some (.builtin "object.__class__")))
    (vhm_NoCount : PySem.W.mroIn K e_NoCount (.type "object") = some true)
    (vty_NoCount : PySem.W.typeIn K (.ref e_NoCount) = some (.type "type"))
    (vse_NoCount : PySem.W.subIn K (.ref e_NoCount) (.ref e_NoCount) = some true)
    (vhg_NoTree : PySem.W.findIn K (.ref e_NoTree) "__getattribute__" = some (some (.builtin "BaseException.__getattribute__")))
    (vhk_NoTree : PySem.W.findIn K (.ref e_NoTree) "__getattr__" = some none)
    (vhs_NoTree : PySem.W.subIn K (.ref e_NoTree) (.type "BaseException") = some true)
    (vhd_NoTree : PySem.W.hasDictIn K e_NoTree = true)
    (vha_NoTree : PySem.W.findIn K (.ref e_NoTree) "__class__" = some (some (.builtin "object.__class__")))
    (vhm_NoTree : PySem.W.mroIn K e_NoTree (.type "object") = some true)
    (vty_NoTree : PySem.W.typeIn K (.ref e_NoTree) = some (.type "type"))
    (vse_NoTree : PySem.W.subIn K (.ref e_NoTree) (.ref e_NoTree) = some true)
    (vhg_NoOrder : PySem.W.findIn K (.ref e_NoOrder) "__getattribute__" = some (some (.builtin "BaseException.__getattribute__")))
    (vhk_NoOrder : PySem.W.findIn K (.ref e_NoOrder) "__getattr__" = some none)
    (vhs_NoOrder : PySem.W.subIn K (.ref e_NoOrder) (.type "BaseException") = some true)
    (vhd_NoOrder : PySem.W.hasDictIn K e_NoOrder = true)
    (vha_NoOrder : PySem.W.findIn K (.ref e_NoOrder) "__class__" = some (some (.builtin "object.__class__")))
    (vhm_NoOrder : PySem.W.mroIn K e_NoOrder (.type "object") = some true)
    (vty_NoOrder : PySem.W.typeIn K (.ref e_NoOrder) = some (.type "type"))
    (vse_NoOrder : PySem.W.subIn K (.ref e_NoOrder) (.ref e_NoOrder) = some true)
    (w_NoTree_BerthError : PySem.W.subIn K (.ref e_NoTree) (.ref e_BerthError) = some true)
    (w_NoTree_NoOrder : PySem.W.subIn K (.ref e_NoTree) (.ref e_NoOrder) = some false)
    (w_NoTree_NoTree : PySem.W.subIn K (.ref e_NoTree) (.ref e_NoTree) = some true)
    (w_NoTree_NoWishes : PySem.W.subIn K (.ref e_NoTree) (.ref e_NoWishes) = some false)
    (w_NoTree_TooMany : PySem.W.subIn K (.ref e_NoTree) (.ref e_TooMany) = some false)
    (w_NoTree_NoQuay : PySem.W.subIn K (.ref e_NoTree) (.ref e_NoQuay) = some false)
    (w_NoTree_NoCount : PySem.W.subIn K (.ref e_NoTree) (.ref e_NoCount) = some false)
    (w_NoWishes_BerthError : PySem.W.subIn K (.ref e_NoWishes) (.ref e_BerthError) = some true)
    (w_NoWishes_NoOrder : PySem.W.subIn K (.ref e_NoWishes) (.ref e_NoOrder) = some false)
    (w_NoWishes_NoTree : PySem.W.subIn K (.ref e_NoWishes) (.ref e_NoTree) = some false)
    (w_NoWishes_NoWishes : PySem.W.subIn K (.ref e_NoWishes) (.ref e_NoWishes) = some true)
    (w_NoWishes_TooMany : PySem.W.subIn K (.ref e_NoWishes) (.ref e_TooMany) = some false)
    (w_NoWishes_NoQuay : PySem.W.subIn K (.ref e_NoWishes) (.ref e_NoQuay) = some false)
    (w_NoWishes_NoCount : PySem.W.subIn K (.ref e_NoWishes) (.ref e_NoCount) = some false)
    : ∃ fd : FuncData, (∀ (s : Shared) (v : Value), BindsTo s fd ⟨[v], []⟩ [("_law_script", v)]) ∧ ∀ base : Heap, K.In base → base.Ns mainGlobals mg → FnOk P w K mg base CX0 10 fa fd ["_law_script"] (sp_law K) := by
  have e := hfa.symm.trans (PySem.W.mg_of X G a_law)
  cases e
  have T : Txt K mg ({ f_is_number := f_is_number, f_is_from_to := f_is_from_to, f_is_row := f_is_row, f_check_quay := f_check_quay, f_check_wishes := f_check_wishes, f_crowded := f_crowded, f_is_good := f_is_good, f_check_full_row := f_check_full_row, f_tree_of := f_tree_of, f_p_check_knots := f_p_check_knots, f_wishes_of := f_wishes_of, f_l_cell_at := f_l_cell_at, f_l_mix := f_l_mix, f_l_order := f_l_order, f_l_drawn := f_l_drawn, f_l_hangs := f_l_hangs, f_l_word := f_l_word, e_BerthError := e_BerthError, e_NoCount := e_NoCount, e_NoOrder := e_NoOrder, e_NoQuay := e_NoQuay, e_NoTree := e_NoTree, e_NoWishes := e_NoWishes, e_TooMany := e_TooMany } : Ad) := ⟨trivial,
    PySem.W.mg_none_of X G z_enumerate,
    PySem.W.mg_none_of X G z_int,
    PySem.W.mg_none_of X G z_isinstance,
    PySem.W.mg_none_of X G z_len,
    PySem.W.mg_none_of X G z_list,
    PySem.W.mg_none_of X G z_max,
    PySem.W.mg_none_of X G z_min,
    PySem.W.mg_none_of X G z_range,
    PySem.W.mg_none_of X G z_tuple,
    PySem.W.mg_none_of X G z_type,
    ⟨_, PySem.W.mg_of X G y_MOST, ⟨_, rfl⟩⟩,
    ⟨PySem.W.mg_of X G xg_BerthError, xx_BerthError, xk_BerthError, xb_BerthError, xt_BerthError⟩,
    ⟨PySem.W.mg_of X G xg_NoCount, xx_NoCount, xk_NoCount, xb_NoCount, xt_NoCount⟩,
    ⟨PySem.W.mg_of X G xg_NoOrder, xx_NoOrder, xk_NoOrder, xb_NoOrder, xt_NoOrder⟩,
    ⟨PySem.W.mg_of X G xg_NoQuay, xx_NoQuay, xk_NoQuay, xb_NoQuay, xt_NoQuay⟩,
    ⟨PySem.W.mg_of X G xg_NoTree, xx_NoTree, xk_NoTree, xb_NoTree, xt_NoTree⟩,
    ⟨PySem.W.mg_of X G xg_NoWishes, xx_NoWishes, xk_NoWishes, xb_NoWishes, xt_NoWishes⟩,
    ⟨PySem.W.mg_of X G xg_TooMany, xx_TooMany, xk_TooMany, xb_TooMany, xt_TooMany⟩,
    ⟨⟨vhg_BerthError, vhk_BerthError, vhs_BerthError, vhd_BerthError, vha_BerthError, v_hn, v_ht, vhm_BerthError⟩, vty_BerthError, vse_BerthError⟩,
    ⟨⟨vhg_NoQuay, vhk_NoQuay, vhs_NoQuay, vhd_NoQuay, vha_NoQuay, v_hn, v_ht, vhm_NoQuay⟩, vty_NoQuay, vse_NoQuay⟩,
    ⟨⟨vhg_NoWishes, vhk_NoWishes, vhs_NoWishes, vhd_NoWishes, vha_NoWishes, v_hn, v_ht, vhm_NoWishes⟩, vty_NoWishes, vse_NoWishes⟩,
    ⟨⟨vhg_TooMany, vhk_TooMany, vhs_TooMany, vhd_TooMany, vha_TooMany, v_hn, v_ht, vhm_TooMany⟩, vty_TooMany, vse_TooMany⟩,
    ⟨⟨vhg_NoCount, vhk_NoCount, vhs_NoCount, vhd_NoCount, vha_NoCount, v_hn, v_ht, vhm_NoCount⟩, vty_NoCount, vse_NoCount⟩,
    ⟨⟨vhg_NoTree, vhk_NoTree, vhs_NoTree, vhd_NoTree, vha_NoTree, v_hn, v_ht, vhm_NoTree⟩, vty_NoTree, vse_NoTree⟩,
    ⟨⟨vhg_NoOrder, vhk_NoOrder, vhs_NoOrder, vhd_NoOrder, vha_NoOrder, v_hn, v_ht, vhm_NoOrder⟩, vty_NoOrder, vse_NoOrder⟩,
    w_NoTree_BerthError,
    w_NoTree_NoOrder,
    w_NoTree_NoTree,
    w_NoTree_NoWishes,
    w_NoTree_TooMany,
    w_NoTree_NoQuay,
    w_NoTree_NoCount,
    w_NoWishes_BerthError,
    w_NoWishes_NoOrder,
    w_NoWishes_NoTree,
    w_NoWishes_NoWishes,
    w_NoWishes_TooMany,
    w_NoWishes_NoQuay,
    w_NoWishes_NoCount⟩
  have D_is_number : DF K mg "is_number" s_is_number ["thing"] f_is_number := df_mk (fun_mk (st := s_is_number) l_is_number cI_is_number kI_is_number) (fun _ _ _ _ _ _ us hl => match us, hl with | [_], _ => rfl) (PySem.W.mg_of X G a_is_number)
  have D_is_from_to : DF K mg "is_from_to" s_is_from_to ["low", "high", "thing"] f_is_from_to := df_mk (fun_mk (st := s_is_from_to) l_is_from_to cI_is_from_to kI_is_from_to) (fun _ _ _ _ _ _ us hl => match us, hl with | [_, _, _], _ => rfl) (PySem.W.mg_of X G a_is_from_to)
  have D_is_row : DF K mg "is_row" s_is_row ["thing"] f_is_row := df_mk (fun_mk (st := s_is_row) l_is_row cI_is_row kI_is_row) (fun _ _ _ _ _ _ us hl => match us, hl with | [_], _ => rfl) (PySem.W.mg_of X G a_is_row)
  have D_check_quay : DF K mg "check_quay" s_check_quay ["berths"] f_check_quay := df_mk (fun_mk (st := s_check_quay) l_check_quay cI_check_quay kI_check_quay) (fun _ _ _ _ _ _ us hl => match us, hl with | [_], _ => rfl) (PySem.W.mg_of X G a_check_quay)
  have D_check_wishes : DF K mg "check_wishes" s_check_wishes ["berths", "wishes"] f_check_wishes := df_mk (fun_mk (st := s_check_wishes) l_check_wishes cI_check_wishes kI_check_wishes) (fun _ _ _ _ _ _ us hl => match us, hl with | [_, _], _ => rfl) (PySem.W.mg_of X G a_check_wishes)
  have D_crowded : DF K mg "crowded" s_crowded ["berths", "wishes"] f_crowded := df_mk (fun_mk (st := s_crowded) l_crowded cI_crowded kI_crowded) (fun _ _ _ _ _ _ us hl => match us, hl with | [_, _], _ => rfl) (PySem.W.mg_of X G a_crowded)
  have D_is_good : DF K mg "is_good" s_is_good ["berths", "wishes"] f_is_good := df_mk (fun_mk (st := s_is_good) l_is_good cI_is_good kI_is_good) (fun _ _ _ _ _ _ us hl => match us, hl with | [_, _], _ => rfl) (PySem.W.mg_of X G a_is_good)
  have D_check_full_row : DF K mg "check_full_row" s_check_full_row ["wishes"] f_check_full_row := df_mk (fun_mk (st := s_check_full_row) l_check_full_row cI_check_full_row kI_check_full_row) (fun _ _ _ _ _ _ us hl => match us, hl with | [_], _ => rfl) (PySem.W.mg_of X G a_check_full_row)
  have D_tree_of : DF K mg "tree_of" s_tree_of ["wishes"] f_tree_of := df_mk (fun_mk (st := s_tree_of) l_tree_of cI_tree_of kI_tree_of) (fun _ _ _ _ _ _ us hl => match us, hl with | [_], _ => rfl) (PySem.W.mg_of X G a_tree_of)
  have D_p_check_knots : DF K mg "_check_knots" s_p_check_knots ["tree"] f_p_check_knots := df_mk (fun_mk (st := s_p_check_knots) l_p_check_knots cI_p_check_knots kI_p_check_knots) (fun _ _ _ _ _ _ us hl => match us, hl with | [_], _ => rfl) (PySem.W.mg_of X G a_p_check_knots)
  have D_wishes_of : DF K mg "wishes_of" s_wishes_of ["tree"] f_wishes_of := df_mk (fun_mk (st := s_wishes_of) l_wishes_of cI_wishes_of kI_wishes_of) (fun _ _ _ _ _ _ us hl => match us, hl with | [_], _ => rfl) (PySem.W.mg_of X G a_wishes_of)
  have D_l_cell_at : DF K mg "_law_cell_at" s_l_cell_at ["_law_script", "_law_k"] f_l_cell_at := df_mk (fun_mk (st := s_l_cell_at) l_l_cell_at cI_l_cell_at kI_l_cell_at) (fun _ _ _ _ _ _ us hl => match us, hl with | [_, _], _ => rfl) (PySem.W.mg_of X G a_l_cell_at)
  have D_l_mix : DF K mg "_law_mix" s_l_mix ["_law_state", "_law_cell"] f_l_mix := df_mk (fun_mk (st := s_l_mix) l_l_mix cI_l_mix kI_l_mix) (fun _ _ _ _ _ _ us hl => match us, hl with | [_, _], _ => rfl) (PySem.W.mg_of X G a_l_mix)
  have D_l_order : DF K mg "_law_order" s_l_order ["_law_script", "_law_many", "_law_first"] f_l_order := df_mk (fun_mk (st := s_l_order) l_l_order cI_l_order kI_l_order) (fun _ _ _ _ _ _ us hl => match us, hl with | [_, _, _], _ => rfl) (PySem.W.mg_of X G a_l_order)
  have D_l_drawn : DF K mg "_law_drawn" s_l_drawn ["_law_script", "_law_first"] f_l_drawn := df_mk (fun_mk (st := s_l_drawn) l_l_drawn cI_l_drawn kI_l_drawn) (fun _ _ _ _ _ _ us hl => match us, hl with | [_, _], _ => rfl) (PySem.W.mg_of X G a_l_drawn)
  have D_l_hangs : DF K mg "_law_hangs" s_l_hangs ["_law_tree"] f_l_hangs := df_mk (fun_mk (st := s_l_hangs) l_l_hangs cI_l_hangs kI_l_hangs) (fun _ _ _ _ _ _ us hl => match us, hl with | [_], _ => rfl) (PySem.W.mg_of X G a_l_hangs)
  have D_l_word : DF K mg "_law_word" s_l_word ["_law_act", "_law_thing"] f_l_word := df_mk (fun_mk (st := s_l_word) l_l_word cI_l_word kI_l_word) (fun _ _ _ _ _ _ us hl => match us, hl with | [_, _], _ => rfl) (PySem.W.mg_of X G a_l_word)
  refine ⟨PySem.W.fnOf "law" "law" (defArgs s_law) (defBody s_law) (defScope s_law) .none kV_law dc_law pm_law an_law cd_law ct_law, fun s v => .of_eq rfl, fun base _ _ => ?_⟩
  have g_is_number := ok_is_number (P := P) (w := w) (base := base) D_is_number T
  have g_is_from_to := ok_is_from_to (P := P) (w := w) (base := base) D_is_from_to T g_is_number
  have g_is_row := ok_is_row (P := P) (w := w) (base := base) D_is_row T
  have g_check_quay := ok_check_quay (P := P) (w := w) (base := base) D_check_quay T g_is_from_to
  have g_check_wishes := ok_check_wishes (P := P) (w := w) (base := base) D_check_wishes T g_is_from_to g_is_row g_check_quay
  have g_crowded := ok_crowded (P := P) (w := w) (base := base) D_crowded T g_check_wishes
  have g_is_good := ok_is_good (P := P) (w := w) (base := base) D_is_good T g_crowded
  have g_check_full_row := ok_check_full_row (P := P) (w := w) (base := base) D_check_full_row T g_is_row g_is_good
  have g_tree_of := ok_tree_of (P := P) (w := w) (base := base) D_tree_of T g_check_full_row
  have g_p_check_knots := ok_p_check_knots (P := P) (w := w) (base := base) D_p_check_knots T g_is_from_to g_is_row
  have g_wishes_of := ok_wishes_of (P := P) (w := w) (base := base) D_wishes_of T g_p_check_knots
  have g_l_cell_at := ok_l_cell_at (P := P) (w := w) (base := base) D_l_cell_at T
  have g_l_mix := ok_l_mix (P := P) (w := w) (base := base) D_l_mix T
  have g_l_order := ok_l_order (P := P) (w := w) (base := base) D_l_order T g_l_cell_at g_l_mix
  have g_l_drawn := ok_l_drawn (P := P) (w := w) (base := base) D_l_drawn T g_l_cell_at g_l_mix g_l_order
  have g_l_hangs := ok_l_hangs (P := P) (w := w) (base := base) D_l_hangs T
  have g_l_word := ok_l_word (P := P) (w := w) (base := base) D_l_word T g_tree_of g_wishes_of
  exact ok_law (fun_mk (st := s_law) l_law cI_law kI_law) T g_is_good g_tree_of g_wishes_of g_l_cell_at g_l_drawn g_l_hangs g_l_word
end Br
open PySem PySem.W PyProof.Rows
set_option maxHeartbeats 0 in
theorem PySem.Challenge.cw_berthrow_k10_whole_rows_of_trees_holds : PySem.Challenge.rw_berthrow_k10_whole_rows_of_trees.Holds := by
  w_on; o_law; k_head; (case hw => w_witness2)
  k_fill
  refine L2.walk_of (l := PySem.Challenge.rw_berthrow_k10_whole_rows_of_trees) (n := 63) (k := 10) (x := "_law_script") (CX := fun _ => L2.CX0) (sp := fun w => Br.sp_law _) rfl (by decide) rfl ⟨rfl, by decide, by decide⟩ (fun w h Y => PySem.W.kIn_of Y) ?F (fun _ _ a ns hl _ hS => ⟨a, ns, rfl, hS, hl, fun _ => rfl⟩) (fun _ _ _ _ _ h => h)
  case F =>
    intro w mg fa h KX G hmg
    refine' Br.all_mk KX G hmg ?a_is_number ?l_is_number ?cI_is_number ?kI_is_number ?a_is_from_to ?l_is_from_to ?cI_is_from_to ?kI_is_from_to ?a_is_row ?l_is_row ?cI_is_row ?kI_is_row ?a_check_quay ?l_check_quay ?cI_check_quay ?kI_check_quay ?a_check_wishes ?l_check_wishes ?cI_check_wishes ?kI_check_wishes ?a_crowded ?l_crowded ?cI_crowded ?kI_crowded ?a_is_good ?l_is_good ?cI_is_good ?kI_is_good ?a_check_full_row ?l_check_full_row ?cI_check_full_row ?kI_check_full_row ?a_tree_of ?l_tree_of ?cI_tree_of ?kI_tree_of ?a_p_check_knots ?l_p_check_knots ?cI_p_check_knots ?kI_p_check_knots ?a_wishes_of ?l_wishes_of ?cI_wishes_of ?kI_wishes_of ?a_l_cell_at ?l_l_cell_at ?cI_l_cell_at ?kI_l_cell_at ?a_l_mix ?l_l_mix ?cI_l_mix ?kI_l_mix ?a_l_order ?l_l_order ?cI_l_order ?kI_l_order ?a_l_drawn ?l_l_drawn ?cI_l_drawn ?kI_l_drawn ?a_l_hangs ?l_l_hangs ?cI_l_hangs ?kI_l_hangs ?a_l_word ?l_l_word ?cI_l_word ?kI_l_word ?a_law ?l_law ?cI_law ?kI_law ?z_enumerate ?z_int ?z_isinstance ?z_len ?z_list ?z_max ?z_min ?z_range ?z_tuple ?z_type ?y_MOST ?xg_BerthError ?xx_BerthError ?xk_BerthError ?xb_BerthError ?xt_BerthError ?xg_NoCount ?xx_NoCount ?xk_NoCount ?xb_NoCount ?xt_NoCount ?xg_NoOrder ?xx_NoOrder ?xk_NoOrder ?xb_NoOrder ?xt_NoOrder ?xg_NoQuay ?xx_NoQuay ?xk_NoQuay ?xb_NoQuay ?xt_NoQuay ?xg_NoTree ?xx_NoTree ?xk_NoTree ?xb_NoTree ?xt_NoTree ?xg_NoWishes ?xx_NoWishes ?xk_NoWishes ?xb_NoWishes ?xt_NoWishes ?xg_TooMany ?xx_TooMany ?xk_TooMany ?xb_TooMany ?xt_TooMany ?v_hn ?v_ht ?vhg_BerthError ?vhk_BerthError ?vhs_BerthError ?vhd_BerthError ?vha_BerthError ?vhm_BerthError ?vty_BerthError ?vse_BerthError ?vhg_NoQuay ?vhk_NoQuay ?vhs_NoQuay ?vhd_NoQuay ?vha_NoQuay ?vhm_NoQuay ?vty_NoQuay ?vse_NoQuay ?vhg_NoWishes ?vhk_NoWishes ?vhs_NoWishes ?vhd_NoWishes ?vha_NoWishes ?vhm_NoWishes ?vty_NoWishes ?vse_NoWishes ?vhg_TooMany ?vhk_TooMany ?vhs_TooMany ?vhd_TooMany ?vha_TooMany ?vhm_TooMany ?vty_TooMany ?vse_TooMany ?vhg_NoCount ?vhk_NoCount ?vhs_NoCount ?vhd_NoCount ?vha_NoCount ?vhm_NoCount ?vty_NoCount ?vse_NoCount ?vhg_NoTree ?vhk_NoTree ?vhs_NoTree ?vhd_NoTree ?vha_NoTree ?vhm_NoTree ?vty_NoTree ?vse_NoTree ?vhg_NoOrder ?vhk_NoOrder ?vhs_NoOrder ?vhd_NoOrder ?vha_NoOrder ?vhm_NoOrder ?vty_NoOrder ?vse_NoOrder ?w_NoTree_BerthError ?w_NoTree_NoOrder ?w_NoTree_NoTree ?w_NoTree_NoWishes ?w_NoTree_TooMany ?w_NoTree_NoQuay ?w_NoTree_NoCount ?w_NoWishes_BerthError ?w_NoWishes_NoOrder ?w_NoWishes_NoTree ?w_NoWishes_NoWishes ?w_NoWishes_TooMany ?w_NoWishes_NoQuay ?w_NoWishes_NoCount
    (case a_is_number => k_is)
    (case l_is_number => k_is)
    (case cI_is_number => k_is)
    (case kI_is_number => k_is)
    (case a_is_from_to => k_is)
    (case l_is_from_to => k_is)
    (case cI_is_from_to => k_is)
    (case kI_is_from_to => k_is)
    (case a_is_row => k_is)
    (case l_is_row => k_is)
    (case cI_is_row => k_is)
    (case kI_is_row => k_is)
    (case a_check_quay => k_is)
    (case l_check_quay => k_is)
    (case cI_check_quay => k_is)
    (case kI_check_quay => k_is)
    (case a_check_wishes => k_is)
    (case l_check_wishes => k_is)
    (case cI_check_wishes => k_is)
    (case kI_check_wishes => k_is)
    (case a_crowded => k_is)
    (case l_crowded => k_is)
    (case cI_crowded => k_is)
    (case kI_crowded => k_is)
    (case a_is_good => k_is)
    (case l_is_good => k_is)
    (case cI_is_good => k_is)
    (case kI_is_good => k_is)
    (case a_check_full_row => k_is)
    (case l_check_full_row => k_is)
    (case cI_check_full_row => k_is)
    (case kI_check_full_row => k_is)
    (case a_tree_of => k_is)
    (case l_tree_of => k_is)
    (case cI_tree_of => k_is)
    (case kI_tree_of => k_is)
    (case a_p_check_knots => k_is)
    (case l_p_check_knots => k_is)
    (case cI_p_check_knots => k_is)
    (case kI_p_check_knots => k_is)
    (case a_wishes_of => k_is)
    (case l_wishes_of => k_is)
    (case cI_wishes_of => k_is)
    (case kI_wishes_of => k_is)
    (case a_l_cell_at => k_is)
    (case l_l_cell_at => k_is)
    (case cI_l_cell_at => k_is)
    (case kI_l_cell_at => k_is)
    (case a_l_mix => k_is)
    (case l_l_mix => k_is)
    (case cI_l_mix => k_is)
    (case kI_l_mix => k_is)
    (case a_l_order => k_is)
    (case l_l_order => k_is)
    (case cI_l_order => k_is)
    (case kI_l_order => k_is)
    (case a_l_drawn => k_is)
    (case l_l_drawn => k_is)
    (case cI_l_drawn => k_is)
    (case kI_l_drawn => k_is)
    (case a_l_hangs => k_is)
    (case l_l_hangs => k_is)
    (case cI_l_hangs => k_is)
    (case kI_l_hangs => k_is)
    (case a_l_word => k_is)
    (case l_l_word => k_is)
    (case cI_l_word => k_is)
    (case kI_l_word => k_is)
    (case a_law => k_is)
    (case l_law => k_is)
    (case cI_law => k_is)
    (case kI_law => k_is)
    (case z_enumerate => k_is)
    (case z_int => k_is)
    (case z_isinstance => k_is)
    (case z_len => k_is)
    (case z_list => k_is)
    (case z_max => k_is)
    (case z_min => k_is)
    (case z_range => k_is)
    (case z_tuple => k_is)
    (case z_type => k_is)
    (case y_MOST => k_is)
    (case xg_BerthError => k_is)
    (case xx_BerthError => k_exc)
    (case xk_BerthError => k_is)
    (case xb_BerthError => k_is)
    (case xt_BerthError => k_is)
    (case xg_NoCount => k_is)
    (case xx_NoCount => k_exc)
    (case xk_NoCount => k_is)
    (case xb_NoCount => k_is)
    (case xt_NoCount => k_is)
    (case xg_NoOrder => k_is)
    (case xx_NoOrder => k_exc)
    (case xk_NoOrder => k_is)
    (case xb_NoOrder => k_is)
    (case xt_NoOrder => k_is)
    (case xg_NoQuay => k_is)
    (case xx_NoQuay => k_exc)
    (case xk_NoQuay => k_is)
    (case xb_NoQuay => k_is)
    (case xt_NoQuay => k_is)
    (case xg_NoTree => k_is)
    (case xx_NoTree => k_exc)
    (case xk_NoTree => k_is)
    (case xb_NoTree => k_is)
    (case xt_NoTree => k_is)
    (case xg_NoWishes => k_is)
    (case xx_NoWishes => k_exc)
    (case xk_NoWishes => k_is)
    (case xb_NoWishes => k_is)
    (case xt_NoWishes => k_is)
    (case xg_TooMany => k_is)
    (case xx_TooMany => k_exc)
    (case xk_TooMany => k_is)
    (case xb_TooMany => k_is)
    (case xt_TooMany => k_is)
    (case v_hn => k_is)
    (case v_ht => k_is)
    (case vhg_BerthError => k_is)
    (case vhk_BerthError => k_is)
    (case vhs_BerthError => k_is)
    (case vhd_BerthError => k_is)
    (case vha_BerthError => k_is)
    (case vhm_BerthError => k_is)
    (case vty_BerthError => k_is)
    (case vse_BerthError => k_is)
    (case vhg_NoQuay => k_is)
    (case vhk_NoQuay => k_is)
    (case vhs_NoQuay => k_is)
    (case vhd_NoQuay => k_is)
    (case vha_NoQuay => k_is)
    (case vhm_NoQuay => k_is)
    (case vty_NoQuay => k_is)
    (case vse_NoQuay => k_is)
    (case vhg_NoWishes => k_is)
    (case vhk_NoWishes => k_is)
    (case vhs_NoWishes => k_is)
    (case vhd_NoWishes => k_is)
    (case vha_NoWishes => k_is)
    (case vhm_NoWishes => k_is)
    (case vty_NoWishes => k_is)
    (case vse_NoWishes => k_is)
    (case vhg_TooMany => k_is)
    (case vhk_TooMany => k_is)
    (case vhs_TooMany => k_is)
    (case vhd_TooMany => k_is)
    (case vha_TooMany => k_is)
    (case vhm_TooMany => k_is)
    (case vty_TooMany => k_is)
    (case vse_TooMany => k_is)
    (case vhg_NoCount => k_is)
    (case vhk_NoCount => k_is)
    (case vhs_NoCount => k_is)
    (case vhd_NoCount => k_is)
    (case vha_NoCount => k_is)
    (case vhm_NoCount => k_is)
    (case vty_NoCount => k_is)
    (case vse_NoCount => k_is)
    (case vhg_NoTree => k_is)
    (case vhk_NoTree => k_is)
    (case vhs_NoTree => k_is)
    (case vhd_NoTree => k_is)
    (case vha_NoTree => k_is)
    (case vhm_NoTree => k_is)
    (case vty_NoTree => k_is)
    (case vse_NoTree => k_is)
    (case vhg_NoOrder => k_is)
    (case vhk_NoOrder => k_is)
    (case vhs_NoOrder => k_is)
    (case vhd_NoOrder => k_is)
    (case vha_NoOrder => k_is)
    (case vhm_NoOrder => k_is)
    (case vty_NoOrder => k_is)
    (case vse_NoOrder => k_is)
    (case w_NoTree_BerthError => k_is)
    (case w_NoTree_NoOrder => k_is)
    (case w_NoTree_NoTree => k_is)
    (case w_NoTree_NoWishes => k_is)
    (case w_NoTree_TooMany => k_is)
    (case w_NoTree_NoQuay => k_is)
    (case w_NoTree_NoCount => k_is)
    (case w_NoWishes_BerthError => k_is)
    (case w_NoWishes_NoOrder => k_is)
    (case w_NoWishes_NoTree => k_is)
    (case w_NoWishes_NoWishes => k_is)
    (case w_NoWishes_TooMany => k_is)
    (case w_NoWishes_NoQuay => k_is)
    (case w_NoWishes_NoCount => k_is)
