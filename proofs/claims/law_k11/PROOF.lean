import PyProof.Rows.All
import Wide.All
import OpenK.AllK
import Wide.FinOn
import HandS.ForMost
import HandS.ForExc
import HandS.More
import HandS.Walk
import HandS.SortInts
import HandS.SetFor
import HandS.Style
import HandS.RevRange
import HandS.TupAny
import HandS.TupMul
import HandS.IsInst
import HandS.Conv
import HandS.ExcIs
import HandS.ExcCtx
import HandS.SortKw
import HandS.Remove
import HandS.TupLe
import HandS.Zip
import HandS.TupSets
import HandS.Small
import KE.DatumOrd
import KE.DatumMore
import KE.KSortedM
import KE.KStateDown
import KE.KDictPairs
import PySem.Challenge.RW_berthrow_k11_whole_who_lies_where
set_option Elab.async false
set_option linter.all false
set_option maxRecDepth 100000
set_option maxHeartbeats 4000000
namespace Br
open PySem PySem.Spec PyProof.Rows L2
/-! ### addresses of what the top has made, by name -/
structure Ad where
  f_is_number : Addr := 0
  f_is_from_to : Addr := 0
  f_is_row : Addr := 0
  f_check_quay : Addr := 0
  f_check_wishes : Addr := 0
  f_first_free : Addr := 0
  f_placed : Addr := 0
  f_taken : Addr := 0
  f_gone_on : Addr := 0
  f_is_good : Addr := 0
  f_crowded : Addr := 0
  f_placed_round : Addr := 0
  f_left_over : Addr := 0
  f_turned : Addr := 0
  f_turning : Addr := 0
  f_how_many : Addr := 0
  f_first_row : Addr := 0
  f_last_row : Addr := 0
  f_next_row : Addr := 0
  f_p_check_ships : Addr := 0
  f_l_cell_at : Addr := 0
  f_l_mix : Addr := 0
  f_l_quay : Addr := 0
  f_l_wishes : Addr := 0
  f_l_placed : Addr := 0
  f_l_whole : Addr := 0
  f_l_good : Addr := 0
  f_l_crowded : Addr := 0
  f_l_order : Addr := 0
  f_l_round : Addr := 0
  f_l_refused : Addr := 0
  f_l_due : Addr := 0
  f_l_caught : Addr := 0
  f_l_lowered : Addr := 0
  f_first_free_round : Addr := 0
  f_check_full_row : Addr := 0
  f_tree_of : Addr := 0
  f_wishes_of : Addr := 0
  f_p_check_knots : Addr := 0
  f_lies : Addr := 0
  f_reaches : Addr := 0
  f_rows_to : Addr := 0
  f_p_check_order : Addr := 0
  f_is_name : Addr := 0
  f_written : Addr := 0
  f_read : Addr := 0
  f_p_parts : Addr := 0
  f_p_pair : Addr := 0
  f_p_number : Addr := 0
  f_p_check_name : Addr := 0
  f_l_asked : Addr := 0
  f_l_word : Addr := 0
  f_l_told : Addr := 0
  f_l_odd : Addr := 0
  f_l_no_quay : Addr := 0
  f_l_full : Addr := 0
  f_l_tree : Addr := 0
  f_l_drawn : Addr := 0
  f_l_hangs : Addr := 0
  f_l_right : Addr := 0
  f_l_lying : Addr := 0
  f_l_words : Addr := 0
  f_l_done : Addr := 0
  f_l_stands : Addr := 0
  f_l_nearer : Addr := 0
  f_l_read : Addr := 0
  f_l_text : Addr := 0
  f_l_odd_text : Addr := 0
  f_law : Addr := 0
  e_BerthError : Addr := 0
  e_NoQuay : Addr := 0
  e_NoWishes : Addr := 0
  e_TooMany : Addr := 0
  e_NoCount : Addr := 0
  e_NoTree : Addr := 0
  e_NoOrder : Addr := 0
  e_NoName : Addr := 0
  e_Taken : Addr := 0
  e_NoWish : Addr := 0
  e_NoRoom : Addr := 0
  e_NoShip : Addr := 0
  e_NoText : Addr := 0
/-- a def as it stands behind the top -/
structure DF (K : PySem.W.Frag) (mg : Str → Option Value) (x : Str) (st : Stmt) (ps : List Str) (f : Addr) : Prop where
  ex : ∃ fd, Fun K x x st f fd ∧ Binds K fd ps []
  g : mg x = some (.ref f)
/-- a def that keeps its promise, ready to be called by its name -/
structure Cb (P : Program) (w : World) (K : PySem.W.Frag) (mg : Str → Option Value) (base : Heap) (CX : CXT) (k : Nat) (x : Str) (f : Addr) (ps : List Str) (sp : Sp) : Prop where
  ex : ∃ fd, FnOk P w K mg base CX k f fd ps sp ∧ Binds K fd ps []
  g : mg x = some (.ref f)
  kp : PySem.W.keepIn K (.ref f) = true
/-- an own exception's class -/
structure ExF (K : PySem.W.Frag) (mg : Str → Option Value) (x : Str) (c : Addr) : Prop where
  g : mg x = some (.ref c)
  x : PySem.W.excIn K c [.type "ValueError", .type "Exception", .type "BaseException", .type "object"] "ValueError.__new__" = true
  k : PySem.W.keepIn K (.ref c) = true
  b : PySem.W.subIn K (.ref c) (.type "BaseException") = some true
  t : PySem.W.typeIn K (.ref c) = some (.type "type")
theorem df_mk {K : PySem.W.Frag} {mg : Str → Option Value} {x : Str} {st : Stmt} {ps : List Str} {f : Addr} {fd : FuncData} (F : Fun K x x st f fd)
    (h : ∀ (kV doc pm : Value) (an : Option Addr) (cdv ct : Value) (us : List Value), us.length = ps.length → bindArgs (PySem.W.fnOf x x (defArgs st) (defBody st) (defScope st) .none kV doc pm an cdv ct) ⟨us, []⟩ = pure (ps.zip us)) (g : mg x = some (.ref f)) : DF K mg x st ps f :=
  ⟨⟨fd, F, F.binds h⟩, g⟩
/-! ### readings by short names -/
def rAddI : R2 := rI0 fun i j => .int (i + j)
def rSubI : R2 := rI0 fun i j => .int (i - j)
def rMulI : R2 := rI CMul fun i j => .int (i * j)
def rModI : R2 := rI (fun _ j => 0 < j) fun i j => .int (i % j)
def rDivI : R2 := rI CDiv fun i j => .int (i / j)
def rPowI : R2 := rI CPow fun i j => .int (i ^ j.toNat)
def rLtI : R2 := rI0 fun i j => .bl (decide (i < j))
def rLeI : R2 := rI0 fun i j => .bl (decide (i ≤ j))
def rGtI : R2 := rI0 fun i j => .bl (decide (j < i))
def rGeI : R2 := rI0 fun i j => .bl (decide (j ≤ i))
def rIsTyB : R2 := fun x y H Q => ∃ a b, x = .ty a ∧ y = .ty b ∧ Q (.bl (decide (a = b))) H
def rIsB1 : R2 := fun x y H Q => ∃ a b, x = .bl a ∧ y = .bl b ∧ Q (.bl (decide (a = b))) H
def rLenSq (K : PySem.W.Frag) : List V → Hp → VK → Prop := fun xs H Q => ∃ p ys, xs = [.ref p] ∧ (SqL K H p ys ∨ SqT K H p ys) ∧ Q (.int ys.length) H
def rAddStr : R2 := fun x y H Q => ∃ i j, x = .str i ∧ y = .str j ∧ i.length + j.length ≤ sizeLine ∧ Q (.str (i ++ j)) H
def rMin2 : List V → Hp → VK → Prop := fun xs H Q => ∃ i j, xs = [.int i, .int j] ∧ Q (.int (if j < i then j else i)) H
def rMax2 : List V → Hp → VK → Prop := fun xs H Q => ∃ i j, xs = [.int i, .int j] ∧ Q (.int (if j > i then j else i)) H
def rInt1 : List V → Hp → VK → Prop := fun xs H Q => (∃ i, xs = [.int i] ∧ Q (.int i) H) ∨ ∃ k, xs = [.bl k] ∧ Q (.int (if k then 1 else 0)) H
def rListOf (K : PySem.W.Frag) : List V → Hp → VK → Prop := fun xs H Q => ∃ p ys, xs = [.ref p] ∧ (SqL K H p ys ∨ SqT K H p ys) ∧ ∀ l, H l = none → Q (.ref l) (upd H l (.lst ys))
def rTupleOf (K : PySem.W.Frag) : List V → Hp → VK → Prop := fun xs H Q => ∃ p ys, xs = [.ref p] ∧ ((SqL K H p ys ∧ ∀ l, H l = none → Q (.ref l) (upd H l (.tup ys))) ∨ (SqT K H p ys ∧ Q (.ref p) H))
def ipAdd : TIp := ipI fun i j => i + j
def ipSub : TIp := ipI fun i j => i - j
def tTru (K : PySem.W.Frag) (te : TE) : TT := fun σ H Q => te σ H fun x H' => ∃ k, TruV K x H' k ∧ Q k H'
def tRaise (c : Addr) (E : XK) : TS := fun _ _ H => E (.ref c) none H
def iSeq (K : PySem.W.Frag) (tl : TE) : TI := fun σ H R => iList K tl σ H R ∨ iTup K tl σ H R
def SqA (K : PySem.W.Frag) (H : Hp) (a : Addr) (xs : List V) : Prop := SqL K H a xs ∨ SqT K H a xs
theorem item_of0 {ns : List Int} {i : Nat} {y : V} (hi : (ns.map V.int)[i]? = some y) : ∃ z, ns[i]? = some z ∧ y = V.int z := by
  rw [List.getElem?_map] at hi
  cases e : ns[i]? with
  | none => rw [e] at hi; cases hi
  | some z => rw [e] at hi; exact ⟨z, rfl, (Option.some.inj hi).symm⟩
/-! ### rules -/
section
variable {X : Cx}
theorem pe_gl {x : Str} {v : V} {pos : Pos} (hg : Gl X x) (h : ∃ u, X.mg x = some u ∧ RelV v u) (hd : (x == ("__debug__" : Str)) = false := by decide) : PE X (.Name x pos) (tC v) := by
  obtain ⟨u, hm, r⟩ := h
  exact pe_glob hg hm r hd
theorem pe_cb {CX : CXT} {k : Nat} {f : Addr} {ps : List Str} {sp : Sp} {E : XK} {x : Str} {p pos : Pos} {e : Expr} {es : List Expr} {t : TA} (G : Cb X.prog X.w X.K X.mg X.base CX k x f ps sp) (hr : Room k X.A) (hg : Gl X x) (hx : Passes CX X E) (ha : PA X (e :: es) t)
    (hdb : (x == ("__debug__" : Str)) = false := by decide) (he : starEach (e :: es) X.env = (false, eval e X.env) :: starEach es X.env := by rfl) (hpl : (backTo pos (starEach es X.env)).any (·.1) = false := by rfl) :
    PE X (.Call (.Name x p) (e :: es) [] pos) (tCall sp [] E t) := by
  obtain ⟨⟨fd, F, b⟩, g, kp⟩ := G
  exact pe_call F hr hg g kp b .nil hx ha hdb he hpl
theorem pe_cbS {CX : CXT} {k : Nat} {f : Addr} {ps : List Str} {sp : Sp} {E : L2.St → XK} {x : Str} {p pos : Pos} {e : Expr} {es : List Expr} {t : TA} (G : Cb X.prog X.w X.K X.mg X.base CX k x f ps sp) (hr : Room k X.A) (hg : Gl X x) (hx : ∀ σ, PassesAt CX X σ (E σ)) (ha : PA X (e :: es) t)
    (hdb : (x == ("__debug__" : Str)) = false := by decide) (he : starEach (e :: es) X.env = (false, eval e X.env) :: starEach es X.env := by rfl) (hpl : (backTo pos (starEach es X.env)).any (·.1) = false := by rfl) :
    PE X (.Call (.Name x p) (e :: es) [] pos) (tCallS sp E t) := by
  obtain ⟨⟨fd, F, b⟩, g, kp⟩ := G
  exact pe_callS F hr hg g kp b hx ha hdb he hpl
theorem pi_seq {tg l : Expr} {tl : TE} (hl : PE X l tl) : PI X tg l (iSeq X.K tl) :=
  ⟨fun pins s σ H R I h => h.elim (fun h => (pi_list hl).run pins s σ H R I h) (fun h => (pi_tup hl).run pins s σ H R I h)⟩
/-- xs[i], by values: for xs[i] += e -/
theorem gt_list : PGet X (rIxL X.K) := by
  intro pins s σ H x y v u Q I rx ry h
  obtain ⟨p, xs, i, z, rfl, rfl, hq, he, q⟩ := h
  cases rx
  obtain ⟨t, rfl⟩ := ry
  obtain ⟨its, r, pl, hz⟩ := I.list hq
  obtain ⟨j, h1, h2, h3, h4, h5⟩ := atI_get he
  obtain ⟨w, ew, rw'⟩ := r.get h2
  have hl := r.length
  have hn := line63
  have fin : EP X pins σ Q w s := ⟨z, H, I, rw', q⟩
  by_cases h0 : 0 ≤ i
  · have hj : i.toNat = j := by
      rw [seqIndex_of h0 h5] at h1
      exact Option.some.inj h1
    exact wpAny_getItem_list pl.isList h0 (by omega) (by rw [hj]; simpa using ew) fin
  · have hj : (i + (its.toArray.size : Int)).toNat = j := by
      rw [seqIndex_neg (by omega) h4] at h1
      rw [List.size_toArray, ← hl]
      exact Option.some.inj h1
    exact wpAny_getItem_list_neg pl.isList (by omega) (by rw [List.size_toArray] <;> omega) (by omega) (by rw [hj]; simpa using ew) fin
/-! ### min(xs, default=d), xs a list of whole numbers -/
theorem minOf_int : ∀ (ys : List Int) (y : Int), PySem.W.minOf y ys ∈ y :: ys ∧ ∀ z ∈ y :: ys, PySem.W.minOf y ys ≤ z
  | [], y => ⟨List.mem_singleton.mpr rfl, fun z hz => by rw [List.mem_singleton.mp hz]; exact Int.le_refl _⟩
  | x :: r, y => by
    have e : PySem.W.minOf y (x :: r) = PySem.W.minOf (if x < y then x else y) r := by
      show PySem.W.minOf (if (decide (x < y)) = true then x else y) r = _
      by_cases h : x < y <;> simp [h]
    obtain ⟨h1, h2⟩ := minOf_int r (if x < y then x else y)
    rw [e]
    refine ⟨?_, fun z hz => ?_⟩
    · rcases List.mem_cons.mp h1 with k | k
      · rw [k]
        by_cases h : x < y <;> simp [h]
      · simp [k]
    · have hc := h2 _ (List.mem_cons_self)
      rcases List.mem_cons.mp hz with k | k
      · subst k
        by_cases h : x < z
        · rw [if_pos h] at hc ⊢
          omega
        · rw [if_neg h] at hc ⊢
          exact hc
      · rcases List.mem_cons.mp k with k | k
        · subst k
          by_cases h : z < y
          · rw [if_pos h] at hc ⊢
            exact hc
          · rw [if_neg h] at hc ⊢
            omega
        · exact h2 z (List.mem_cons_of_mem _ k)
def rMinD (K : PySem.W.Frag) : List V → List V → Hp → VK → Prop := fun vs zs H Q => ∃ (p : Addr) (d : V) (ns : List Int), vs = [.ref p] ∧ zs = [d] ∧ SqL K H p (ns.map V.int) ∧
  (ns = [] → Q d H) ∧ ∀ m, m ∈ ns → (∀ y ∈ ns, m ≤ y) → Q (.int m) H
def tMinD (K : PySem.W.Frag) (ta td : TE) : TE := tCKw (rMinD K) (tCons ta tNil) (tCons td tNil)
theorem dp_ints {K : PySem.W.Frag} {H : Hp} : ∀ ns : List Int, DpAll K H (ns.map V.int) (ns.map PyData.int)
  | [] => .nil
  | n :: r => .cons (.int n) (dp_ints r)
theorem cr_minD (hc : X.calm = true) (hu : X.A.units + 64 < cLine) : CallRK X (.builtin "min") [Str.ofString "default"] (rMinD X.K) := by
  intro pins s σ H vs zs us ws Q I r rz h
  obtain ⟨p, d, ns, rfl, rfl, hs, q0, q1⟩ := h
  obtain ⟨w, rfl, rw'⟩ := vals1 rz
  obtain ⟨its, rv, hl, _⟩ := I.list hs
  rw [Vals.ref1 r]
  obtain ⟨as, ra⟩ := Dp.readsAll I (ns.map PyData.int) _ its (dp_ints ns) rv
  have HA : PySem.W.HoldAll s.heap its.toArray.toList ns := ⟨as, ra⟩
  refine PySem.W.min_list_datum_default (I.ok.hd hc) hl.isList HA (by show X.A.units + 1 + PySem.W.Datum.depth Int < cLine; have e : PySem.W.Datum.depth Int = 0 := rfl; rw [e]; omega) (fun e h' tk hk => ⟨d, H, I.kept hk, rw', q0 e⟩) fun y ys i v h' tk e hi hv hk => ?_
  subst e
  obtain ⟨as2, r2⟩ := hv
  have hi' : its[i]? = some v := by simpa using hi
  have hlen := rv.length
  have hlt : i < ((y :: ys).map V.int).length := by rw [hlen]; exact (List.getElem?_eq_some_iff.mp hi').1
  obtain ⟨u, hu1, hu2⟩ := rv.get (List.getElem?_eq_getElem hlt)
  rw [hi'] at hu1
  cases hu1
  obtain ⟨z, hz, ez⟩ := item_of0 (List.getElem?_eq_getElem hlt)
  rw [ez] at hu2
  obtain ⟨t, rfl⟩ := hu2
  have em : PySem.W.minOf y ys = z := by
    have r2' : Reads h' (.int z t) (.int (PySem.W.minOf y ys)) as2 := r2
    cases r2'
    rfl
  obtain ⟨m1, m2⟩ := minOf_int ys y
  rw [em] at m1 m2
  exact ⟨.int z, H, I.kept hk, ⟨_, rfl⟩, q1 z m1 m2⟩
theorem pe_minD {p pos kpos : Pos} {e d : Expr} {ta td : TE} (hc : X.calm = true) (hu : X.A.units + 64 < cLine) (hg : Gl X "min") (hm : X.mg "min" = none) (ha : PE X e ta) (hd : PE X d td)
    (he : backTo pos (starEach (e :: []) X.env) = (false, eval e X.env) :: backTo pos (starEach [] X.env) := by rfl) (hse : starEach (e :: []) X.env = (false, eval e X.env) :: starEach [] X.env := by rfl) (hpl : (backTo pos (starEach (e :: []) X.env)).any (·.1) = false := by rfl)
    (hall : (backToKw pos (keywordEach [⟨some (Str.ofString "default"), d, kpos⟩] X.env)).all (·.1.isSome) = true := by rfl) (hnone : (backToKw pos (keywordEach [⟨some (Str.ofString "default"), d, kpos⟩] X.env)).any (·.1.isNone) = false := by rfl)
    (hks : (backToKw pos (keywordEach [⟨some (Str.ofString "default"), d, kpos⟩] X.env)).filterMap (·.1) = [Str.ofString "default"] := by rfl) :
    PE X (.Call (.Name "min" p) [e] [⟨some (Str.ofString "default"), d, kpos⟩] pos) (tMinD X.K ta td) :=
  pe_callBK (cr_minD hc hu) hg hm (by decide +kernel) (pa_cons ha pa_nil hse) (pk_cons hd pk_nil) (by decide) (by decide) he hpl hall hnone hks
end
/-! ### == and != of data -/
def rEqT (K : PySem.W.Frag) : R2 := fun x y H Q => ∃ (α : Type) (_ : DecidableEq α) (_ : PySem.W.Datum α) (a b : α), Dp K H x (PySem.W.Datum.toD a) ∧ Dp K H y (PySem.W.Datum.toD b) ∧ PySem.W.Datum.depth α ≤ 64 ∧ Q (.bl (decide (a = b))) H
def rNeT (K : PySem.W.Frag) : R2 := fun x y H Q => ∃ (α : Type) (_ : DecidableEq α) (_ : PySem.W.Datum α) (a b : α), Dp K H x (PySem.W.Datum.toD a) ∧ Dp K H y (PySem.W.Datum.toD b) ∧ PySem.W.Datum.depth α ≤ 64 ∧ Q (.bl (decide (a ≠ b))) H
section
variable {X : Cx}
theorem op_eqT (hu : X.A.units + 64 < cLine) : OpR X (compareOp .Eq) (rEqT X.K) := by
  intro pins s σ H x y v u Q I rx ry h
  obtain ⟨α, d1, d2, a, b, ha, hb, hd, q⟩ := h
  exact PySem.W.eq_datum (Dp.reads I _ x v ha rx) (Dp.reads I _ y u hb ry) (by omega) ⟨.bl _, H, I, rfl, q⟩
theorem op_neT (hu : X.A.units + 64 < cLine) : OpR X (compareOp .NotEq) (rNeT X.K) := by
  intro pins s σ H x y v u Q I rx ry h
  obtain ⟨α, d1, d2, a, b, ha, hb, hd, q⟩ := h
  exact PySem.W.ne_datum (Dp.reads I _ x v ha rx) (Dp.reads I _ y u hb ry) (by omega) ⟨.bl _, H, I, rfl, q⟩
end
theorem eqT_of {K : PySem.W.Frag} {x y : V} {H : Hp} {Q : VK} {α : Type} [DecidableEq α] [PySem.W.Datum α] {a b : α} (ha : Dp K H x (PySem.W.Datum.toD a)) (hb : Dp K H y (PySem.W.Datum.toD b)) (hd : PySem.W.Datum.depth α ≤ 64) (q : Q (.bl (decide (a = b))) H) : rEqT K x y H Q := ⟨α, _, _, a, b, ha, hb, hd, q⟩
theorem neT_of {K : PySem.W.Frag} {x y : V} {H : Hp} {Q : VK} {α : Type} [DecidableEq α] [PySem.W.Datum α] {a b : α} (ha : Dp K H x (PySem.W.Datum.toD a)) (hb : Dp K H y (PySem.W.Datum.toD b)) (hd : PySem.W.Datum.depth α ≤ 64) (q : Q (.bl (decide (a ≠ b))) H) : rNeT K x y H Q := ⟨α, _, _, a, b, ha, hb, hd, q⟩
theorem ho_ints {K : PySem.W.Frag} {H : Hp} {p : Addr} {ns : List Int} (h : SqL K H p (ns.map V.int)) : Dp K H (.ref p) (PySem.W.Datum.toD ns) := .lst h (dp_ints ns)
/-! ### heaps -/
theorem same_new {H : Hp} {p : Addr} {o : HO} (h : H p = none) : Same H (upd H p o) := fun b x e => by
  rw [upd_ne (ne_of_none e h)]
  exact e
/-- what stood ahead of an object's making stands behind a store into it -/
theorem _root_.L2.Same.store {H H' : Hp} {p : Addr} {o : HO} (s : Same H H') (h : H p = none) : Same H (upd H' p o) := fun b x e => by
  rw [upd_ne (ne_of_none e h)]
  exact s b x e
theorem _root_.L2.Same.seqT {K : PySem.W.Frag} {H H' : Hp} {a : Addr} {xs : List V} (e : Same H H') (h : SqT K H a xs) : SqT K H' a xs := by
  rcases h with (h | ⟨o, h⟩) | h
  · exact .inl (.inl (e _ _ h))
  · exact .inl (.inr ⟨o, e _ _ h⟩)
  · exact .inr h
theorem _root_.L2.Same.seqA {K : PySem.W.Frag} {H H' : Hp} {a : Addr} {xs : List V} (e : Same H H') (h : SqA K H a xs) : SqA K H' a xs := h.elim (fun h => .inl (e.seq h)) (fun h => .inr (e.seqT h))
theorem sqL_of {K : PySem.W.Frag} {H : Hp} {a : Addr} {xs : List V} (h : H a = some (.lst xs)) : SqL K H a xs := .inl (.inl h)
theorem sqT_of {K : PySem.W.Frag} {H : Hp} {a : Addr} {xs : List V} (h : H a = some (.tup xs)) : SqT K H a xs := .inl (.inl h)
/-! ### loops and comprehensions in short -/
theorem for_seq {K : PySem.W.Frag} {a : Addr} {xs : List V} {tl : TE} {g : TG} {tb : TS} {D : Ends} {σ : L2.St} {H0 H : Hp} (ht : ∀ Q : VK, Q (.ref a) H → tl σ H Q) (hA : SqA K H0 a xs) (Pv : Nat → L2.St → Hp → Prop) (h0 : Pv 0 σ H) (hl : ∀ i σ H', Pv i σ H' → Same H0 H')
    (hs : ∀ i x σ H, xs[i]? = some x → Pv i σ H → g x σ H fun σ2 H2 => tb { D with nx := Pv (i + 1), ct := Pv (i + 1), bk := D.nx } σ2 H2) (hd : ∀ σ H, Pv xs.length σ H → D.nx σ H) : tFor (iSeq K tl) g tb D σ H := by
  rcases hA with h | h
  · exact .inl (ht _ ⟨a, rfl, ⟨_, (hl _ _ _ h0).seq h⟩, for_list (K := K) (a := a) Pv h0 (fun i σ H' _ p => (hl i σ H' p).seq h) hs hd⟩)
  · exact .inr (ht _ ⟨a, rfl, ⟨_, (hl _ _ _ h0).seqT h⟩, for_tup (K := K) (a := a) Pv h0 (fun i σ H' _ p => (hl i σ H' p).seqT h) hs hd⟩)
theorem take_more {α : Type} : ∀ {l : List α} {i : Nat} {x : α}, l[i]? = some x → l.take (i + 1) = l.take i ++ [x] := fun {l i x} h => by
  rw [List.take_add_one, h]
  rfl
theorem item_of {ns : List Int} {i : Nat} {y : V} (hi : (ns.map V.int)[i]? = some y) : ∃ z, ns[i]? = some z ∧ y = V.int z := by
  rw [List.getElem?_map] at hi
  cases e : ns[i]? with
  | none => rw [e] at hi; cases hi
  | some z => rw [e] at hi; exact ⟨z, rfl, (Option.some.inj hi).symm⟩
/-- a comprehension over anything that gives n values it 0, it 1 .. and leaves what is tracked; p the test, f the element -/
theorem lc_pure {J : It} {n : Nat} {G : Hp → Prop} {tt : TT} {te : TE} {g : TG} {vs : List Nat} {σ : L2.St} {H1 : Hp} {Qd : Addr → Hp → Prop} {Y : Nat → Hp → V → Hp → Prop} {α : Type} (w : Walk J n G Y) (hn : n < sizeLine) (xs : List α) (hx : xs.length = n) (p : α → Bool) (f : α → V) (hG : ∀ H', Same H1 H' → G H')
    (hs : ∀ i (x : α) (v : V) (H H' : Hp) (R : Bool → V → Hp → Prop), xs[i]? = some x → Same H1 H → Y i H v H' → (∀ y H'', Same H H'' → (p x = true → y = f x) → R (p x) y H'') →
      g v (wipe σ vs) H' fun σ2 H2 => wipe σ2 vs = wipe σ vs ∧ tt σ2 H2 fun b H3 => if b = true then te σ2 H3 fun y H4 => R true y H4 else R false .non H3)
    (hQ : ∀ D H', H1 D = none → Same H1 H' → H' D = some (.lst ((xs.filter p).map f)) → Qd D H') :
    ∀ D, H1 D = none → ∃ W : Nat → Nat → Hp → Prop, (∃ m, W 0 m (upd H1 D (.lst []))) ∧ ∀ i m H, W i m H →
      (J.stop i H ∧ Qd D H) ∨ (J.go i H ∧ ∃ Nx : Hp → Prop, (∀ H', Nx H' → ∃ m', m' < m ∧ W (i + 1) m' H') ∧ ∀ x H', J.yld i H x H' → g x (wipe σ vs) H' fun σ2 H2 => wipe σ2 vs = wipe σ vs ∧ tt σ2 H2 fun b H3 =>
        if b = true then te σ2 H3 fun y H4 => ∃ acc, H4 D = some (.lst acc) ∧ acc.length < sizeLine ∧ Nx (upd H4 D (.lst (acc ++ [y]))) else Nx H3) := by
  intro D hD
  refine lc_it w (fun i H => Same H1 H ∧ H D = some (.lst (((xs.take i).filter p).map f))) ⟨same_new hD, upd_same⟩ (fun i H _ h => hG H h.1) ?_ ?_
  · intro i v H H' hi ⟨s, e⟩ y
    have hi' : i < xs.length := by omega
    have hx' : xs[i]? = some xs[i] := List.getElem?_eq_getElem hi'
    have fin := hs i xs[i] v H H' (fun b y H4 => if b = true then ∃ acc, H4 D = some (.lst acc) ∧ acc.length < sizeLine ∧ (Same H1 (upd H4 D (.lst (acc ++ [y]))) ∧ (upd H4 D (.lst (acc ++ [y]))) D = some (.lst (((xs.take (i + 1)).filter p).map f))) else Same H1 H4 ∧ H4 D = some (.lst (((xs.take (i + 1)).filter p).map f))) hx' s y ?_
    · exact fin
    · intro y H4 s4 hy
      have e4 := s4 _ _ e
      rw [take_more hx', List.filter_append, List.map_append]
      cases hp : p xs[i] with
      | true =>
        rw [if_pos rfl]
        refine ⟨_, e4, ?_, (s.trans s4).store hD, ?_⟩
        · rw [List.length_map]
          refine Nat.lt_of_le_of_lt (List.length_filter_le _ _) (Nat.lt_of_le_of_lt (List.length_take_le _ _) ?_)
          omega
        · rw [upd_same, hy hp]
          simp [List.filter, hp]
      | false =>
        rw [if_neg Bool.false_ne_true]
        refine ⟨s.trans s4, ?_⟩
        rw [e4]
        simp [List.filter, hp]
  · intro H ⟨s, e⟩
    rw [← hx, List.take_length] at e
    exact hQ D H hD s e

/-! ### what is a number, a quay, wishes -/
def isInt : V → Bool
  | .int _ => true
  | _ => false
def inB (lo hi : Int) : V → Bool
  | .int i => decide (lo ≤ i) && decide (i ≤ hi)
  | _ => false
def goodW (n : Nat) (xs : List V) : Bool := decide (xs.length ≤ 400) && xs.all (inB 1 n)
/-- what a check of a quay and of wishes for it comes to: R behind a good one -/
def ChkQ (K : PySem.W.Frag) (a : Ad) (b : V) (H : Hp) (E : XK) (R : Nat → Prop) : Prop := ∃ T, TyB K H b T ∧ ((inB 1 400 b = false ∧ E (.ref a.e_NoQuay) none H) ∨ ∃ n : Nat, b = .int n ∧ 1 ≤ n ∧ n ≤ 400 ∧ R n)
def ChkW (K : PySem.W.Frag) (a : Ad) (b w : V) (H : Hp) (E : XK) (R : Nat → List Int → Addr → Prop) : Prop := ChkQ K a b H E fun n =>
  (∃ T, TyB K H w T ∧ T ≠ "list" ∧ T ≠ "tuple" ∧ E (.ref a.e_NoWishes) none H) ∨
  ∃ p xs, w = .ref p ∧ SqA K H p xs ∧ (∀ x ∈ xs, ∃ T, TyB K H x T) ∧ ((goodW n xs = false ∧ E (.ref a.e_NoWishes) none H) ∨
    ∃ ws : List Int, xs = ws.map V.int ∧ ws.length ≤ 400 ∧ (∀ x ∈ ws, 1 ≤ x ∧ x ≤ n) ∧ R n ws p)
theorem ChkQ.imp {K : PySem.W.Frag} {a : Ad} {b : V} {H : Hp} {E : XK} {R R' : Nat → Prop} (h : ChkQ K a b H E R) (k : ∀ n : Nat, b = .int n → 1 ≤ n → n ≤ 400 → R n → R' n) : ChkQ K a b H E R' := by
  obtain ⟨T, ty, h | ⟨n, e, h1, h2, r⟩⟩ := h
  · exact ⟨T, ty, .inl h⟩
  · exact ⟨T, ty, .inr ⟨n, e, h1, h2, k n e h1 h2 r⟩⟩
theorem ChkW.imp {K : PySem.W.Frag} {a : Ad} {b w : V} {H : Hp} {E : XK} {R R' : Nat → List Int → Addr → Prop} (h : ChkW K a b w H E R)
    (k : ∀ (n : Nat) (ws : List Int) (p : Addr), b = .int n → w = .ref p → 1 ≤ n → n ≤ 400 → SqA K H p (ws.map V.int) → ws.length ≤ 400 → (∀ x ∈ ws, 1 ≤ x ∧ x ≤ n) → R n ws p → R' n ws p) : ChkW K a b w H E R' := by
  refine ChkQ.imp h fun n e h1 h2 r => ?_
  rcases r with r | ⟨p, xs, ew, hs, ht, r | ⟨ws, ex, hl, hb, r⟩⟩
  · exact .inl r
  · exact .inr ⟨p, xs, ew, hs, ht, .inl r⟩
  · exact .inr ⟨p, xs, ew, hs, ht, .inr ⟨ws, ex, hl, hb, k n ws p e ew h1 h2 (ex ▸ hs) hl hb r⟩⟩
/-- a check that is passed -/
theorem ChkQ.ok {K : PySem.W.Frag} {a : Ad} {H : Hp} {E : XK} {R : Nat → Prop} {n : Nat} (h1 : 1 ≤ n) (h2 : n ≤ 400) (r : R n) : ChkQ K a (.int n) H E R := ⟨_, .int _, .inr ⟨n, rfl, h1, h2, r⟩⟩
theorem ChkW.ok {K : PySem.W.Frag} {a : Ad} {H : Hp} {E : XK} {R : Nat → List Int → Addr → Prop} {n : Nat} {ws : List Int} {p : Addr} (h1 : 1 ≤ n) (h2 : n ≤ 400) (hs : SqA K H p (ws.map V.int)) (hl : ws.length ≤ 400) (hb : ∀ x ∈ ws, 1 ≤ x ∧ x ≤ n) (r : R n ws p) : ChkW K a (.int n) (.ref p) H E R :=
  ChkQ.ok h1 h2 (.inr ⟨p, _, rfl, hs, fun x hx => by
    obtain ⟨i, _, rfl⟩ := List.mem_map.mp hx
    exact ⟨_, .int i⟩, .inr ⟨ws, rfl, hl, hb, r⟩⟩)
theorem goodW_ints {n : Nat} {ws : List Int} : goodW n (ws.map V.int) = true ↔ ws.length ≤ 400 ∧ ∀ x ∈ ws, 1 ≤ x ∧ x ≤ n := by
  unfold goodW
  simp [inB]
theorem inB_int {lo hi : Int} {v : V} (h : inB lo hi v = true) : ∃ i, v = .int i ∧ lo ≤ i ∧ i ≤ hi := by
  cases v with
  | int i =>
    simp only [inB, Bool.and_eq_true, decide_eq_true_eq] at h
    exact ⟨i, rfl, h⟩
  | _ => cases h
theorem goodW_of {n : Nat} {xs : List V} (h : goodW n xs = true) : ∃ ws : List Int, xs = ws.map V.int ∧ ws.length ≤ 400 ∧ ∀ x ∈ ws, 1 ≤ x ∧ x ≤ n := by
  unfold goodW at h
  simp only [Bool.and_eq_true, decide_eq_true_eq, List.all_eq_true] at h
  obtain ⟨h1, h2⟩ := h
  have e : ∃ ws : List Int, xs = ws.map V.int := by
    clear h1
    induction xs with
    | nil => exact ⟨[], rfl⟩
    | cons x r ih =>
      obtain ⟨ws, e⟩ := ih fun y hy => h2 y (List.mem_cons_of_mem _ hy)
      obtain ⟨i, ei, _⟩ := inB_int (h2 x List.mem_cons_self)
      exact ⟨i :: ws, by rw [ei, e]; rfl⟩
  obtain ⟨ws, rfl⟩ := e
  refine ⟨ws, rfl, by simpa using h1, fun x hx => ?_⟩
  obtain ⟨i, ei, h3, h4⟩ := inB_int (h2 (.int x) (List.mem_map_of_mem hx))
  cases ei
  exact ⟨h3, h4⟩
theorem tyb_int {K : PySem.W.Frag} {H : Hp} {x : V} {T : String} (h : TyB K H x T) : decide (T = "int") = isInt x := by
  cases h <;> first | rfl | decide
theorem tyb_ref {K : PySem.W.Frag} {H : Hp} {x : V} {T : String} (h : TyB K H x T) (e : T = "list" ∨ T = "tuple") : ∃ p xs, x = .ref p ∧ SqA K H p xs := by
  cases h with
  | lst h => exact ⟨_, _, rfl, .inl h⟩
  | tup h => exact ⟨_, _, rfl, .inr h⟩
  | non => rcases e with e | e <;> exact absurd e (by decide)
  | bl => rcases e with e | e <;> exact absurd e (by decide)
  | int => rcases e with e | e <;> exact absurd e (by decide)
  | str => rcases e with e | e <;> exact absurd e (by decide)
  | byt => rcases e with e | e <;> exact absurd e (by decide)
  | dK => rcases e with e | e <;> exact absurd e (by decide)
theorem SqA.ty {K : PySem.W.Frag} {H : Hp} {p : Addr} {xs : List V} (h : SqA K H p xs) : ∃ T, TyB K H (.ref p) T ∧ (decide (T = "list") || decide (T = "tuple")) = true := by
  rcases h with h | h
  · exact ⟨_, .lst h, by decide⟩
  · exact ⟨_, .tup h, by decide⟩
/-! is_number, is_from_to, is_row -/
def sp_is_number (K : PySem.W.Frag) (a : Ad) : Sp := fun vs H Q _ => ∃ x T, vs = [x] ∧ TyB K H x T ∧ Q (.bl (isInt x)) H
abbrev N_is_number : List Str := ["thing"]
def t_is_number (K : PySem.W.Frag) (a : Ad) : TS :=
  (tRet (tOp rIsTyB (tCB (rTyp K) (tCons (tVar 0) tNil)) (tC (.ty "int"))))
theorem len_is_number {K : PySem.W.Frag} {a : Ad} {vs : List V} {H : Hp} {Q : VK} {E : XK} (h : sp_is_number K a vs H Q E) : vs.length = 1 := by
  obtain ⟨x, T, rfl, _⟩ := h
  rfl
theorem pu_is_number {K : PySem.W.Frag} {a : Ad} {vs : List V} {H : Hp} {Q : VK} {E : XK} (h : sp_is_number K a vs H Q E) : t_is_number K a { nx := fun _ H' => Q .non H', rt := Q } (start N_is_number vs) H := by
  obtain ⟨x, T, rfl, ty, q⟩ := h
  refine ⟨x, rfl, x, T, rfl, ty, _, _, rfl, rfl, ?_⟩
  rw [tyb_int ty]
  exact q
def sp_is_from_to (K : PySem.W.Frag) (a : Ad) : Sp := fun vs H Q _ => ∃ lo hi x T, vs = [.int lo, .int hi, x] ∧ TyB K H x T ∧ Q (.bl (inB lo hi x)) H
abbrev N_is_from_to : List Str := ["low", "high", "thing"]
def t_is_from_to (K : PySem.W.Frag) (a : Ad) : TS :=
  (tRet (tAndV (tCall (sp_is_number K a) [] E0 (tCons (tVar 2) tNil)) (tChain rLeI rLeI (tVar 0) (tVar 2) (tVar 1))))
theorem len_is_from_to {K : PySem.W.Frag} {a : Ad} {vs : List V} {H : Hp} {Q : VK} {E : XK} (h : sp_is_from_to K a vs H Q E) : vs.length = 3 := by
  obtain ⟨lo, hi, x, T, rfl, _⟩ := h
  rfl
theorem pu_is_from_to {K : PySem.W.Frag} {a : Ad} {vs : List V} {H : Hp} {Q : VK} {E : XK} (h : sp_is_from_to K a vs H Q E) : t_is_from_to K a { nx := fun _ H' => Q .non H', rt := Q } (start N_is_from_to vs) H := by
  obtain ⟨lo, hi, x, T, rfl, ty, q⟩ := h
  refine ⟨x, rfl, x, T, rfl, ty, isInt x, rfl, ?_⟩
  cases x with
  | int i =>
    refine iteT ⟨_, rfl, _, rfl, lo, i, rfl, rfl, _, rfl, ?_⟩
    by_cases h1 : lo ≤ i
    · rw [decide_eq_true h1]
      refine iteT ⟨_, rfl, i, hi, rfl, rfl, ?_⟩
      have e : inB lo hi (.int i) = decide (i ≤ hi) := by simp [inB, h1]
      rw [e] at q
      exact q
    · rw [decide_eq_false h1]
      have e : inB lo hi (.int i) = false := by simp [inB, h1]
      rw [e] at q
      exact iteF q
  | _ => exact iteF q
def sp_is_row (K : PySem.W.Frag) (a : Ad) : Sp := fun vs H Q _ => ∃ x T, vs = [x] ∧ TyB K H x T ∧ Q (.bl (decide (T = "list") || decide (T = "tuple"))) H
abbrev N_is_row : List Str := ["thing"]
def t_is_row (K : PySem.W.Frag) (a : Ad) : TS :=
  (tRet (tOrV (tOp rIsTyB (tCB (rTyp K) (tCons (tVar 0) tNil)) (tC (.ty "list"))) (tOp rIsTyB (tCB (rTyp K) (tCons (tVar 0) tNil)) (tC (.ty "tuple")))))
theorem len_is_row {K : PySem.W.Frag} {a : Ad} {vs : List V} {H : Hp} {Q : VK} {E : XK} (h : sp_is_row K a vs H Q E) : vs.length = 1 := by
  obtain ⟨x, T, rfl, _⟩ := h
  rfl
theorem pu_is_row {K : PySem.W.Frag} {a : Ad} {vs : List V} {H : Hp} {Q : VK} {E : XK} (h : sp_is_row K a vs H Q E) : t_is_row K a { nx := fun _ H' => Q .non H', rt := Q } (start N_is_row vs) H := by
  obtain ⟨x, T, rfl, ty, q⟩ := h
  refine ⟨x, rfl, x, T, rfl, ty, _, _, rfl, rfl, _, rfl, ?_⟩
  by_cases h1 : T = "list"
  · rw [decide_eq_true h1] at q ⊢
    exact iteT q
  · rw [decide_eq_false h1] at q ⊢
    exact iteF ⟨x, rfl, x, T, rfl, ty, _, _, rfl, rfl, q⟩
/-! check_quay, check_wishes -/
def sp_check_quay (K : PySem.W.Frag) (a : Ad) : Sp := fun vs H Q E => ∃ b, vs = [b] ∧ ChkQ K a b H E fun _ => Q .non H
abbrev N_check_quay : List Str := ["berths"]
def t_check_quay (K : PySem.W.Frag) (a : Ad) (E : XK) : TS :=
  (tIfS (tNot (tB (tCall (sp_is_from_to K a) [] E0 (tCons (tC (.int 1)) (tCons (tC (.int 400)) (tCons (tVar 0) tNil)))))) (tRaise a.e_NoQuay E) tNext)
theorem len_check_quay {K : PySem.W.Frag} {a : Ad} {vs : List V} {H : Hp} {Q : VK} {E : XK} (h : sp_check_quay K a vs H Q E) : vs.length = 1 := by
  obtain ⟨b, rfl, _⟩ := h
  rfl
theorem pu_check_quay {K : PySem.W.Frag} {a : Ad} {vs : List V} {H : Hp} {Q : VK} {E : XK} (h : sp_check_quay K a vs H Q E) : t_check_quay K a E { nx := fun _ H' => Q .non H', rt := Q } (start N_check_quay vs) H := by
  obtain ⟨b, rfl, T, ty, h⟩ := h
  refine ⟨b, rfl, 1, 400, b, T, rfl, ty, inB 1 400 b, rfl, ?_⟩
  rcases h with ⟨e, q⟩ | ⟨n, rfl, h1, h2, q⟩
  · rw [e]
    exact iteT q
  · have e : inB 1 400 (.int n) = true := by simp [inB]; omega
    rw [e]
    exact iteF q
def sp_check_wishes (K : PySem.W.Frag) (a : Ad) : Sp := fun vs H Q E => ∃ b w, vs = [b, w] ∧ ChkW K a b w H E fun _ _ _ => Q .non H
abbrev N_check_wishes : List Str := ["berths", "wishes", "wish"]
def t_check_wishes (K : PySem.W.Frag) (a : Ad) (E : XK) : TS :=
  (tSeq (tDrop (tCall (sp_check_quay K a) [] E (tCons (tVar 0) tNil)))
    (tSeq (tIfS (tNot (tB (tCall (sp_is_row K a) [] E0 (tCons (tVar 1) tNil)))) (tRaise a.e_NoWishes E) tNext)
    (tSeq (tIfS (tTest (tOp rGtI (tCB (rLenSq K) (tCons (tVar 1) tNil)) (tC (.int 400)))) (tRaise a.e_NoWishes E) tNext)
    (tFor (iSeq K (tVar 1)) (gName 2)
    (tIfS (tNot (tB (tCall (sp_is_from_to K a) [] E0 (tCons (tC (.int 1)) (tCons (tVar 0) (tCons (tVar 2) tNil)))))) (tRaise a.e_NoWishes E) tNext)))))
theorem len_check_wishes {K : PySem.W.Frag} {a : Ad} {vs : List V} {H : Hp} {Q : VK} {E : XK} (h : sp_check_wishes K a vs H Q E) : vs.length = 2 := by
  obtain ⟨b, w, rfl, _⟩ := h
  rfl
theorem pu_check_wishes {K : PySem.W.Frag} {a : Ad} {vs : List V} {H : Hp} {Q : VK} {E : XK} (h : sp_check_wishes K a vs H Q E) : t_check_wishes K a E { nx := fun _ H' => Q .non H', rt := Q } (start N_check_wishes vs) H := by
  obtain ⟨b, w, rfl, h⟩ := h
  refine ⟨b, rfl, b, rfl, ChkQ.imp h fun n e h1 h2 r => ?_⟩
  rcases r with ⟨T, ty, n1, n2, q⟩ | ⟨p, xs, rfl, hs, ht, r⟩
  · refine ⟨w, rfl, w, T, rfl, ty, _, rfl, ?_⟩
    rw [decide_eq_false n1, decide_eq_false n2]
    exact iteT q
  · obtain ⟨T, ty, eT⟩ := hs.ty
    refine ⟨.ref p, rfl, .ref p, T, rfl, ty, _, rfl, ?_⟩
    rw [eT]
    refine iteF ⟨.ref p, rfl, p, xs, rfl, hs, _, _, rfl, rfl, _, rfl, ?_⟩
    have done : (goodW n xs = false → E (.ref a.e_NoWishes) none H) ∧ (goodW n xs = true → Q .non H) := by
      rcases r with ⟨g, q⟩ | ⟨ws, ex, hl, hb, q⟩
      · exact ⟨fun _ => q, fun g' => by rw [g] at g'; cases g'⟩
      · have g : goodW n xs = true := by rw [ex]; exact goodW_ints.mpr ⟨hl, hb⟩
        exact ⟨fun g' => (by rw [g] at g'; cases g'), fun _ => q⟩
    by_cases hl : xs.length ≤ 400
    · rw [decide_eq_false (show ¬ ((400 : Int) < (xs.length : Int)) by omega)]
      refine iteF (for_seq (K := K) (H0 := H) (fun Q q => ⟨.ref p, rfl, q⟩) hs (fun i σ H' => H' = H ∧ (xs.take i).all (inB 1 n) = true ∧ ∃ y, σ = [some b, some (.ref p), y]) ⟨rfl, rfl, none, rfl⟩ (fun i σ H' e => by rw [e.1]; exact Same.refl H) ?_ ?_)
      · rintro i x σ H' hx ⟨rfl, ha, y, rfl⟩
        obtain ⟨T, ty⟩ := ht x (List.mem_of_getElem? hx)
        refine ⟨b, rfl, x, rfl, 1, n, x, T, by rw [e] <;> rfl, ty, inB 1 n x, rfl, ?_⟩
        cases g : inB 1 n x with
        | true => exact iteF ⟨rfl, by rw [take_more hx, List.all_append, ha]; simp [g], some x, rfl⟩
        | false =>
          refine iteT (done.1 ?_)
          unfold goodW
          have : xs.all (inB 1 n) = false := by
            cases z : xs.all (inB 1 n) with
            | false => rfl
            | true =>
              rw [List.all_eq_true] at z
              rw [z x (List.mem_of_getElem? hx)] at g
              cases g
          rw [this, Bool.and_false]
      · rintro σ H' ⟨rfl, ha, y, rfl⟩
        rw [List.take_length] at ha
        refine done.2 ?_
        unfold goodW
        rw [ha, decide_eq_true hl]
        rfl
    · rw [decide_eq_true (show (400 : Int) < (xs.length : Int) by omega)]
      refine iteT (done.1 ?_)
      unfold goodW
      rw [decide_eq_false hl]
      rfl

/-! ### the straight quay: the mathematics of laying -/
/-- the first free one of k berths from w on -/
def ffr (occ : Int → Bool) : Nat → Int → Option Int
  | 0, _ => none
  | k + 1, w => if occ w = true then ffr occ k (w + 1) else some w
def ffree (n : Nat) (occ : Int → Bool) (w : Int) : Option Int := ffr occ ((n : Int) + 1 - w).toNat w
def setO (occ : Int → Bool) (b : Int) : Int → Bool := fun x => decide (x = b) || occ x
def pstep (n : Nat) (s : (Int → Bool) × List (Option Int)) (w : Int) : (Int → Bool) × List (Option Int) :=
  match ffree n s.1 w with
  | none => (s.1, s.2 ++ [none])
  | some b => (setO s.1 b, s.2 ++ [some b])
def prun (n : Nat) (ws : List Int) : (Int → Bool) × List (Option Int) := ws.foldl (pstep n) (fun _ => false, [])
def placedL (n : Nat) (ws : List Int) : List (Option Int) := (prun n ws).2
def vO : Option Int → V
  | none => .non
  | some b => .int b
def heldL (n : Nat) (occ : Int → Bool) : List V := (List.range (n + 1)).map fun (i : Nat) => V.bl (occ (i : Int))
theorem ffr_spec {occ : Int → Bool} : ∀ (k : Nat) (w : Int), (∀ b, ffr occ k w = some b → w ≤ b ∧ b < w + k ∧ occ b = false ∧ ∀ x, w ≤ x → x < b → occ x = true) ∧ (ffr occ k w = none → ∀ x, w ≤ x → x < w + k → occ x = true)
  | 0, w => ⟨fun b h => (by cases h), fun _ x h1 h2 => by omega⟩
  | k + 1, w => by
    obtain ⟨i1, i2⟩ := ffr_spec (occ := occ) k (w + 1)
    unfold ffr
    cases e : occ w with
    | true =>
      rw [if_pos rfl]
      refine ⟨fun b h => ?_, fun h x h1 h2 => ?_⟩
      · obtain ⟨j1, j2, j3, j4⟩ := i1 b h
        refine ⟨by omega, by omega, j3, fun x h1 h2 => ?_⟩
        by_cases z : x = w
        · rw [z]; exact e
        · exact j4 x (by omega) h2
      · by_cases z : x = w
        · rw [z]; exact e
        · exact i2 h x (by omega) (by omega)
    | false =>
      rw [if_neg Bool.false_ne_true]
      refine ⟨fun b h => ?_, fun h => (by cases h)⟩
      cases h
      exact ⟨Int.le_refl _, by omega, e, fun x h1 h2 => by omega⟩
theorem ffree_some {n : Nat} {occ : Int → Bool} {w b : Int} (h : ffree n occ w = some b) : w ≤ b ∧ b ≤ n ∧ occ b = false ∧ ∀ x, w ≤ x → x < b → occ x = true := by
  obtain ⟨h1, h2, h3, h4⟩ := (ffr_spec _ _).1 b h
  exact ⟨h1, by omega, h3, h4⟩
theorem ffree_none {n : Nat} {occ : Int → Bool} {w : Int} (h : ffree n occ w = none) : ∀ x, w ≤ x → x ≤ n → occ x = true := fun x h1 h2 => (ffr_spec _ _).2 h x h1 (by omega)
theorem prun_more {n : Nat} {ws : List Int} {i : Nat} {w : Int} (h : ws[i]? = some w) : prun n (ws.take (i + 1)) = pstep n (prun n (ws.take i)) w := by
  unfold prun
  rw [take_more h, List.foldl_append]
  rfl
theorem prun_snoc {n : Nat} {ws : List Int} {w : Int} : prun n (ws ++ [w]) = pstep n (prun n ws) w := by
  unfold prun
  rw [List.foldl_append]
  rfl
theorem pstep_len {n : Nat} {s : (Int → Bool) × List (Option Int)} {w : Int} : (pstep n s w).2.length = s.2.length + 1 := by
  unfold pstep
  cases ffree n s.1 w <;> simp
theorem snoc_ind {α : Type} {p : List α → Prop} (h0 : p []) (h1 : ∀ l x, p l → p (l ++ [x])) : ∀ l, p l := fun l => by
  have : ∀ n, ∀ l : List α, l.length = n → p l := by
    intro n
    induction n with
    | zero => intro l h; rw [List.length_eq_zero_iff.mp h]; exact h0
    | succ n ih =>
      intro l h
      have hne : l ≠ [] := fun z => by rw [z] at h; cases h
      rw [← List.dropLast_concat_getLast hne]
      exact h1 _ _ (ih _ (by rw [List.length_dropLast, h]; rfl))
  exact this _ l rfl
theorem prun_len {n : Nat} : ∀ ws : List Int, (prun n ws).2.length = ws.length := snoc_ind rfl fun ws w ih => by
  rw [prun_snoc, pstep_len, ih]
  simp
theorem placedL_len {n : Nat} {ws : List Int} : (placedL n ws).length = ws.length := prun_len ws
theorem heldL_at {n : Nat} {occ : Int → Bool} {i : Nat} (h : i ≤ n) : (heldL n occ)[i]? = some (.bl (occ (i : Int))) := by
  unfold heldL
  rw [List.getElem?_map, List.getElem?_range (by omega)]
  rfl
theorem heldL_len {n : Nat} {occ : Int → Bool} : (heldL n occ).length = n + 1 := by simp [heldL]
theorem heldL_set {n : Nat} {occ : Int → Bool} {b : Int} (h0 : 0 ≤ b) (h : b ≤ n) : (heldL n occ).set b.toNat (.bl true) = heldL n (setO occ b) := by
  apply List.ext_getElem?
  intro i
  by_cases hi : i ≤ n
  · rw [heldL_at hi]
    by_cases e : i = b.toNat
    · subst e
      rw [List.getElem?_set_self (by rw [heldL_len]; omega)]
      have : ((b.toNat : Nat) : Int) = b := by omega
      simp [setO, this]
    · rw [List.getElem?_set_ne (Ne.symm e), heldL_at hi]
      have : ¬ ((i : Nat) : Int) = b := by omega
      simp [setO, this]
  · rw [List.getElem?_eq_none (show ((heldL n occ).set b.toNat (V.bl true)).length ≤ i by rw [List.length_set, heldL_len]; omega), List.getElem?_eq_none (show (heldL n (setO occ b)).length ≤ i by rw [heldL_len]; omega)]
theorem heldL_new {n : Nat} : (List.replicate (n + 1) [V.bl false]).flatten = heldL n (fun _ => false) := by
  apply List.ext_getElem?
  intro i
  have e : (List.replicate (n + 1) [V.bl false]).flatten = List.replicate (n + 1) (V.bl false) := by
    generalize n + 1 = m
    induction m with
    | zero => rfl
    | succ m ih => rw [List.replicate_succ, List.replicate_succ, List.flatten_cons, ih]; rfl
  rw [e]
  by_cases hi : i ≤ n
  · rw [heldL_at hi, List.getElem?_replicate_of_lt (by omega)]
  · rw [List.getElem?_eq_none (show (List.replicate (n + 1) (V.bl false)).length ≤ i by rw [List.length_replicate]; omega), List.getElem?_eq_none (show (heldL n fun _ => false).length ≤ i by rw [heldL_len]; omega)]
theorem l1000 {n : Nat} (h : n ≤ 1000) : n ≤ sizeLine := Nat.le_of_lt (small1000 h)
/-! ### first_free -/
def sp_first_free (K : PySem.W.Frag) (a : Ad) : Sp := fun vs H Q _ => ∃ (h : Addr) (n : Nat) (occ : Int → Bool) (w : Int), vs = [.ref h, .int w] ∧ SqL K H h (heldL n occ) ∧ n ≤ 900 ∧ 0 ≤ w ∧ w ≤ 1000 ∧ Q (vO (ffree n occ w)) H
abbrev N_first_free : List Str := ["held", "wish", "berth"]
def t_first_free (K : PySem.W.Frag) (a : Ad) : TS :=
  (tSeq (tFor (iRng2 (tCons (tVar 1) (tCons (tCB (rLenSq K) (tCons (tVar 0) tNil)) tNil))) (gName 2)
    (tIfS (tNot (tB (tOp (rIxL K) (tVar 0) (tVar 2)))) (tRet (tVar 2)) tNext))
    (tRet (tC .non)))
theorem len_first_free {K : PySem.W.Frag} {a : Ad} {vs : List V} {H : Hp} {Q : VK} {E : XK} (h : sp_first_free K a vs H Q E) : vs.length = 2 := by
  obtain ⟨h, n, occ, w, rfl, _⟩ := h
  rfl
theorem pu_first_free {K : PySem.W.Frag} {a : Ad} {vs : List V} {H : Hp} {Q : VK} {E : XK} (h : sp_first_free K a vs H Q E) : t_first_free K a { nx := fun _ H' => Q .non H', rt := Q } (start N_first_free vs) H := by
  obtain ⟨h, n, occ, w, rfl, hs, hn, h0, hw, q⟩ := h
  refine ⟨.int w, rfl, .ref h, rfl, h, _, rfl, .inl hs, w, ((heldL n occ).length : Nat), rfl, ?_, ?_⟩
  · rw [heldL_len]
    omega
  rw [heldL_len]
  have en : (((n + 1 : Nat) : Int) - w).toNat = ((n : Int) + 1 - w).toNat := by omega
  rw [en]
  refine for_range (fun i σ H' => H' = H ∧ ffree n occ w = ffr occ (((n : Int) + 1 - w).toNat - i) (w + i) ∧ ∃ y, σ = [some (.ref h), some (.int w), y]) ⟨rfl, by simp [ffree], none, rfl⟩ ?_ ?_
  · rintro i σ H' hi ⟨rfl, e, y, rfl⟩
    have hx : (heldL n occ)[(w + i).toNat]? = some (.bl (occ (w + i))) := by
      rw [heldL_at (by omega)]
      have : (((w + i).toNat : Nat) : Int) = w + i := by omega
      rw [this]
    refine ⟨.ref h, rfl, .int (w + i), rfl, h, _, _, .bl (occ (w + i)), rfl, rfl, hs, at_of (by omega) hx, occ (w + i), rfl, ?_⟩
    have e2 : ((n : Int) + 1 - w).toNat - i = (((n : Int) + 1 - w).toNat - (i + 1)) + 1 := by omega
    rw [e2] at e
    unfold ffr at e
    cases o : occ (w + i) with
    | true =>
      rw [o, if_pos rfl] at e
      refine iteF ⟨rfl, ?_, some (.int (w + i)), rfl⟩
      rw [e]
      congr 1
      omega
    | false =>
      rw [o, if_neg Bool.false_ne_true] at e
      refine iteT ⟨.int (w + i), rfl, ?_⟩
      rw [e] at q
      exact q
  · rintro σ H' ⟨rfl, e, y, rfl⟩
    rw [Nat.sub_self] at e
    rw [e] at q
    exact q
/-! ### placed -/
def sp_placed (K : PySem.W.Frag) (a : Ad) : Sp := fun vs H Q E => ∃ b w, vs = [b, w] ∧ ChkW K a b w H E fun n ws _ => ∀ (l : Addr) (H' : Hp), H l = none → Same H H' → H' l = some (.lst ((placedL n ws).map vO)) → Q (.ref l) H'
abbrev N_placed : List Str := ["berths", "wishes", "held", "found", "wish", "berth"]
def t_placed (K : PySem.W.Frag) (a : Ad) (E : XK) : TS :=
  (tSeq (tDrop (tCall (sp_check_wishes K a) [] E (tCons (tVar 0) (tCons (tVar 1) tNil))))
    (tSeq (tAsg (tOp rRep (tLst (tCons (tC (.bl false)) tNil)) (tOp rAddI (tVar 0) (tC (.int 1)))) (gName 2))
    (tSeq (tAsg (tLst tNil) (gName 3))
    (tSeq (tFor (iSeq K (tVar 1)) (gName 4)
    (tSeq (tAsg (tCall (sp_first_free K a) [] E0 (tCons (tVar 2) (tCons (tVar 4) tNil))) (gName 5))
    (tSeq (tIfS (tB (tNotN (tVar 5))) (tAsg (tC (.bl true)) (gSub (tVar 2) (tVar 5) rSetL)) tNext)
    (tDrop (tBM K "list" rAppend (tVar 3) (tCons (tVar 5) tNil))))))
    (tRet (tVar 3))))))
theorem len_placed {K : PySem.W.Frag} {a : Ad} {vs : List V} {H : Hp} {Q : VK} {E : XK} (h : sp_placed K a vs H Q E) : vs.length = 2 := by
  obtain ⟨b, w, rfl, _⟩ := h
  rfl
theorem pu_placed {K : PySem.W.Frag} {a : Ad} {vs : List V} {H : Hp} {Q : VK} {E : XK} (h : sp_placed K a vs H Q E) : t_placed K a E { nx := fun _ H' => Q .non H', rt := Q } (start N_placed vs) H := by
  obtain ⟨b, w, rfl, h⟩ := h
  refine ⟨b, rfl, w, rfl, b, w, rfl, ChkW.imp h fun n ws p eb ew h1 h2 hs hl hb q => ?_⟩
  subst eb
  subst ew
  -- held = [False] * (berths + 1)
  refine ⟨by decide, fun l0 nl0 => ⟨.int n, rfl, n, 1, rfl, rfl, l0, _, _, rfl, rfl, upd_same, by omega, by omega, ?_, fun l1 nl1 => ?_⟩⟩
  · refine l1000 ?_
    show 1 * _ ≤ _
    omega
  have e1 : ((n : Int) + 1).toNat = n + 1 := by omega
  rw [e1, heldL_new]
  have s0 : Same H (upd H l0 (.lst [.bl false])) := same_new nl0
  have n1 : H l1 = none := s0.free nl1
  have s1 := s0.store n1 (o := .lst (heldL n fun _ => false))
  -- found = []
  refine ⟨Nat.zero_le _, fun l2 nl2 => ?_⟩
  have n2 : H l2 = none := s1.free nl2
  have hne : l1 ≠ l2 := ne_of_none upd_same nl2
  refine for_seq (K := K) (H0 := H) (fun Q q => ⟨.ref p, rfl, q⟩) hs (fun i σ H' => (∃ y z, σ = [some (.int n), some (.ref p), some (.ref l1), some (.ref l2), y, z]) ∧ Same H H' ∧ H' l1 = some (.lst (heldL n (prun n (ws.take i)).1)) ∧ H' l2 = some (.lst ((prun n (ws.take i)).2.map vO))) ⟨⟨none, none, rfl⟩, s1.store n2, by rw [upd_ne hne]; exact upd_same, upd_same⟩ (fun i σ H' h => h.2.1) ?_ ?_
  · rintro i x σ H' hx ⟨⟨y, z, rfl⟩, s, eh, ef⟩
    obtain ⟨w, hw, rfl⟩ := item_of hx
    have bw := hb w (List.mem_of_getElem? hw)
    refine ⟨.ref l1, rfl, .int w, rfl, l1, n, _, w, rfl, .inl (.inl eh), by omega, by omega, by omega, ?_⟩
    have step := prun_more (n := n) hw
    have fl : (prun n (ws.take i)).2.length < sizeLine := by
      rw [prun_len, List.length_take]
      exact small1000 (by omega)
    cases e : ffree n (prun n (ws.take i)).1 w with
    | none =>
      have step' : prun n (ws.take (i + 1)) = ((prun n (ws.take i)).1, (prun n (ws.take i)).2 ++ [none]) := by rw [step]; simp only [pstep, e]
      refine ⟨.non, rfl, false, rfl, iteF ⟨.ref l2, rfl, .inl ⟨rfl, _, .inl (.inl ef)⟩, .non, rfl, l2, _, _, rfl, rfl, ef, by rw [List.length_map]; exact fl, ?_⟩⟩
      refine ⟨⟨_, _, rfl⟩, s.store n2, ?_, ?_⟩
      · rw [upd_ne hne, step']
        exact eh
      · rw [upd_same, step', List.map_append]
        rfl
    | some b =>
      have step' : prun n (ws.take (i + 1)) = (setO (prun n (ws.take i)).1 b, (prun n (ws.take i)).2 ++ [some b]) := by rw [step]; simp only [pstep, e]
      obtain ⟨b1, b2, _⟩ := ffree_some e
      refine ⟨.int b, rfl, true, rfl, iteT ⟨.ref l1, rfl, .int b, rfl, l1, _, b, b.toNat, rfl, rfl, eh, ?_, ?_⟩⟩
      · unfold ixN
        rw [if_pos (by omega), heldL_len, if_pos (by omega)]
      rw [heldL_set (by omega) b2]
      have ef' : (upd H' l1 (.lst (heldL n (setO (prun n (ws.take i)).1 b)))) l2 = some (.lst ((prun n (ws.take i)).2.map vO)) := by rw [upd_ne hne.symm]; exact ef
      refine ⟨.ref l2, rfl, .inl ⟨rfl, _, .inl (.inl ef')⟩, .int b, rfl, l2, _, _, rfl, rfl, ef', by rw [List.length_map]; exact fl, ?_⟩
      refine ⟨⟨_, _, rfl⟩, (s.store n1).store n2, ?_, ?_⟩
      · rw [upd_ne hne, upd_same, step']
      · rw [upd_same, step', List.map_append]
        rfl
  · rintro σ H' ⟨⟨y, z, rfl⟩, s, eh, ef⟩
    rw [List.length_map, List.take_length] at ef
    exact ⟨.ref l2, rfl, q l2 H' n2 s ef⟩

/-! ### taken, gone_on -/
def somes (l : List (Option Int)) : List Int := l.filterMap id
def sortI (l : List Int) : List Int := l.mergeSort fun x y => decide (x ≤ y)
theorem sortI_perm (l : List Int) : (sortI l).Perm l := List.mergeSort_perm l _
theorem sortI_sorted (l : List Int) : (sortI l).Pairwise (· ≤ ·) := by
  have h := List.pairwise_mergeSort (le := fun (x y : Int) => decide (x ≤ y)) (fun a b c h1 h2 => by simp only [decide_eq_true_eq] at *; omega) (fun a b => by simp only [Bool.or_eq_true, decide_eq_true_eq]; omega) l
  exact List.Pairwise.imp (fun h => of_decide_eq_true h) h
theorem sortI_uniq {l l' : List Int} (hp : l'.Perm l) (hs : l'.Pairwise (· ≤ ·)) : l' = sortI l := PySem.W.ksm_same (hp.trans (sortI_perm l).symm) hs (sortI_sorted l)
def takenL (n : Nat) (ws : List Int) : List Int := sortI (somes (placedL n ws))
/-- of each ship that lies, how far behind its wish -/
def goneL (ws : List Int) (bs : List (Option Int)) : List Int := (ws.zip bs).filterMap fun p => p.2.map fun b => b - p.1
theorem filter_some : ∀ l : List (Option Int), (l.filter Option.isSome).map vO = (somes l).map V.int
  | [] => rfl
  | none :: l => filter_some l
  | some b :: l => congrArg (V.int b :: ·) (filter_some l)
theorem vO_not (o : Option Int) : (!decide (vO o = .non)) = o.isSome := by
  cases o <;> rfl
theorem zip_gone : ∀ (ws : List Int) (bs : List (Option Int)), ((ws.zip bs).filter fun p => p.2.isSome).map (fun p => V.int ((p.2.getD 0) - p.1)) = (goneL ws bs).map V.int
  | [], _ => by simp [goneL]
  | _ :: _, [] => by simp [goneL]
  | w :: ws, none :: bs => by
    have ih := zip_gone ws bs
    simp only [List.zip_cons_cons, goneL] at ih ⊢
    simpa using ih
  | w :: ws, some b :: bs => by
    have ih := zip_gone ws bs
    simp only [List.zip_cons_cons, goneL] at ih ⊢
    simpa using ih
theorem zip_at {ws : List Int} {bs : List (Option Int)} {i : Nat} {x : Int × Option Int} (h : (ws.zip bs)[i]? = some x) : ws[i]? = some x.1 ∧ bs[i]? = some x.2 := by
  rw [List.getElem?_zip_eq_some] at h
  exact h
/-! ### try: .. except C as e: kept = e: the caught one stays known by its class -/
def ExK (cls : Value) (d : Option Addr) (a : Addr) : HO := .ext fun h => ∃ (oe : Obj) (vs : Array Value), h.get? a = some oe ∧ Zc cls d oe ∧ oe.data = .fields vs
theorem exK_ok {P : Program} {w : World} {H : Hp} {h : Heap} {a : Addr} {cls : Value} {d : Option Addr} {oe : Obj} {vs : Array Value} (e : h.get? a = some oe) (z : Zc cls d oe) (dd : oe.data = .fields vs) : ObjOk P w H h a (ExK cls d a) :=
  ⟨⟨oe, vs, e, z, dd⟩, ⟨oe, e⟩, fun _ _ ⟨o, v, q, r⟩ k => ⟨o, v, k o q, r⟩⟩
section
variable {X : Cx} {pins : List (Addr × Obj)} {σ : L2.St} {H : Hp} {s : Shared}
/-- a pinned exception that came behind the entry becomes tracked -/
theorem keep_exc {a : Addr} {oe : Obj} {vs : Array Value} {cls : Value} {d : Option Addr} (J : Inv X ((a, oe) :: pins) σ H s) (z : Zc cls d oe) (dd : oe.data = .fields vs) (h0 : X.s_0.heap.get? a = none) (np : ∀ p ∈ X.pn ++ pins, p.1 ≠ a) : Inv X pins σ (upd H a (ExK cls d a)) s := by
  obtain ⟨ea, na, nL, nF, nc⟩ := J.pin (a, oe) (List.mem_append_right _ List.mem_cons_self)
  have ne : ∀ {b : Addr} {o : HO}, H b = some o → b ≠ a := fun e q => by
    rw [q] at e
    have na' : H a = none := na
    rw [na'] at e
    cases e
  refine ⟨J.ok, J.os, J.bare, ⟨J.base.keep, J.base.slot, fun b o e n hx => ?_, J.base.there, fun b xs e => ?_, fun b o u e => ?_, fun b ps e => ?_⟩, J.loc, J.cell, ?_, fun x c e => ?_, fun p hp => ?_, fun b o e => ?_, J.len⟩
  · have hb : b ≠ a := fun q => by
      rw [q, h0] at e
      cases e
    rw [upd_ne hb]
    exact J.base.free b o e n hx
  · have e2 := J.base.tups b xs e
    rw [upd_ne (ne e2)]
    exact e2
  · have e2 := J.base.frzs b o u e
    rw [upd_ne (ne e2)]
    exact e2
  · obtain ⟨more, e2⟩ := J.base.tbls b ps e
    refine ⟨more, ?_⟩
    rw [upd_ne (ne e2)]
    exact e2
  · rw [upd_ne (fun q => nL q.symm)]
    exact J.free
  · have hc : c ≠ a := fun q => by
      obtain ⟨v, o, e1, e2⟩ := J.cell x c e
      rw [q] at e1
      have ea' : s.heap.get? a = some oe := ea
      rw [ea'] at e1
      cases e1
      rw [dd] at e2
      cases e2
    rw [upd_ne hc]
    exact J.freeC x c e
  · have hp' : p ∈ X.pn ++ (a, oe) :: pins := by
      rcases List.mem_append.mp hp with k | k
      · exact List.mem_append_left _ k
      · exact List.mem_append_right _ (List.mem_cons_of_mem _ k)
    obtain ⟨q1, q2, q3, q4, q5⟩ := J.pin p hp'
    exact ⟨q1, by rw [upd_ne (np p hp)]; exact q2, q3, q4, q5⟩
  · by_cases hb : b = a
    · subst hb
      rw [upd_same] at e
      cases e
      exact exK_ok ea z dd
    · rw [upd_ne hb] at e
      refine (J.hok b o e).stay (fun c u _ q => q) (fun c q => ?_) fun c xs q => ?_
      · rw [upd_ne (ne q)]
        exact q
      · rw [upd_ne (ne q)]
        exact q
end
/-- what the clause wishes of an exception of the body: it is caught, kept in slot j; the clause's own name, slot i, is empty behind it -/
def wKeep (K : PySem.W.Frag) (c : Addr) (i j : Nat) (D : Ends) : WX := fun cls d σ H =>
  PySem.W.exmOne K cls (.ref c) = some true ∧ ∀ a, H a = none → D.nx (((σ.set i (some (.ref a))).set j (some (.ref a))).set i none) (upd H a (ExK cls d a))
def tTryKeep (K : PySem.W.Frag) (c : Addr) (i j : Nat) (tb : WX → TS) : TS := fun D σ H => tb (wKeep K c i j D) D σ H
section
variable {X : Cx} {x n : Str} {c : Addr} {i j : Nat} {body suite : List Stmt} {b1 : Stmt} {np pos pos' : Pos} {tb : WX → TS}
/-- an exception caught, its clause ended, it is tracked -/
theorem caught_kept {a : Addr} {pins : List (Addr × Obj)} {σ : L2.St} {H : Hp} {B : Heap} {sI s' : Shared} {cls : Value} {d : Option Addr} {D : Ends}
    (hs : X.stack = X.env :: X.outer) (hf : X.env.frame = some X.env.locals) (hex : X.ex = []) (hN : X.N.Nodup) (hi : X.N[i]? = some n) (hln : X.env.kindOf n = some .local) (hc : Names X x (.ref c)) (ok : X.Ok)
    (hsu : ∀ (a : Addr) (oe : Obj) (cls : Value) (d : Option Addr) (pn : List (Addr × Obj)), Zc cls d oe → (∃ vs, oe.data = .fields vs) → PSs (X.suite a ((a, oe) :: pn)) (b1 :: suite) (tAsg (tVar i) (gName j)))
    (hln2 : i < σ.length)
    (J : Inv X pins σ H sI) (nb : ∀ b o, sI.heap.get? b = some o → b ∉ frs X.stack → B.get? b = some o) (up : sI.heap.UpToSlots s'.heap) (sky : Sky B X.stack a (Zc cls d) X.env.locals s'.heap) (na : H a = none) (os : s'.os = sI.os) (ag : AllBare s'.gens)
    (w : wKeep X.K c i j D cls d σ H) :
    wpAny (model X.prog X.w) X.A (noteFrame (.ref a) X.env) (fun _ s₂ => wpAny (model X.prog X.w) X.A (setFlight (.ref a) none) (fun _ s₃ =>
      wpAny (model X.prog X.w) X.A (handleBy (.ref a) X.env [.ExceptHandler (some (.Name x np)) (some n) (b1 :: suite) pos']) (SP X pins D) X.xe s₃) X.xe s₂) X.xe s' := by
  obtain ⟨hb, hyes⟩ := w
  have frames : X.A.frames = some (X.env :: X.outer) := ok.frames.trans (congrArg some hs)
  have sky2 : Sky B (X.env :: X.outer) a (Zc cls d) X.env.locals s'.heap := hs ▸ sky
  -- the exception stands apart from all that stood
  have hB : B.get? a = none := by
    rcases sky with q | q | q
    · exact q.2.1
    · exact q.2.1
    · exact q.2.1
  refine Sky.land Zc.steady frames hf sky2 fun h3 fl3 up3 => ?_
  have J3 : Inv X pins σ H { s' with heap := h3 } := J.landed nb fl3.1 (up.trans up3) os ag
  obtain ⟨oe3, vs3, he3, hz3, hd3⟩ := fl3.there
  have notIn : a ∉ frs (X.env :: X.outer) := fun hm => by
    obtain ⟨_, o, e, hnf⟩ := fl3.2.2.1.mem hm
    rw [he3] at e
    cases e
    exact hnf _ hd3
  have nL : a ≠ X.env.locals := fun z => notIn (List.mem_filterMap.mpr ⟨X.env, List.mem_cons_self, hf.trans (congrArg some z.symm)⟩)
  have nF : a ∉ X.fs := fun hm => by
    obtain ⟨e, he, q⟩ := List.mem_filterMap.mp hm
    exact notIn (List.mem_filterMap.mpr ⟨e, List.mem_cons_of_mem _ he, q⟩)
  have nS : a ∉ frs X.stack := hs ▸ notIn
  have h0 : X.s_0.heap.get? a = none := by
    cases q : X.s_0.heap.get? a with
    | none => rfl
    | some o =>
      obtain ⟨o', e⟩ := J.base.there a o q (by rw [hex]; simp)
      rw [nb a o' e nS] at hB
      cases hB
  have npin : ∀ p ∈ X.pn ++ pins, p.1 ≠ a := fun p hp z => by
    obtain ⟨e, _, p3, p4, _⟩ := J.pin p hp
    rw [z] at e
    rw [nb a p.2 e nS] at hB
    cases hB
  refine wpAny_handleBy_cons (codeAny_handlers_test ?_) (by intro q; cases q)
  have S3 := J3.suite he3 hd3 na nL nF
  have LT : PySem.W.Looks (model X.prog X.w) h3 (typeOf (.ref a)) cls := fun A Q E s k q => wpAny_typeOf_ref (k _ _ he3) (by rw [hz3.1]; exact q)
  have test : ∀ {Q : Value → Shared → Prop} {E : Value → Shared → Prop}, Q (.ref c) { s' with heap := h3 } → wpAny (model X.prog X.w) (X.A.mark (some (.ref a))) (eval (.Name x np) X.env) Q E { s' with heap := h3 } := fun {Q E} q => by
    obtain ⟨hg, hdbg, hm | ⟨hm, hv, hnn⟩⟩ := hc
    · exact ld_glob (X := X.suite a ((a, oe3) :: (X.pn ++ pins))) S3 hg hm q hdbg
    · exact ld_blt (X := X.suite a ((a, oe3) :: (X.pn ++ pins))) S3 hg hm hv q hnn hdbg
  refine test ((PySem.W.exm_one (M := model X.prog X.w) J3.kIn LT hb).here ?_)
  refine codeAny_handlers_suite_as (HandSPX.lands_againZ fl3 fun h4 fl4 up4 => ?_)
  have J4 : Inv X pins σ H { s' with heap := h4 } := J.landed nb fl4.1 ((up.trans up3).trans up4) os ag
  obtain ⟨oe4, vs4, he4, hz4, hd4⟩ := fl4.there
  have S4 := J4.suite he4 hd4 na nL nF
  refine store_ok (X := X.suite a ((a, oe4) :: (X.pn ++ pins))) (v := .ref a) S4 hN hi (.inl hln) rfl (fun s5 S5 => ?_) (.inr hln)
  have q5 : (tAsg (tVar i) (gName j)) { nx := fun σ' H' => H' = H ∧ σ' = (σ.set i (some (.ref a))).set j (some (.ref a)), rt := fun _ _ => False } (σ.set i (some (.ref a))) H := by
    exact ⟨.ref a, by rw [List.getElem?_set_self hln2], rfl, rfl⟩
  refine wpAny_mono ((hsu a oe4 cls d (X.pn ++ pins) hz4 ⟨_, hd4⟩).run [] s5 _ H _ S5 q5) (fun f s6 hsp => ?_) (fun _ _ z => False.elim z)
  cases f with
  | next =>
    obtain ⟨σ6, H6, S6, rfl, rfl⟩ := hsp
    have P6 : Inv X ((a, oe4) :: pins) ((σ.set i (some (.ref a))).set j (some (.ref a))) H6 s6 :=
      ⟨ok, S6.os, S6.bare, S6.base, S6.loc, S6.cell, S6.free, S6.freeC, fun p hp => S6.pin p (by
        rw [List.append_nil]
        rcases List.mem_append.mp hp with k | k
        · exact List.mem_cons_of_mem _ (List.mem_append_left _ k)
        · rcases List.mem_cons.mp k with k | k
          · rw [k]; exact List.mem_cons_self
          · exact List.mem_cons_of_mem _ (List.mem_append_right _ k)), S6.hok, S6.len⟩
    refine gone_ok P6 hN hi hln fun s7 J7 => ?_
    exact ⟨_, _, keep_exc J7 hz4 hd4 h0 npin, hyes a na⟩
  | brk =>
    obtain ⟨_, _, _, q⟩ := hsp
    exact q.elim
  | cont =>
    obtain ⟨_, _, _, q⟩ := hsp
    exact q.elim
  | ret u =>
    obtain ⟨_, _, _, _, _, q⟩ := hsp
    exact q.elim
theorem ps_try_keep (hs : X.stack = X.env :: X.outer) (hf : X.env.frame = some X.env.locals) (hex : X.ex = []) (hN : X.N.Nodup) (hi : X.N[i]? = some n) (hln : X.env.kindOf n = some .local) (hc : Names X x (.ref c))
    (hb : ∀ (W : WX) (pn : List (Addr × Obj)) (xe : Value → Shared → Prop), Takes (X.tr pn xe) W → PassesOwn (model X.prog X.w) X.A X.env xe → PSs (X.tr pn xe) body (tb W))
    (hsu : ∀ (a : Addr) (oe : Obj) (cls : Value) (d : Option Addr) (pn : List (Addr × Obj)), Zc cls d oe → (∃ vs, oe.data = .fields vs) → PSs (X.suite a ((a, oe) :: pn)) (b1 :: suite) (tAsg (tVar i) (gName j))) :
    PS X (.Try body [.ExceptHandler (some (.Name x np)) (some n) (b1 :: suite) pos'] [] [] pos) (tTryKeep X.K c i j tb) := by
  refine ⟨fun pins s σ H D I h => wpAny_Try_except ?_⟩
  have ok := I.ok
  refine wpAny_mono ((hb (wKeep X.K c i j D) (X.pn ++ pins) (fun e s₁ => wpAny (model X.prog X.w) X.A (noteFrame e X.env) (fun _ s₂ => wpAny (model X.prog X.w) X.A (setFlight e none) (fun _ s₃ =>
    wpAny (model X.prog X.w) X.A (handleBy e X.env [.ExceptHandler (some (.Name x np)) (some n) (b1 :: suite) pos']) (SP X pins D) X.xe s₃) X.xe s₂) X.xe s₁) (fun u s' xx => ?_) PassesOwn.looking).run [] s σ H D (I.toTry _) h) (fun f s1 hsp => ?_) (fun e s1 he => he)
  · obtain ⟨a, B, sI, pins', σ', H', cls, d, rfl, J', nb, up, sky, na, os, ag, w⟩ := xx
    have il : i < σ'.length := by
      have e1 := (List.getElem?_eq_some_iff.mp hi).1
      have e2 := J'.len
      have e3 : σ'.length = X.N.length := e2
      omega
    exact caught_kept hs hf hex hN hi hln hc ok hsu il (J'.ofTry ok) nb up sky na os ag w
  · cases f with
    | next =>
      obtain ⟨σ', H', J', q⟩ := hsp
      exact wpAny_execs_nil ⟨σ', H', J'.ofTry ok, q⟩
    | brk =>
      obtain ⟨σ', H', J', q⟩ := hsp
      exact ⟨σ', H', J'.ofTry ok, q⟩
    | cont =>
      obtain ⟨σ', H', J', q⟩ := hsp
      exact ⟨σ', H', J'.ofTry ok, q⟩
    | ret u =>
      obtain ⟨v, σ', H', J', r, q⟩ := hsp
      exact ⟨v, σ', H', J'.ofTry ok, r, q⟩
end

/-! ### isinstance of a kept exception; a call, inside a try, of a local that holds a def -/
structure ExG (K : PySem.W.Frag) (C : Addr) : Prop where
  c : ExcC K C
  ty : PySem.W.typeIn K (.ref C) = some (.type "type")
  self : PySem.W.subIn K (.ref C) (.ref C) = some true
theorem cls_some {K : PySem.W.Frag} {C : Addr} (h : PySem.W.hasDictIn K C = true) : (PySem.W.clsIn K C).isSome = true := by
  obtain ⟨cd, hc, _⟩ := PySem.W.any_some h
  rw [hc]
  rfl
theorem kit_ref {K : PySem.W.Frag} {C D : Addr} {b : Bool} (g : ExG K C) (h : PySem.W.subIn K (.ref D) (.ref C) = some b) : PySem.W.kitOne K (.ref D) (.ref C) = some b := by
  unfold PySem.W.kitOne
  by_cases e : (Value.ref D == Value.ref C) = true
  · rw [if_pos e]
    have e2 : D = C := Value.ref.inj (beq_iff_eq.mp e)
    subst e2
    rw [g.self] at h
    exact h
  · rw [if_neg e]
    have e2 : ((PySem.W.clsIn K C).isSome && PySem.W.typeIn K (.ref C) == some (.type "type")) = true := by rw [cls_some g.c.hd, g.ty] <;> rfl
    show (if ((PySem.W.clsIn K C).isSome && PySem.W.typeIn K (.ref C) == some (.type "type")) = true then PySem.W.subIn K (.ref D) (.ref C) else none) = some b
    rw [if_pos e2]
    exact h
theorem kit_typ {K : PySem.W.Frag} {D : Addr} {T : String} {b : Bool} (hm : PySem.W.kitMeta T = true) (h : PySem.W.subIn K (.ref D) (.type T) = some b) : PySem.W.kitOne K (.ref D) (.type T) = some b := by
  unfold PySem.W.kitOne
  have e : ¬ (Value.ref D == Value.type T) = true := fun z => by cases beq_iff_eq.mp z
  rw [if_neg e]
  show (if PySem.W.kitMeta T = true then PySem.W.subIn K (.ref D) (.type T) else none) = some b
  rw [if_pos hm]
  exact h
theorem exm_of {K : PySem.W.Frag} {C : Addr} {cls : Value} {b : Bool} (g : ExG K C) (h : PySem.W.subIn K cls (.ref C) = some b) : PySem.W.exmOne K cls (.ref C) = some b := PySem.W.exm_ref g.c.hs g.c.hd g.ty h
inductive TyE (K : PySem.W.Frag) (H : Hp) : V → Value → Prop where
  | old {x : V} {t : Value} : TyX K H x t → TyE K H x t
  | exc {a D : Addr} : H a = some (ExK (.ref D) none a) → ExcC K D → TyE K H (.ref a) (.ref D)
def rIsiE (K : PySem.W.Frag) : List V → Hp → VK → Prop := fun xs H Q => ∃ (x c : V) (t u : Value) (b : Bool), xs = [x, c] ∧ ClsV c u ∧ TyE K H x t ∧ PySem.W.kitOne K t u = some b ∧ Q (.bl b) H
def rIsiTE (K : PySem.W.Frag) : List V → Hp → VK → Prop := fun xs H Q => ∃ (x : V) (tp : Addr) (cs : List V) (t : Value) (us : List Value) (b : Bool), xs = [x, .ref tp] ∧ H tp = some (.tup cs) ∧ Paired ClsV cs us ∧ TyE K H x t ∧ PySem.W.kitAny K t us = some b ∧ Q (.bl b) H
section
variable {X : Cx} {pins : List (Addr × Obj)} {σ : L2.St} {H : Hp} {s : Shared}
theorem kit_ofE {x : V} {u t : Value} (I : Inv X pins σ H s) (rx : RelV x u) (ty : TyE X.K H x t) : ∃ P : Heap → Prop, PySem.W.KitX X.K u t P ∧ P s.heap ∧ u ≠ .builtin "__main__.__loader__#opaque" := by
  cases ty with
  | old ty => exact kit_of I rx ty
  | @exc a D e C =>
    cases (show u = Value.ref a from rx)
    obtain ⟨⟨oe, vs, e1, z, dd⟩, _, _⟩ := (show ObjOk X.prog X.w H s.heap a (ExK (.ref D) none a) from I.hok a _ e)
    have J : PySem.W.InstAt s.heap a oe D none := by
      obtain ⟨oc, od, oda, osl⟩ := oe
      obtain ⟨h1, h2⟩ := z
      dsimp only at h1 h2 dd
      subst h1 h2 dd
      exact ⟨e1, rfl, rfl, trivial⟩
    exact ⟨_, PySem.W.handS_kitx_exc C.hg C.hk C.hs C.hd C.ha C.hn C.ht C.hm, J, fun z => nomatch z⟩
theorem call_isiE : CallR X (.builtin "isinstance") (rIsiE X.K) := by
  intro pins s σ H xs us Q I r h
  obtain ⟨x, c, t, u, b, rfl, k, ty, e, q⟩ := h
  obtain ⟨u1, u2, rfl, r1, r2⟩ := vals2 r
  have e2 := k.eq r2
  subst e2
  obtain ⟨P, Z, p, hx⟩ := kit_ofE I r1 ty
  exact PySem.W.kia_one Z I.kIn p e hx fun tk => ⟨.bl b, H, I.tok tk, rfl, q⟩
theorem call_isiTE : CallR X (.builtin "isinstance") (rIsiTE X.K) := by
  intro pins s σ H xs us Q I r h
  obtain ⟨x, tp, cs, t, ws, b, rfl, hT, k, ty, e, q⟩ := h
  obtain ⟨u1, u2, rfl, r1, r2⟩ := vals2 r
  cases (show u2 = Value.ref tp from r2)
  obtain ⟨P, Z, p, hx⟩ := kit_ofE I r1 ty
  obtain ⟨_, its, rv, o, h1, h2, n, h3⟩ := (show ObjOk X.prog X.w H s.heap tp (.tup cs) from I.hok tp _ hT)
  have e3 := ClsV.all k rv
  subst e3
  obtain ⟨oc, od, dt, sl⟩ := o
  simp only at h2 h3
  subst h2 h3
  exact PySem.W.kia_tup Z I.kIn p h1 e hx fun tk => ⟨.bl b, H, I.tok tk, rfl, q⟩
end
/-- a def that a local may hold -/
structure Hd (P : Program) (w : World) (K : PySem.W.Frag) (mg : Str → Option Value) (base : Heap) (CX : CXT) (kk : Nat) (f : Addr) (sp : Sp) : Prop where
  ex : ∃ (k : Nat) (fd : FuncData) (ps : List Str), k ≤ kk ∧ FnOk P w K mg base CX k f fd ps sp ∧ Binds K fd ps []
  kp : PySem.W.keepIn K (.ref f) = true
theorem hd_of {P : Program} {w : World} {K : PySem.W.Frag} {mg : Str → Option Value} {base : Heap} {CX : CXT} {k kk : Nat} {x : Str} {f : Addr} {ps : List Str} {sp : Sp} (G : Cb P w K mg base CX k x f ps sp) (h : k ≤ kk) : Hd P w K mg base CX kk f sp := by
  obtain ⟨⟨fd, F, b⟩, g, kp⟩ := G
  exact ⟨⟨k, fd, ps, h, F, b⟩, kp⟩
def tCallD (i : Nat) (S : Addr → Sp → Prop) (E : L2.St → XK) (t : TA) : TE := fun σ H Q => ∃ f sp, σ[i]? = some (some (.ref f)) ∧ S f sp ∧ t σ H fun vs H1 => sp vs H1 Q (E σ)
theorem pe_callD {X : Cx} {CX : CXT} {kk i : Nat} {S : Addr → Sp → Prop} {E : L2.St → XK} {x : Str} {p pos : Pos} {e : Expr} {es : List Expr} {t : TA} (A : ∀ f sp, S f sp → Hd X.prog X.w X.K X.mg X.base CX kk f sp) (hr : Room kk X.A) (hx : ∀ σ, PassesAt CX X σ (E σ))
    (ha : PA X (e :: es) t) (hN : X.N[i]? = some x := by rfl) (hv : Vis X.env.scope x := by first | exact Or.inl rfl | exact Or.inr (Or.inl rfl) | exact Or.inr (Or.inr rfl))
    (hdb : (x == ("__debug__" : Str)) = false := by decide) (hcd : (x == ("__classdict__" : Str)) = false := by decide)
    (he : starEach (e :: es) X.env = (false, eval e X.env) :: starEach es X.env := by rfl) (hpl : (backTo pos (starEach es X.env)).any (·.1) = false := by rfl) : PE X (.Call (.Name x p) (e :: es) [] pos) (tCallD i S E t) := by
  refine ⟨fun pins s σ H Q I h => ?_⟩
  obtain ⟨f, sp, hs, hS, ht⟩ := h
  obtain ⟨⟨k, fd, ps, hk, F, hb⟩, kp⟩ := A f sp hS
  refine wpAny_Call_Name_kw (thn ((pe_var (pos := p) hN hv hdb hcd).run pins s σ H (fun v H1 => v = .ref f ∧ H1 = H) I ⟨.ref f, hs, rfl, rfl⟩) fun u s1 ⟨v, H1, I1, r1, q1⟩ => ?_)
  obtain ⟨rfl, rfl⟩ := q1
  cases r1
  refine PySem.W.callWith_K (h₀ := X.base) I.ok.mod.kin kp (thn (ha.run pos pins s1 σ _ _ I1 ht) fun us s2 ⟨vs, H2, I2, r, q⟩ => ⟨I2.kIn, ?_⟩) he hpl
  exact run_fnS F (hr.mono hk) hb (hx σ) I2 r q

/-! ### good wishes: counting -/
theorem sub_len : ∀ {l1 l2 : List Int}, l1.Nodup → (∀ x ∈ l1, x ∈ l2) → l1.length ≤ l2.length
  | [], _, _, _ => Nat.zero_le _
  | x :: r, l2, nd, h => by
    obtain ⟨n1, n2⟩ := List.nodup_cons.mp nd
    have hx := h x List.mem_cons_self
    have ih := sub_len (l1 := r) (l2 := l2.erase x) n2 fun y hy => by
      have ne : y ≠ x := fun e => n1 (e ▸ hy)
      exact (List.mem_erase_of_ne ne).mpr (h y (List.mem_cons_of_mem _ hy))
    have e := List.length_erase_of_mem hx
    have p : 0 < l2.length := List.length_pos_of_mem hx
    rw [List.length_cons]
    omega
def upTo (lo : Int) (k : Nat) : List Int := (List.range k).map fun (i : Nat) => lo + (i : Int)
theorem mem_upTo {lo x : Int} {k : Nat} : x ∈ upTo lo k ↔ lo ≤ x ∧ x < lo + k := by
  unfold upTo
  simp only [List.mem_map, List.mem_range]
  constructor
  · rintro ⟨i, hi, rfl⟩
    omega
  · rintro ⟨h1, h2⟩
    exact ⟨(x - lo).toNat, by omega, by omega⟩
theorem upTo_len {lo : Int} {k : Nat} : (upTo lo k).length = k := by simp [upTo]
theorem upTo_nodup {lo : Int} {k : Nat} : (upTo lo k).Nodup := by
  unfold upTo
  exact (List.pairwise_map.mpr (List.Pairwise.imp (fun h => by omega) List.pairwise_lt_range))
theorem len_le_of {l : List Int} {lo : Int} {k : Nat} (nd : l.Nodup) (h : ∀ x ∈ l, lo ≤ x ∧ x < lo + k) : l.length ≤ k := by
  have := sub_len nd fun x hx => mem_upTo.mpr (h x hx)
  rw [upTo_len] at this
  exact this
theorem le_len_of {l : List Int} {lo : Int} {k : Nat} (h : ∀ x, lo ≤ x → x < lo + k → x ∈ l) : k ≤ l.length := by
  have := sub_len (upTo_nodup (lo := lo) (k := k)) fun x hx => by
    obtain ⟨h1, h2⟩ := mem_upTo.mp hx
    exact h x h1 h2
  rw [upTo_len] at this
  exact this
/-- how many of them are b or more -/
def cntGe (l : List Int) (b : Int) : Nat := (l.filter fun w => decide (b ≤ w)).length
theorem cntGe_snoc (l : List Int) (w b : Int) : cntGe (l ++ [w]) b = cntGe l b + if b ≤ w then 1 else 0 := by
  unfold cntGe
  rw [List.filter_append, List.length_append]
  by_cases h : b ≤ w <;> simp [List.filter, h]
theorem cntGe_le (l : List Int) (b : Int) : cntGe l b ≤ l.length := List.length_filter_le _ _
theorem cntGe_perm {l l' : List Int} (h : l.Perm l') (b : Int) : cntGe l b = cntGe l' b := (h.filter _).length_eq
theorem somes_snoc (l : List (Option Int)) (o : Option Int) : somes (l ++ [o]) = somes l ++ o.toList := by
  unfold somes
  rw [List.filterMap_append]
  cases o <;> rfl
/-- what holds behind ships that came -/
structure Lay (n : Nat) (ws : List Int) : Prop where
  occ : ∀ x, (prun n ws).1 x = true ↔ x ∈ somes (placedL n ws)
  nd : (somes (placedL n ws)).Nodup
  bd : ∀ x ∈ somes (placedL n ws), 1 ≤ x ∧ x ≤ n
  few : ∀ b, (b ≤ 1 ∨ (prun n ws).1 (b - 1) = false) → cntGe (somes (placedL n ws)) b ≤ cntGe ws b
  many : none ∉ placedL n ws → ∀ b, cntGe ws b ≤ cntGe (somes (placedL n ws)) b
  crowd : none ∈ placedL n ws → ∃ b : Int, 1 ≤ b ∧ b ≤ n ∧ (n : Int) - b + 1 < cntGe ws b
theorem placedL_snoc {n : Nat} {ws : List Int} {w : Int} : placedL n (ws ++ [w]) = placedL n ws ++ [ffree n (prun n ws).1 w] := by
  unfold placedL
  rw [prun_snoc]
  unfold pstep
  cases ffree n (prun n ws).1 w <;> rfl
theorem occ_snoc {n : Nat} {ws : List Int} {w : Int} : (prun n (ws ++ [w])).1 = match ffree n (prun n ws).1 w with | none => (prun n ws).1 | some b => setO (prun n ws).1 b := by
  rw [prun_snoc]
  unfold pstep
  cases ffree n (prun n ws).1 w <;> rfl
/-- the least one from which on all are held -/
theorem least_full {occ : Int → Bool} : ∀ (k : Nat), (∀ x, (k : Int) + 1 ≤ x → x ≤ k + 1 → occ x = true) → ∀ m : Int, (∀ x, (k : Int) + 1 ≤ x → x ≤ m → occ x = true) → ∃ b : Int, 1 ≤ b ∧ b ≤ k + 1 ∧ (∀ x, b ≤ x → x ≤ m → occ x = true) ∧ (b ≤ 1 ∨ occ (b - 1) = false)
  | 0, _, m, h => ⟨1, by omega, by omega, fun x h1 h2 => h x (by omega) h2, .inl (by omega)⟩
  | k + 1, h0, m, h => by
    cases e : occ ((k : Int) + 1) with
    | false => exact ⟨(k : Int) + 1 + 1, by omega, by omega, fun x h1 h2 => h x (by omega) h2, .inr (by rw [show (k : Int) + 1 + 1 - 1 = (k : Int) + 1 by omega]; exact e)⟩
    | true =>
      obtain ⟨b, b1, b2, b3, b4⟩ := least_full (occ := occ) k (fun x h1 h2 => by rw [show x = (k : Int) + 1 by omega]; exact e) m fun x h1 h2 => by
        by_cases z : x = (k : Int) + 1
        · rw [z]; exact e
        · exact h x (by omega) h2
      exact ⟨b, b1, by omega, b3, b4⟩
theorem lay (n : Nat) : ∀ ws : List Int, (∀ w ∈ ws, 1 ≤ w ∧ w ≤ n) → Lay n ws := snoc_ind (fun _ => ⟨fun x => by simp [prun, placedL, somes], List.nodup_nil, fun x hx => (by cases hx), fun b _ => Nat.zero_le _, fun _ b => Nat.le_refl _, fun h => (by cases h)⟩) fun ws w ih hb => by
  have hw := hb w (List.mem_append_right _ (List.mem_singleton.mpr rfl))
  obtain ⟨i1, i2, i3, i4, i5, i6⟩ := ih fun x hx => hb x (List.mem_append_left _ hx)
  cases e : ffree n (prun n ws).1 w with
  | none =>
    have es : somes (placedL n (ws ++ [w])) = somes (placedL n ws) := by rw [placedL_snoc, e, somes_snoc]; simp
    have eo : (prun n (ws ++ [w])).1 = (prun n ws).1 := by rw [occ_snoc, e]
    have full := ffree_none e
    refine ⟨fun x => by rw [eo, es]; exact i1 x, by rw [es]; exact i2, by rw [es]; exact i3, fun b h => ?_, fun h => ?_, fun _ => ?_⟩
    · rw [es, cntGe_snoc]
      rw [eo] at h
      have := i4 b h
      omega
    · rw [placedL_snoc, e] at h
      exact absurd (List.mem_append_right _ (List.mem_singleton.mpr rfl)) h
    · obtain ⟨b, b1, b2, b3, b4⟩ := least_full (occ := (prun n ws).1) (w - 1).toNat (fun x h1 h2 => full x (by omega) (by omega)) n fun x h1 h2 => full x (by omega) h2
      have c1 := i4 b b4
      have c2 : ((n : Int) - b + 1).toNat ≤ cntGe (somes (placedL n ws)) b := le_len_of (lo := b) fun x h1 h2 => List.mem_filter.mpr ⟨(i1 x).mp (b3 x h1 (by omega)), by simpa using h1⟩
      refine ⟨b, b1, by omega, ?_⟩
      rw [cntGe_snoc, if_pos (by omega)]
      omega
  | some x =>
    have es : somes (placedL n (ws ++ [w])) = somes (placedL n ws) ++ [x] := by rw [placedL_snoc, e, somes_snoc]; rfl
    have eo : (prun n (ws ++ [w])).1 = setO (prun n ws).1 x := by rw [occ_snoc, e]
    obtain ⟨x1, x2, x3, x4⟩ := ffree_some e
    have hn : x ∉ somes (placedL n ws) := fun z => by
      rw [(i1 x).mpr z] at x3
      cases x3
    refine ⟨fun y => ?_, ?_, ?_, fun b h => ?_, fun h b => ?_, fun h => ?_⟩
    · rw [eo, es, List.mem_append, List.mem_singleton, ← i1 y]
      unfold setO
      by_cases z : y = x <;> simp [z]
    · rw [es, List.nodup_append]
      exact ⟨i2, by simp, fun a ha b hb => by rw [List.mem_singleton.mp hb]; exact fun z => hn (z ▸ ha)⟩
    · intro y hy
      rw [es] at hy
      rcases List.mem_append.mp hy with k | k
      · exact i3 y k
      · rw [List.mem_singleton.mp k]
        omega
    · rw [es, cntGe_snoc, cntGe_snoc]
      have h' : b ≤ 1 ∨ (prun n ws).1 (b - 1) = false := by
        rcases h with h | h
        · exact .inl h
        · rw [eo] at h
          unfold setO at h
          exact .inr (Bool.or_eq_false_iff.mp h).2
      have := i4 b h'
      by_cases hbx : b ≤ x
      · have hbw : b ≤ w := by
          by_cases z : b ≤ w
          · exact z
          · rcases h' with h' | h'
            · omega
            · rw [x4 (b - 1) (by omega) (by omega)] at h'
              cases h'
        rw [if_pos hbx, if_pos hbw]
        omega
      · rw [if_neg hbx]
        omega
    · have h' : none ∉ placedL n ws := fun z => h (by rw [placedL_snoc]; exact List.mem_append_left _ z)
      have := i5 h' b
      rw [es, cntGe_snoc, cntGe_snoc]
      by_cases z : b ≤ w
      · rw [if_pos z, if_pos (by omega)]
        omega
      · rw [if_neg z]
        omega
    · rw [placedL_snoc, e] at h
      rcases List.mem_append.mp h with k | k
      · obtain ⟨b, b1, b2, b3⟩ := i6 k
        refine ⟨b, b1, b2, ?_⟩
        rw [cntGe_snoc]
        omega
      · simp at k
/-- the last berth from which on more wish -/
def downTo (n : Nat) : List Int := (List.range n).map fun (i : Nat) => (n : Int) - (i : Int)
def crowdedL (n : Nat) (ws : List Int) : Option Int := (downTo n).find? fun b => decide ((n : Int) - b + 1 < (cntGe ws b : Int))
theorem mem_downTo {n : Nat} {x : Int} : x ∈ downTo n ↔ 1 ≤ x ∧ x ≤ n := by
  unfold downTo
  simp only [List.mem_map, List.mem_range]
  constructor
  · rintro ⟨i, hi, rfl⟩
    omega
  · rintro ⟨h1, h2⟩
    exact ⟨(n - x).toNat, by omega, by omega⟩
theorem crowded_none {n : Nat} {ws : List Int} : crowdedL n ws = none ↔ ∀ b : Int, 1 ≤ b → b ≤ n → (cntGe ws b : Int) ≤ n - b + 1 := by
  unfold crowdedL
  rw [List.find?_eq_none]
  simp only [decide_eq_true_eq, Int.not_lt]
  exact ⟨fun h b b1 b2 => h b (mem_downTo.mpr ⟨b1, b2⟩), fun h b hb => h b (mem_downTo.mp hb).1 (mem_downTo.mp hb).2⟩
theorem good_iff {n : Nat} {ws : List Int} (hb : ∀ w ∈ ws, 1 ≤ w ∧ w ≤ n) : crowdedL n ws = none ↔ none ∉ placedL n ws := by
  have L := lay n ws hb
  rw [crowded_none]
  constructor
  · intro h z
    obtain ⟨b, b1, b2, b3⟩ := L.crowd z
    have := h b b1 b2
    omega
  · intro h b b1 b2
    have h1 := L.many h b
    have h2 : cntGe (somes (placedL n ws)) b ≤ ((n : Int) - b + 1).toNat := len_le_of (lo := b) (L.nd.filter _) fun x hx => by
      obtain ⟨k1, k2⟩ := List.mem_filter.mp hx
      have := L.bd x k1
      have k3 : b ≤ x := by simpa using k2
      omega
    omega
/-! in rising order -/
theorem sorted_cut {b : Int} : ∀ {o : List Int}, o.Pairwise (· ≤ ·) → o = o.filter (fun w => !decide (b ≤ w)) ++ o.filter (fun w => decide (b ≤ w))
  | [], _ => rfl
  | x :: r, h => by
    obtain ⟨h1, h2⟩ := List.pairwise_cons.mp h
    by_cases z : b ≤ x
    · have e1 : r.filter (fun w => !decide (b ≤ w)) = [] := List.filter_eq_nil_iff.mpr fun y hy => by
        have := h1 y hy
        simp only [Bool.not_eq_true', decide_eq_false_iff_not]
        omega
      have e2 : r.filter (fun w => decide (b ≤ w)) = r := List.filter_eq_self.mpr fun y hy => by
        have := h1 y hy
        simp only [decide_eq_true_eq]
        omega
      simp [List.filter_cons, z, e1, e2]
    · have ih := sorted_cut (b := b) h2
      simp only [List.filter_cons, z, decide_false, Bool.not_false, if_true, Bool.false_eq_true, if_false, List.cons_append]
      rw [← ih]
def goodS (n : Nat) (o : List Int) : Bool := (List.range o.length).all fun (i : Nat) => decide (o.getD i 0 ≤ (n : Int) - o.length + i + 1)
theorem goodS_iff {n : Nat} {ws : List Int} (hb : ∀ w ∈ ws, 1 ≤ w ∧ w ≤ n) : goodS n (sortI ws) = true ↔ crowdedL n ws = none := by
  have hp := sortI_perm ws
  have hs := sortI_sorted ws
  rw [crowded_none]
  unfold goodS
  simp only [List.all_eq_true, List.mem_range, decide_eq_true_eq]
  generalize hO : sortI ws = o at hp hs
  have hbo : ∀ w ∈ o, 1 ≤ w ∧ w ≤ n := fun w hw => hb w (hp.mem_iff.mp hw)
  constructor
  · intro h b b1 b2
    rw [← cntGe_perm hp b]
    have cut := sorted_cut (b := b) hs
    by_cases z : cntGe o b = 0
    · rw [z]
      omega
    · have hlen : (o.filter (fun w => !decide (b ≤ w))).length + cntGe o b = o.length := by
        unfold cntGe
        rw [← List.length_append, ← cut]
      have hi : (o.filter (fun w => !decide (b ≤ w))).length < o.length := by omega
      have h1 := h _ hi
      have e : o.getD (o.filter (fun w => !decide (b ≤ w))).length 0 = o[(o.filter (fun w => !decide (b ≤ w))).length] := by simp [List.getD_eq_getElem?_getD, List.getElem?_eq_getElem hi]
      rw [e] at h1
      have hm : o[(o.filter (fun w => !decide (b ≤ w))).length] ∈ o.filter (fun w => decide (b ≤ w)) := by
        have e2 : o[(o.filter (fun w => !decide (b ≤ w))).length]? = (o.filter (fun w => decide (b ≤ w)))[0]? := by
          conv => lhs; arg 1; rw [cut]
          rw [List.getElem?_append_right (Nat.le_refl _), Nat.sub_self]
        rw [List.getElem?_eq_getElem hi] at e2
        exact List.mem_of_getElem? e2.symm
      have h2 : b ≤ o[(o.filter (fun w => !decide (b ≤ w))).length] := by simpa using (List.mem_filter.mp hm).2
      omega
  · intro h i hi
    have e : o.getD i 0 = o[i] := by simp [List.getD_eq_getElem?_getD, List.getElem?_eq_getElem hi]
    rw [e]
    have hbi := hbo o[i] (List.getElem_mem hi)
    have h1 := h o[i] hbi.1 hbi.2
    rw [← cntGe_perm hp] at h1
    have h2 : o.length - i ≤ cntGe o o[i] := by
      have e3 : (o.drop i).filter (fun w => decide (o[i] ≤ w)) = o.drop i := List.filter_eq_self.mpr fun y hy => by
        obtain ⟨j, hj, ej⟩ := List.getElem_of_mem hy
        rw [List.getElem_drop] at ej
        simp only [decide_eq_true_eq]
        rw [← ej]
        by_cases z : j = 0
        · subst z
          simp
        · exact List.pairwise_iff_getElem.mp hs i (i + j) hi (by rw [List.length_drop] at hj; omega) (by omega)
      have e4 : (o.filter (fun w => decide (o[i] ≤ w))).length = ((o.take i).filter (fun w => decide (o[i] ≤ w))).length + ((o.drop i).filter (fun w => decide (o[i] ≤ w))).length := by
        rw [← List.length_append, ← List.filter_append, List.take_append_drop]
      unfold cntGe
      rw [e4, e3, List.length_drop]
      omega
    omega

/-! ### crowded, is_good -/
def cntEq (l : List Int) (b : Int) : Nat := (l.filter fun w => decide (w = b)).length
theorem cntEq_snoc (l : List Int) (w b : Int) : cntEq (l ++ [w]) b = cntEq l b + if w = b then 1 else 0 := by
  unfold cntEq
  rw [List.filter_append, List.length_append]
  by_cases h : w = b <;> simp [List.filter, h]
theorem cntGe_step (l : List Int) (b : Int) : cntGe l b = cntGe l (b + 1) + cntEq l b := by
  refine snoc_ind (p := fun l => cntGe l b = cntGe l (b + 1) + cntEq l b) rfl (fun l w ih => ?_) l
  rw [cntGe_snoc, cntGe_snoc, cntEq_snoc, ih]
  by_cases h1 : w = b
  · subst h1
    rw [if_pos (Int.le_refl _), if_neg (by omega), if_pos rfl]
    omega
  · rw [if_neg h1]
    by_cases h2 : b ≤ w
    · rw [if_pos h2, if_pos (by omega)]
      omega
    · rw [if_neg h2, if_neg (by omega)]
      omega
theorem cntGe_top {n : Nat} {ws : List Int} (hb : ∀ w ∈ ws, 1 ≤ w ∧ w ≤ n) : cntGe ws ((n : Int) + 1) = 0 := by
  unfold cntGe
  rw [List.length_eq_zero_iff, List.filter_eq_nil_iff]
  intro w hw
  have := hb w hw
  simp only [decide_eq_true_eq]
  omega
def tallyL (n : Nat) (ws : List Int) : List V := (List.range (n + 1)).map fun (i : Nat) => V.int (cntEq ws (i : Int))
theorem tallyL_at {n : Nat} {ws : List Int} {i : Nat} (h : i ≤ n) : (tallyL n ws)[i]? = some (.int (cntEq ws (i : Int))) := by
  unfold tallyL
  rw [List.getElem?_map, List.getElem?_range (by omega)]
  rfl
theorem tallyL_len {n : Nat} {ws : List Int} : (tallyL n ws).length = n + 1 := by simp [tallyL]
theorem tallyL_set {n : Nat} {ws : List Int} {w : Int} (h0 : 0 ≤ w) (h : w ≤ n) : (tallyL n ws).set w.toNat (.int (cntEq ws w + 1)) = tallyL n (ws ++ [w]) := by
  apply List.ext_getElem?
  intro i
  by_cases hi : i ≤ n
  · rw [tallyL_at hi, cntEq_snoc]
    by_cases e : i = w.toNat
    · subst e
      rw [List.getElem?_set_self (by rw [tallyL_len]; omega)]
      have : ((w.toNat : Nat) : Int) = w := by omega
      rw [this, if_pos rfl]
      rfl
    · rw [List.getElem?_set_ne (Ne.symm e), tallyL_at hi]
      have : ¬ w = ((i : Nat) : Int) := by omega
      rw [if_neg this]
      rfl
  · rw [List.getElem?_eq_none (show ((tallyL n ws).set w.toNat (.int (cntEq ws w + 1))).length ≤ i by rw [List.length_set, tallyL_len]; omega), List.getElem?_eq_none (show (tallyL n (ws ++ [w])).length ≤ i by rw [tallyL_len]; omega)]
theorem tallyL_new {n : Nat} : (List.replicate (n + 1) [V.int 0]).flatten = tallyL n [] := by
  apply List.ext_getElem?
  intro i
  have e : (List.replicate (n + 1) [V.int 0]).flatten = List.replicate (n + 1) (V.int 0) := by
    generalize n + 1 = m
    induction m with
    | zero => rfl
    | succ m ih => rw [List.replicate_succ, List.replicate_succ, List.flatten_cons, ih]; rfl
  rw [e]
  by_cases hi : i ≤ n
  · rw [tallyL_at hi, List.getElem?_replicate_of_lt (by omega)]
    rfl
  · rw [List.getElem?_eq_none (show (List.replicate (n + 1) (V.int 0)).length ≤ i by rw [List.length_replicate]; omega), List.getElem?_eq_none (show (tallyL n []).length ≤ i by rw [tallyL_len]; omega)]
theorem downTo_at {n i : Nat} (h : i < n) : (downTo n)[i]? = some ((n : Int) - i) := by
  unfold downTo
  rw [List.getElem?_map, List.getElem?_range h]
  rfl
theorem find_drop {α : Type} {p : α → Bool} {l : List α} {i : Nat} {x : α} (h : l[i]? = some x) : (l.drop i).find? p = if p x = true then some x else (l.drop (i + 1)).find? p := by
  obtain ⟨hi, rfl⟩ := List.getElem?_eq_some_iff.mp h
  rw [List.drop_eq_getElem_cons hi, List.find?_cons]
  cases p l[i] <;> rfl
def sp_crowded (K : PySem.W.Frag) (a : Ad) : Sp := fun vs H Q E => ∃ b w, vs = [b, w] ∧ ChkW K a b w H E fun n ws _ => ∀ (H' : Hp), Same H H' → Q (vO (crowdedL n ws)) H'
abbrev N_crowded : List Str := ["berths", "wishes", "tally", "wish", "many", "berth"]
def t_crowded (K : PySem.W.Frag) (a : Ad) (E : XK) : TS :=
  (tSeq (tDrop (tCall (sp_check_wishes K a) [] E (tCons (tVar 0) (tCons (tVar 1) tNil))))
    (tSeq (tAsg (tOp rRep (tLst (tCons (tC (.int 0)) tNil)) (tOp rAddI (tVar 0) (tC (.int 1)))) (gName 2))
    (tSeq (tFor (iSeq K (tVar 1)) (gName 3)
    (tAugS (tVar 2) (tVar 3) (tC (.int 1)) (rIxL K) ipAdd rSetL))
    (tSeq (tAsg (tC (.int 0)) (gName 4))
    (tSeq (tFor (iRng3 (tCons (tVar 0) (tCons (tC (.int 0)) (tCons (tUn (rU fun i => .int (-i)) (tC (.int 1))) tNil)))) (gName 5)
    (tSeq (tAug 4 (tOp (rIxL K) (tVar 2) (tVar 5)) ipAdd)
    (tIfS (tTest (tOp rGtI (tVar 4) (tOp rAddI (tOp rSubI (tVar 0) (tVar 5)) (tC (.int 1))))) (tRet (tVar 5)) tNext)))
    (tRet (tC .non)))))))
theorem len_crowded {K : PySem.W.Frag} {a : Ad} {vs : List V} {H : Hp} {Q : VK} {E : XK} (h : sp_crowded K a vs H Q E) : vs.length = 2 := by
  obtain ⟨b, w, rfl, _⟩ := h
  rfl
theorem pu_crowded {K : PySem.W.Frag} {a : Ad} {vs : List V} {H : Hp} {Q : VK} {E : XK} (h : sp_crowded K a vs H Q E) : t_crowded K a E { nx := fun _ H' => Q .non H', rt := Q } (start N_crowded vs) H := by
  obtain ⟨b, w, rfl, h⟩ := h
  refine ⟨b, rfl, w, rfl, b, w, rfl, ChkW.imp h fun n ws p eb ew h1 h2 hs hl hb q => ?_⟩
  subst eb
  subst ew
  -- tally = [0] * (berths + 1)
  refine ⟨by decide, fun l0 nl0 => ⟨.int n, rfl, n, 1, rfl, rfl, l0, _, _, rfl, rfl, upd_same, by omega, by omega, ?_, fun l1 nl1 => ?_⟩⟩
  · refine l1000 ?_
    show 1 * _ ≤ _
    omega
  have e1 : ((n : Int) + 1).toNat = n + 1 := by omega
  rw [e1, tallyL_new]
  have s0 : Same H (upd H l0 (.lst [.int 0])) := same_new nl0
  have n1 : H l1 = none := s0.free nl1
  have s1 := s0.store n1 (o := .lst (tallyL n []))
  refine for_seq (K := K) (H0 := H) (fun Q q => ⟨.ref p, rfl, q⟩) hs (fun i σ H' => (∃ y, σ = [some (.int n), some (.ref p), some (.ref l1), y, none, none]) ∧ Same H H' ∧ H' l1 = some (.lst (tallyL n (ws.take i)))) ⟨⟨none, rfl⟩, s1, upd_same⟩ (fun i σ H' h => h.2.1) ?_ ?_
  · rintro i x σ H' hx ⟨⟨y, rfl⟩, s, eh⟩
    obtain ⟨w, hw, rfl⟩ := item_of hx
    have bw := hb w (List.mem_of_getElem? hw)
    have ex : (tallyL n (ws.take i))[w.toNat]? = some (.int (cntEq (ws.take i) w)) := by
      rw [tallyL_at (by omega)]
      have : ((w.toNat : Nat) : Int) = w := by omega
      rw [this]
    refine ⟨.ref l1, rfl, .int w, rfl, l1, _, w, _, rfl, rfl, sqL_of eh, at_of (j := w.toNat) (by omega) ex, _, 1, rfl, rfl, l1, _, w, w.toNat, rfl, rfl, eh, ?_, ?_⟩
    · unfold ixN
      rw [if_pos (by omega), tallyL_len, if_pos (by omega)]
    refine ⟨⟨_, rfl⟩, s.store n1, ?_⟩
    rw [upd_same]
    rw [tallyL_set (by omega) bw.2, take_more hw]
  · rintro σ H' ⟨⟨y, rfl⟩, s, eh⟩
    rw [List.length_map, List.take_length] at eh
    refine ⟨.int n, rfl, _, rfl, n, 0, -1, ((n : Int) - 0).toNat, rfl, RgC.neg (by omega) (by omega) (by omega) (by omega), ?_⟩
    have en : ((n : Int) - 0).toNat = n := by omega
    rw [en]
    refine for_it walk_rangeC (fun i σ H2 => H2 = H' ∧ (∃ z, σ = [some (.int n), some (.ref p), some (.ref l1), y, some (.int (cntGe ws ((n : Int) - i + 1))), z]) ∧ crowdedL n ws = ((downTo n).drop i).find? fun b => decide ((n : Int) - b + 1 < (cntGe ws b : Int))) ⟨rfl, ⟨none, ?_⟩, rfl⟩ (fun _ _ _ _ _ => trivial) ?_ ?_
    · rw [show (n : Int) - ((0 : Nat) : Int) + 1 = (n : Int) + 1 by omega, cntGe_top hb]
      rfl
    · rintro i x σ H2 H3 hi ⟨rfl, ⟨z, rfl⟩, e⟩ ⟨rfl, ex0⟩
      rw [find_drop (downTo_at hi)] at e
      have ex : (tallyL n ws)[n - i]? = some (.int (cntEq ws ((n : Int) - i))) := by
        rw [tallyL_at (by omega)]
        have : (((n - i : Nat)) : Int) = (n : Int) - i := by omega
        rw [this]
      have ev : (n : Int) + (i : Int) * -1 = (n : Int) - i := by omega
      obtain rfl : x = .int ((n : Int) - i) := by
        rw [ex0]
        show V.int ((n : Int) + (i : Int) * -1) = _
        rw [ev]
      refine ⟨_, rfl, .ref l1, rfl, .int ((n : Int) - i), rfl, l1, _, (n : Int) - i, _, rfl, rfl, sqL_of eh, at_of (j := n - i) (by omega) ex, _, _, rfl, rfl, ?_⟩
      have step := cntGe_step ws ((n : Int) - i)
      refine ⟨_, rfl, .int n, rfl, .int ((n : Int) - i), rfl, n, _, rfl, rfl, _, 1, rfl, rfl, _, _, rfl, rfl, _, rfl, ?_⟩
      have e3 : ((cntGe ws ((n : Int) - i + 1) : Nat) : Int) + (cntEq ws ((n : Int) - i) : Nat) = (cntGe ws ((n : Int) - i) : Nat) := by omega
      refine ite2 (fun h => ?_) (fun h => ?_)
      · have h : (n : Int) - ((n : Int) - i) + 1 < ((cntGe ws ((n : Int) - i + 1) : Nat) : Int) + (cntEq ws ((n : Int) - i) : Nat) := of_decide_eq_true h
        rw [e3] at h
        rw [if_pos (decide_eq_true h)] at e
        refine ⟨.int ((n : Int) - i), rfl, ?_⟩
        have := q _ s
        rw [e] at this
        exact this
      · have h : ¬ (n : Int) - ((n : Int) - i) + 1 < ((cntGe ws ((n : Int) - i + 1) : Nat) : Int) + (cntEq ws ((n : Int) - i) : Nat) := fun z => h (decide_eq_true z)
        rw [e3] at h
        rw [if_neg (by simpa using h)] at e
        have e5 : ((cntGe ws ((n : Int) - i + 1) : Nat) : Int) + (cntEq ws ((n : Int) - i) : Nat) = (cntGe ws ((n : Int) - ((i + 1 : Nat) : Int) + 1) : Nat) := by
          rw [e3]
          have : (n : Int) - ((i + 1 : Nat) : Int) + 1 = (n : Int) - i := by omega
          rw [this]
        exact ⟨rfl, ⟨some (.int ((n : Int) - i)), congrArg (fun t => [some (V.int n), some (V.ref p), some (V.ref l1), y, some (V.int t), some (V.int ((n : Int) - i))]) e5⟩, e⟩
    · rintro σ H2 ⟨rfl, ⟨z, rfl⟩, e⟩
      have hd : (downTo n).drop n = [] := List.drop_eq_nil_of_le (by simp [downTo])
      rw [hd] at e
      have := q _ s
      rw [e] at this
      exact this
def sp_is_good (K : PySem.W.Frag) (a : Ad) : Sp := fun vs H Q E => ∃ b w, vs = [b, w] ∧ ChkW K a b w H E fun n ws _ => ∀ (H' : Hp), Same H H' → Q (.bl (crowdedL n ws).isNone) H'
abbrev N_is_good : List Str := ["berths", "wishes"]
def t_is_good (K : PySem.W.Frag) (a : Ad) (E : XK) : TS :=
  (tRet (tIsN (tCall (sp_crowded K a) [] E (tCons (tVar 0) (tCons (tVar 1) tNil)))))
theorem len_is_good {K : PySem.W.Frag} {a : Ad} {vs : List V} {H : Hp} {Q : VK} {E : XK} (h : sp_is_good K a vs H Q E) : vs.length = 2 := by
  obtain ⟨b, w, rfl, _⟩ := h
  rfl
theorem vO_isN (o : Option Int) : decide (vO o = .non) = o.isNone := by
  cases o <;> rfl
theorem pu_is_good {K : PySem.W.Frag} {a : Ad} {vs : List V} {H : Hp} {Q : VK} {E : XK} (h : sp_is_good K a vs H Q E) : t_is_good K a E { nx := fun _ H' => Q .non H', rt := Q } (start N_is_good vs) H := by
  obtain ⟨b, w, rfl, h⟩ := h
  refine ⟨b, rfl, w, rfl, b, w, rfl, ChkW.imp h fun n ws p eb ew h1 h2 hs hl hb q => ?_⟩
  intro H' s
  have := q H' s
  show Q (.bl (decide (vO (crowdedL n ws) = .non))) H'
  rw [vO_isN]
  exact this

/-! ### what the laws read of a script -/
def cellAt (ns : List Int) (k : Int) : Int := ns.getD k.toNat 0
theorem cut_drop (xs : List V) (k : Nat) : cutV xs (some (k : Int)) none = xs.drop k := by
  unfold cutV
  rw [HT.sIx_nat, HT.sIx_none]
  by_cases h : k ≤ xs.length
  · rw [Nat.min_eq_left h]
    exact List.take_of_length_le (by rw [List.length_drop]; omega)
  · rw [Nat.min_eq_right (by omega), Nat.sub_self, List.take_zero, List.drop_eq_nil_of_le (by omega)]
theorem cut2 (xs : List V) : cutV xs (some 2) none = xs.drop 2 := cut_drop xs 2
theorem atI_lit (xs : List V) (j : Nat) {v : V} (h : xs[j]? = some v) : atI xs (j : Int) = some v := atI_nat h
def sp_l_cell_at (K : PySem.W.Frag) : Sp := fun vs H Q _ => ∃ (s : Addr) (ns : List Int) (k : Int), vs = [.ref s, .int k] ∧ SqL K H s (ns.map V.int) ∧ 0 ≤ k ∧ Q (.int (cellAt ns k)) H
abbrev N_l_cell_at : List Str := ["_law_script", "_law_k"]
def t_l_cell_at (K : PySem.W.Frag) (a : Ad) : TS :=
  (tSeq (tIfS (tTest (tOp rLtI (tVar 1) (tCB (rLenSq K) (tCons (tVar 0) tNil)))) (tRet (tOp (rIxL K) (tVar 0) (tVar 1))) tNext)
    (tRet (tC (.int 0))))
theorem len_l_cell_at {K : PySem.W.Frag} {vs : List V} {H : Hp} {Q : VK} {E : XK} (h : sp_l_cell_at K vs H Q E) : vs.length = 2 := by
  obtain ⟨s, ns, k, rfl, _⟩ := h
  rfl
theorem pu_l_cell_at {K : PySem.W.Frag} {a : Ad} {vs : List V} {H : Hp} {Q : VK} {E : XK} (h : sp_l_cell_at K vs H Q E) : t_l_cell_at K a { nx := fun _ H' => Q .non H', rt := Q } (start N_l_cell_at vs) H := by
  obtain ⟨s, ns, k, rfl, hs, h0, q⟩ := h
  refine ⟨.int k, rfl, .ref s, rfl, s, _, rfl, .inl hs, _, _, rfl, rfl, _, rfl, ?_⟩
  by_cases h : k < ((ns.map V.int).length : Nat)
  · rw [decide_eq_true h]
    rw [List.length_map] at h
    have e : ns[k.toNat]? = some (cellAt ns k) := by
      unfold cellAt
      rw [List.getD_eq_getElem?_getD, List.getElem?_eq_getElem (by omega)]
      rfl
    refine iteT ⟨.ref s, rfl, .int k, rfl, s, _, k, _, rfl, rfl, hs, at_of (j := k.toNat) (by omega) (by rw [List.getElem?_map, e]; rfl), q⟩
  · rw [decide_eq_false h]
    rw [List.length_map] at h
    have e : cellAt ns k = 0 := by
      unfold cellAt
      rw [List.getD_eq_getElem?_getD, List.getElem?_eq_none (by omega)]
      rfl
    rw [e] at q
    exact iteF q
theorem p3 : (0 : Int) < 3 := by decide
theorem p4 : (0 : Int) < 4 := by decide
theorem d2 {n : Int} : CDiv n 2 := ⟨by decide, by decide⟩
theorem d3 {n : Int} : CDiv n 3 := ⟨by decide, by decide⟩
theorem d12 {n : Int} : CDiv n 12 := ⟨by decide, by decide⟩
theorem pick3 (c : Int) (x y z : V) : ∃ v, atI [x, y, z] (c % 3) = some v ∧ (v = x ∨ v = y ∨ v = z) := by
  have h : c % 3 = 0 ∨ c % 3 = 1 ∨ c % 3 = 2 := by omega
  rcases h with h | h | h <;> rw [h]
  · exact ⟨x, rfl, .inl rfl⟩
  · exact ⟨y, rfl, .inr (.inl rfl)⟩
  · exact ⟨z, rfl, .inr (.inr rfl)⟩
theorem pick4 (c : Int) (x y z u : V) : ∃ v, atI [x, y, z, u] (c % 4) = some v ∧ (v = x ∨ v = y ∨ v = z ∨ v = u) := by
  have h : c % 4 = 0 ∨ c % 4 = 1 ∨ c % 4 = 2 ∨ c % 4 = 3 := by omega
  rcases h with h | h | h | h <;> rw [h]
  · exact ⟨x, rfl, .inl rfl⟩
  · exact ⟨y, rfl, .inr (.inl rfl)⟩
  · exact ⟨z, rfl, .inr (.inr (.inl rfl))⟩
  · exact ⟨u, rfl, .inr (.inr (.inr rfl))⟩
/-! ### enumerate of a tuple -/
theorem draws_tup {prog : Program} {w : World} {A : Around} (hh : A.handled = none) (it l : Addr) (hne : l ≠ it) (items : Array Value) :
    Draws prog w A it [it, l] items.size (fun i v => items[i]? = some v) fun i h => h.IsTupleIter it l i ∧ h.IsTuple l items where
  live := fun i h ⟨⟨o, ho, _⟩, _⟩ => ⟨o, ho⟩
  frame := fun i h h' ⟨⟨o, ho, r⟩, ⟨o2, ho2, r2⟩⟩ hk => ⟨⟨o, hk it (by simp) o ho, r⟩, ⟨o2, hk l (by simp) o2 ho2, r2⟩⟩
  item := fun i s Q E hi ⟨st1, st2⟩ hQ => RZ.nextOf_tuple_item st1 st2 (Array.getElem?_eq_getElem hi) fun h' hit' hs' => by
    refine hQ _ h' s.toks (Array.getElem?_eq_getElem hi) ⟨hit', ?_⟩ hs'
    obtain ⟨o2, ho2, r2⟩ := st2
    exact ⟨o2, (hs'.2 l hne).trans ho2, r2⟩
  done := fun s Q E ⟨st1, st2⟩ hE => RZ.nextOf_tuple_end hh st1 st2 (by simp) hE
theorem draws_tupEnd {prog : Program} {w : World} {A : Around} (hh : A.handled = none) (it l : Addr) (hne : l ≠ it) (items : Array Value) (i : Nat) (hi : items[i]? = none) :
    Draws prog w A it [it, l] i (fun _ _ => False) fun j h => j = i ∧ h.IsTupleIter it l j ∧ h.IsTuple l items where
  live := fun i h ⟨_, ⟨o, ho, _⟩, _⟩ => ⟨o, ho⟩
  frame := fun i h h' ⟨e, ⟨o, ho, r⟩, ⟨o2, ho2, r2⟩⟩ hk => ⟨e, ⟨o, hk it (by simp) o ho, r⟩, ⟨o2, hk l (by simp) o2 ho2, r2⟩⟩
  item := fun j s Q E hj ⟨e, _⟩ hQ => by omega
  done := fun s Q E ⟨_, st1, st2⟩ hE => RZ.nextOf_tuple_end hh st1 st2 hi hE
theorem meets_enumerate_newT (l : Addr) (items : Array Value) : Meets (Builtin.«enumerate.__new__» { pos := [Value.type "enumerate", Value.ref l] }) fun x R s =>
    s.heap.IsTuple l items ∧ R (Except.ok (Flow.ret (Value.ref (s.heap.push { cls := Value.type "tuple_iterator", data := Data.fields #[Value.ref l, Value.int 0 0] }).objs.size)))
      { heap := (s.heap.push { cls := Value.type "tuple_iterator", data := Data.fields #[Value.ref l, Value.int 0 0] }).push { cls := Value.type "enumerate", data := Data.fields #[Value.none, Value.bool false, Value.ref s.heap.objs.size, rawInt 0, Value.none, Value.none] },
        gens := s.gens, drawn := s.drawn, toks := s.toks, os := s.os } := by
  refine Meets.of_wp fun prog w A R s h => ?_
  obtain ⟨hp, g, d, tk, os⟩ := s
  obtain ⟨hT, h⟩ := h
  have hsub := sub_enumerate
  have fin : ∀ (k : Sem PySem.Fin), k = (do
      let __do_lift ← pyIter (Value.ref l)
      let __do_lift ← Builtin.SmallTypes.newRecord (Value.type "enumerate") (Builtin.SmallTypes.ownedTupleFields ++ [__do_lift, rawInt 0, Value.none, Value.none])
      ret __do_lift) → wpAny (model prog w) A.in1 k (fun fin s' => ∃ v, fin = Fin.done (Flow.ret v) ∧ R (Except.ok (Flow.ret v)) s') (fun e s' => R (Except.error e) s') ⟨hp, g, d, tk, os⟩ := by
    rintro k rfl
    refine wpAny_bind ?_
    refine wpAny_pyIter_tuple (items := items) hT ?_
    refine wpAny_bind ?_
    unfold Builtin.SmallTypes.newRecord
    dsimp only
    unfold newObj
    refine wpAny_ite_false rfl (wpAny_bind (wpAny_alloc' ?_))
    exact wpAny_pure (wpAny_pure ⟨_, rfl, h⟩)
  unfold Builtin.«enumerate.__new__»
  refine wpAny_bind ?_
  unfold Builtin.SmallTypes.newClass
  refine wpAny_bind ?_
  refine wpAny_pure ?_
  refine wpAny_ite_false rfl (wpAny_bind (wpAny_of_eq hsub (wpAny_ite_false rfl (wpAny_pure (wpAny_ite_true rfl (wpAny_bind ?_))))))
  refine wpAny_bind (wpAny_stack_any fun st => wpAny_pure ?_)
  have both : ∀ b : Bool, b = true ∨ b = false := fun b => by cases b <;> simp
  split
  · rename_i c tail kw snd tail_1 _
    rcases both (c == Value.type "enumerate") with e | e
    · rw [e]
      exact wpAny_ite_true rfl (wpAny_bind (wpAny_of_eq (a := (Value.ref l, (none : Option Value))) rfl (fin _ rfl)))
    · rw [e]
      exact wpAny_ite_false rfl (wpAny_bind (wpAny_of_eq (a := (Value.ref l, (none : Option Value))) rfl (fin _ rfl)))
  · exact wpAny_ite_false rfl (wpAny_bind (wpAny_of_eq (a := (Value.ref l, (none : Option Value))) rfl (fin _ rfl)))
theorem call_enumerate_tup {prog : Program} {w : World} {A : Around} {E : Value → Shared → Prop} {s : Shared} {l : Addr} {items : Array Value} {Q : Value → Shared → Prop} (hL : s.heap.IsTuple l items)
    (h : ∀ h' : Heap, IsEnum h' (s.heap.objs.size + 1) s.heap.objs.size 0 Value.none → h'.IsTupleIter s.heap.objs.size l 0 → h'.objs.size = s.heap.objs.size + 2 → (∀ (b : Addr) (o : Obj), s.heap.get? b = some o → h'.get? b = some o) →
      Q (Value.ref (s.heap.objs.size + 1)) { heap := h', gens := s.gens, drawn := s.drawn, toks := s.toks, os := s.os }) : wpAny (model prog w) A (call (Value.type "enumerate") [Value.ref l]) Q E s := by
  refine callType_new F.called_enumerate (by decide) (F.typeCall_enumerate_1 (Value.ref l)) (F.newCall_enumerate_1 (Value.ref l)) (fun obj => F.args_object_init_2 obj (Value.ref l)) F.entry_enumerate_new (meets_enumerate_newT l items) ⟨hL, ?_⟩
  have hz := Heap.size_push s.heap { cls := Value.type "tuple_iterator", data := Data.fields #[Value.ref l, Value.int 0 0] }
  have he := Heap.get?_push_size (s.heap.push { cls := Value.type "tuple_iterator", data := Data.fields #[Value.ref l, Value.int 0 0] }) (o := { cls := Value.type "enumerate", data := Data.fields #[Value.none, Value.bool false, Value.ref s.heap.objs.size, rawInt 0, Value.none, Value.none] }) rfl
  show _ ∧ _
  rw [hz] at he ⊢
  refine ⟨⟨_, he, rfl⟩, h _ he ⟨_, Heap.get?_push_of_some _ (Heap.get?_push_size s.heap rfl), rfl, rfl⟩ ?_ fun b o x => Heap.get?_push_of_some _ (Heap.get?_push_of_some _ x)⟩
  rw [Heap.size_push, hz]
def Iet (K : PySem.W.Frag) (a : Addr) : It where
  go := fun i H => ∃ xs x, SqT K H a xs ∧ xs[i]? = some x
  yld := fun i H v H' => ∃ T x, v = V.ref T ∧ H T = none ∧ H' = upd H T (HO.tup [V.int (i : Nat), x]) ∧ ∀ (xs : List V), SqT K H a xs → xs[i]? = some x
  stop := fun i H => ∃ xs, SqT K H a xs ∧ xs.length ≤ i
theorem turn_enumT {P : Program} {w : World} {K : PySem.W.Frag} {elts : List PySem.Expr} {kk : Nat} {tpos : Pos} (a e it : Addr) :
    Turn P w K (Expr.Tuple elts kk tpos) (Iet K a) [e, it] e fun i h => (∃ old, IsEnum h e it (i : Nat) old) ∧ h.IsTupleIter it a i ∧ e ≠ it ∧ a ≠ it ∧ a ≠ e where
  mem := by simp
  obj := by
    rintro i h ⟨⟨old, he⟩, ⟨o, ho, hc, hd⟩, _⟩ b hb
    rcases (by simpa using hb : b = e ∨ b = it) with z | z
    · rw [z]
      exact ⟨_, he, fun v q => nomatch q⟩
    · rw [z]
      refine ⟨o, ho, fun v q => ?_⟩
      rw [hd] at q
      cases q
  keep := by
    rintro i h h' ⟨⟨old, he⟩, ⟨o, ho, r⟩, hne⟩ k
    exact ⟨⟨old, k e (by simp) _ he⟩, ⟨o, k it (by simp) _ ho, r⟩, hne⟩
  item := by
    rintro X rfl rfl rfl hc i pins s σ H E I hf ⟨⟨old, he⟩, hit, hne, hai, hae⟩ ⟨xs, x, hq, hx⟩
    obtain ⟨its, rv, p, hz⟩ := I.tuple hq
    obtain ⟨u, hu, ru⟩ := rv.get hx
    have hel := Heap.lt_size he
    have hil : it < s.heap.objs.size := by
      obtain ⟨o, ho, _⟩ := hit
      exact Heap.lt_size ho
    have hsz := its.size_toArray
    have hi : i < its.toArray.size := by
      rw [hsz]
      exact (List.getElem?_eq_some_iff.mp hu).1
    have D := draws_tup (prog := X.prog) (w := X.w) (A := X.A.in1) (I.ok.hd hc) it a hai its.toArray
    refine wpAny_pyNext_enum_itemD D he ⟨hit, p⟩ hi hne (by simp [hne, Ne.symm hae]) fun y h' tk hy ho hst hT hsz' hk => ?_
    have ey : y = u := by
      have : its.toArray[i]? = some u := by simpa using hu
      rw [this] at hy
      exact (Option.some.inj hy).symm
    subst ey
    refine ⟨_, rfl, wpAny_letOwnedTupleGo_enum ho fun h'' he' sb => ?_⟩
    have hT2 := (sb.2 s.heap.objs.size (Nat.ne_of_gt hel)).trans hT
    have k2 : ∀ (b : Addr) (o : Obj), b ∉ [e, it] → s.heap.get? b = some o → h''.get? b = some o := fun b o hb q => by
      have hb' : b ≠ e ∧ b ≠ it := by simpa using hb
      exact (sb.2 b hb'.1).trans (hk b o hb'.1 hb'.2 q)
    have I1 : L2.Inv X pins σ (upd H s.heap.objs.size (.tup [V.int (i : Nat), x])) { heap := h'', gens := s.gens, drawn := s.drawn, toks := tk + 1, os := s.os } :=
      Inv.turnedNew I k2 hf (Nat.le_refl _) ⟨(by show (2 : Nat) ≤ sizeLine; decide), [Value.int (i : Nat) tk, y], .cons ⟨tk, rfl⟩ (.cons ru .nil), _, hT2, rfl, 0, rfl⟩
    refine ⟨.ref s.heap.objs.size, _, I1, rfl, ⟨_, x, rfl, I.hok.fresh (Nat.le_refl _), rfl, fun ys hy => ?_⟩, ⟨⟨y, ?_⟩, ?_, hne, hai, hae⟩, fun b hb => ?_⟩
    · have e2 : ys = xs := I.tuple_inj hy hq
      rw [e2]
      exact hx
    · have : ((i + 1 : Nat) : Int) = (i : Int) + 1 := by omega
      rw [this]
      exact he'
    · obtain ⟨⟨o, ho, r⟩, _⟩ := hst
      exact ⟨o, (sb.2 it (Ne.symm hne)).trans ho, r⟩
    · have hb' : b < s.heap.objs.size := by
        rcases (by simpa using hb : b = e ∨ b = it) with z | z <;> (rw [z]; assumption)
      rw [upd_ne (Nat.ne_of_lt hb')]
      exact (hf b hb).1
  done := by
    rintro X rfl rfl rfl hc i pins s σ H E I hf ⟨⟨old, he⟩, hit, hne, hai, hae⟩ ⟨xs, hq, hx⟩
    obtain ⟨its, rv, p, hz⟩ := I.tuple hq
    have hl := rv.length
    have hsz : its.toArray.size = its.length := its.size_toArray
    obtain ⟨f0, f1, f2, f3, f4, f5⟩ := hf e (by simp)
    have D := draws_tupEnd (prog := X.prog) (w := X.w) (A := X.A.in1) (I.ok.hd hc) it a hai its.toArray i (Array.getElem?_eq_none (by omega))
    refine wpAny_pyNext_enum_endD D he ⟨rfl, hit, p⟩ fun h' eb => ⟨rfl, ?_⟩
    obtain ⟨g0, g1, g2, g3, g4, g5⟩ := hf it (by simp)
    exact Inv.turned I (fun b o hb q => eb b o hb q) g0 g1 g3 g4 g5
  self := by
    rintro A i s Q E ⟨⟨old, he⟩, _⟩ h
    exact wpAny_pyIter_enum he h
theorem walk_enumT {K : PySem.W.Frag} {a : Addr} {xs : List V} : Walk (Iet K a) xs.length (fun H => SqT K H a xs) (YPair (fun i => some (.int (i : Nat))) (fun i => xs[i]?)) where
  goes := fun i H hi h => ⟨xs, xs[i], h, List.getElem?_eq_getElem hi⟩
  stops := fun H h => ⟨xs, h, Nat.le_refl _⟩
  yields := by
    rintro i H v H' hi h ⟨T, x, rfl, nT, rfl, q⟩
    exact ⟨T, _, x, rfl, nT, rfl, rfl, q xs h⟩
def iEnumT (K : PySem.W.Frag) (ta : TA) : TI := fun σ H R => ta σ H fun vs H1 => ∃ a xs, vs = [V.ref a] ∧ SqT K H1 a xs ∧ R (Iet K a) H1
def iEnumS (K : PySem.W.Frag) (ta : TA) : TI := fun σ H R => iEnum K ta σ H R ∨ iEnumT K ta σ H R
theorem pi_enumT {X : Cx} {e : PySem.Expr} {ta : TA} {p pos tpos : Pos} {elts : List PySem.Expr} {kk : Nat} (hg : Gl X "enumerate") (hm : X.mg "enumerate" = none) (ha : PA X [e] ta)
    (hs : starEach [e] X.env = [(false, eval e X.env)] := by rfl) : PI X (Expr.Tuple elts kk tpos) ((Expr.Name "enumerate" p).Call [e] [] pos) (iEnumT X.K ta) := by
  refine ⟨fun pins s σ H R I h => ?_⟩
  refine PyProof.Rows.Call_ (ld_blt I hg hm PyProof.Rows.boot_enumerate (PyProof.Rows.callWith_type1 (thn (ha.run pos pins s σ H _ I h) fun us s1 ⟨vs, H1, I1, r1, a, xs, ev, hq, q⟩ => ?_) hs rfl))
  subst ev
  obtain ⟨u, rfl, ru⟩ := vals1 r1
  cases (show u = Value.ref a from ru)
  obtain ⟨its, rv, p', hz⟩ := I1.tuple hq
  refine call_enumerate_tup p' fun h' he hit hsz hk => wpAny_pyIter_enum he ?_
  have I2 := I1.kept (t' := s1.toks) hk
  have l0 : a < s1.heap.objs.size := by
    obtain ⟨o, ho, _⟩ := p'
    exact Heap.lt_size ho
  refine ⟨_, [s1.heap.objs.size + 1, s1.heap.objs.size], _, Iet X.K a, H1, rfl, I2, turn_enumT a _ _, ⟨⟨_, he⟩, hit, (Nat.succ_ne_self _), Nat.ne_of_lt l0, Nat.ne_of_lt (Nat.lt_succ_of_lt l0)⟩, fun b hb => ?_, q⟩
  have hb' : s1.heap.objs.size ≤ b := by
    rcases (by simpa using hb : b = s1.heap.objs.size + 1 ∨ b = s1.heap.objs.size) with z | z
    · rw [z]; exact Nat.le_succ _
    · rw [z]; exact Nat.le_refl _
  exact I1.fpOk hb' (I1.hok.fresh hb')
theorem pi_enumS {X : Cx} {e : PySem.Expr} {ta : TA} {p pos tpos : Pos} {elts : List PySem.Expr} {kk : Nat} (hg : Gl X "enumerate") (hm : X.mg "enumerate" = none) (ha : PA X [e] ta)
    (hs : starEach [e] X.env = [(false, eval e X.env)] := by rfl) : PI X (Expr.Tuple elts kk tpos) ((Expr.Name "enumerate" p).Call [e] [] pos) (iEnumS X.K ta) :=
  ⟨fun pins s σ H R I h => h.elim (fun h => (pi_enum hg hm ha hs).run pins s σ H R I h) (fun h => (pi_enumT hg hm ha hs).run pins s σ H R I h)⟩

/-! ### len(set(xs)), xs a list or a tuple of whole numbers, any of them twice -/
def tLenSetA (K : PySem.W.Frag) (ta : TE) : TE := fun σ H Q => ta σ H fun x H1 => ∃ (l : Addr) (ns : List Int), x = .ref l ∧ SqA K H1 l (ns.map V.int) ∧ ns.length ≤ 1000 ∧ ∀ out : List Int, out.Nodup → (∀ k, k ∈ out ↔ k ∈ ns) → Q (.int (out.length : Nat)) H1
theorem any_mem {l : List Int} {k : Int} : (l.any fun x => x == k) = true ↔ k ∈ l := by
  rw [List.any_eq_true]
  constructor
  · rintro ⟨x, hx, e⟩
    rw [← (beq_iff_eq.mp e)]
    exact hx
  · intro h
    exact ⟨k, h, by simp⟩
theorem first_nodup (val : Nat → Int) : ∀ i, (PyProof.Rows.firstMet val i).Nodup
  | 0 => List.nodup_nil
  | i + 1 => by
    rw [PyProof.Rows.firstMet_succ]
    unfold PyProof.Rows.step_dedup
    have ih := first_nodup val i
    by_cases h : ((PyProof.Rows.firstMet val i).any fun x => x == val i) = true
    · rw [if_pos h]
      exact ih
    · rw [if_neg h, List.nodup_append]
      refine ⟨ih, by simp, fun a ha b hb e => ?_⟩
      rw [List.mem_singleton.mp hb] at e
      exact h (any_mem.mpr (e ▸ ha))
theorem pe_lenSetA {X : Cx} {a : Expr} {ta : TE} {p p2 q pos : Pos} (hc : X.calm = true) (hg : Gl X "len") (hm : X.mg "len" = none) (hg2 : Gl X "set") (hm2 : X.mg "set" = none) (ha : PE X a ta)
    (na : starEach [a] X.env = (false, eval a X.env) :: starEach [] X.env := by rfl) : PE X (.Call (.Name "len" p) [.Call (.Name "set" p2) [a] [] q] [] pos) (tLenSetA X.K ta) := by
  refine ⟨fun pins s σ H Q I h => ?_⟩
  refine PyProof.Rows.Call_ (ld_blt I hg hm PySem.boot_len (PyProof.Rows.callWith_builtin1 (PyProof.Rows.args_cons (PyProof.Rows.Call_ (ld_blt I hg2 hm2 PyProof.Rows.boot_set (PyProof.Rows.callWith_type1 (PyProof.Rows.args_cons (thn (ha.run pins s σ H _ I h) fun v s1 ⟨x, H1, I1, r1, l, ns, ex, hq, hl, q⟩ => PyProof.Rows.args_nil ?_) na) na rfl))))))
  subst ex
  cases (show v = Value.ref l from r1)
  rcases hq with hq | hq
  · obtain ⟨its, r, pl, hz⟩ := I1.list hq
    have hlen : its.length = ns.length := by rw [← r.length, List.length_map]
    refine PySem.call_set_list (I1.ok.hd hc) pl.isList (by simpa using Vals.ints r) (by rw [List.size_toArray, hlen]; exact Nat.lt_of_le_of_lt (Nat.succ_le_succ hl) (by decide)) fun h' tk hS hk => PyProof.Rows.args_nil ?_
    obtain ⟨o, es, ep, t, e1, e2, e3, e4, e5, e6, e7, e8⟩ := hS
    refine PySem.call_len_set e1 e2 e3 e7 (by rw [e8]; have := PyProof.Rows.firstMet_length_le (fun i => ns.getD i 0) its.toArray.size; rw [List.size_toArray] at this ⊢; omega) ?_
    rw [e8]
    have hst : ∀ (b : Addr) (o : Obj), s1.heap.get? b = some o → h'.get? b = some o := fun b o e => hk b o (Heap.lt_size e) e
    refine ⟨.int _, H1, (I1.kept hst).tok _, ⟨_, rfl⟩, q _ (first_nodup _ _) fun k => ?_⟩
    rw [← any_mem, PyProof.Rows.firstMet_any, any_mem, List.size_toArray, hlen]
    constructor
    · intro hk
      obtain ⟨i, hi, rfl⟩ := List.mem_map.mp hk
      rw [List.mem_range] at hi
      rw [List.getD_eq_getElem?_getD, List.getElem?_eq_getElem hi]
      exact List.getElem_mem hi
    · intro hk
      obtain ⟨i, hi, e⟩ := List.getElem_of_mem hk
      exact List.mem_map.mpr ⟨i, List.mem_range.mpr hi, by rw [List.getD_eq_getElem?_getD, List.getElem?_eq_getElem hi]; exact e⟩
  · obtain ⟨its, r, pl, hz⟩ := I1.tuple hq
    have hlen : its.length = ns.length := by rw [← r.length, List.length_map]
    refine call_set_tupI ns (I1.ok.hd hc) pl (by simpa using Vals.ints r) (Nat.lt_of_le_of_lt (Nat.succ_le_succ hl) (by decide)) fun h' tk c hS hcl hk => PyProof.Rows.args_nil ?_
    obtain ⟨o, es, ep, t, e1, e2, e3, e4, e5, e6, e7, e8, e9, _⟩ := hS
    refine PySem.call_len_set e1 e2 e3 e8 (by rw [e9]; omega) ?_
    refine ⟨.int _, H1, (I1.kept hk).tok _, ⟨_, rfl⟩, ?_⟩
    have := q (es.toList.map keyOf) e5 fun k => by rw [← e6]; simp
    rw [List.length_map, Array.length_toList] at this
    exact this

/-! ### trees: the mathematics -/
/-- the knots that T (a tree's row of the knots above, or a row of wishes) sends to a, rising -/
def kn (T : List Nat) (a : Nat) : List Nat := ((List.range T.length).filter fun i => decide (T[i]? = some a)).map (· + 1)
theorem mem_kn {T : List Nat} {a k : Nat} : k ∈ kn T a ↔ 1 ≤ k ∧ T[k - 1]? = some a := by
  unfold kn
  rw [List.mem_map]
  constructor
  · rintro ⟨i, h, rfl⟩
    rw [List.mem_filter] at h
    exact ⟨by omega, by simpa using h.2⟩
  · rintro ⟨h1, h2⟩
    refine ⟨k - 1, List.mem_filter.mpr ⟨List.mem_range.mpr (List.getElem?_eq_some_iff.mp h2).1, by simpa using h2⟩, by omega⟩
theorem kn_nodup (T : List Nat) (a : Nat) : (kn T a).Nodup := by
  unfold kn
  refine List.Pairwise.map _ (fun x y h => by omega) (List.Pairwise.filter _ List.nodup_range)
theorem kn_congr {T S : List Nat} {a b : Nat} (hl : T.length = S.length) (h : ∀ i, i < T.length → (T[i]? = some a ↔ S[i]? = some b)) : kn T a = kn S b := by
  unfold kn
  rw [hl]
  congr 1
  refine List.filter_congr fun i hi => ?_
  rw [List.mem_range] at hi
  have := h i (by omega)
  by_cases e : T[i]? = some a
  · rw [decide_eq_true e, decide_eq_true (this.mp e)]
  · rw [decide_eq_false e, decide_eq_false (fun z => e (this.mpr z))]
theorem fm_nodup {T : List Nat} : ∀ {l : List Nat}, l.Nodup → (0 :: l.flatMap (kn T)).Nodup
  | [], _ => by simp
  | a :: r, h => by
    rw [List.nodup_cons] at h
    have ih := fm_nodup (T := T) h.2
    rw [List.nodup_cons] at ih ⊢
    rw [List.flatMap_cons]
    refine ⟨?_, ?_⟩
    · intro z
      rcases List.mem_append.mp z with z | z
      · have := (mem_kn.mp z).1
        omega
      · exact ih.1 z
    · rw [List.nodup_append]
      refine ⟨kn_nodup _ _, ih.2, fun x hx y hy e => ?_⟩
      subst e
      obtain ⟨b, hb, hy⟩ := List.mem_flatMap.mp hy
      have e1 := (mem_kn.mp hx).2
      have e2 := (mem_kn.mp hy).2
      rw [e1] at e2
      cases e2
      exact h.1 hb
/-- knots come to: after b visits -/
def met (T : List Nat) : Nat → List Nat
  | 0 => [0]
  | b + 1 => met T b ++ (match (met T b)[b]? with | some a => kn T a | none => [])
theorem met_step {T : List Nat} {b a : Nat} (h : (met T b)[b]? = some a) : met T (b + 1) = met T b ++ kn T a := by
  rw [met, h]
theorem met_stuck {T : List Nat} {b : Nat} (h : (met T b).length ≤ b) : met T (b + 1) = met T b := by
  rw [met, List.getElem?_eq_none h, List.append_nil]
theorem met_pre {T : List Nat} (b : Nat) : ∀ k, met T b <+: met T (b + k)
  | 0 => List.prefix_refl _
  | k + 1 => (met_pre b k).trans ⟨_, rfl⟩
theorem met_at {T : List Nat} {b c i x : Nat} (h : (met T b)[i]? = some x) (hc : b ≤ c) : (met T c)[i]? = some x := by
  obtain ⟨k, rfl⟩ : ∃ k, c = b + k := ⟨c - b, by omega⟩
  obtain ⟨t, e⟩ := met_pre (T := T) b k
  rw [← e, List.getElem?_append_left (List.getElem?_eq_some_iff.mp h).1]
  exact h
theorem met_all {T : List Nat} : ∀ b, met T b = 0 :: ((met T b).take b).flatMap (kn T)
  | 0 => rfl
  | b + 1 => by
    have ih := met_all (T := T) b
    cases e : (met T b)[b]? with
    | none =>
      have hl : (met T b).length ≤ b := by
        by_cases z : b < (met T b).length
        · rw [List.getElem?_eq_getElem z] at e
          cases e
        · omega
      rw [met_stuck hl, List.take_of_length_le (by omega)]
      rw [List.take_of_length_le hl] at ih
      exact ih
    | some a =>
      have hl := (List.getElem?_eq_some_iff.mp e).1
      rw [met_step e, List.take_append_of_le_length (by omega), List.take_add_one, e, List.flatMap_append]
      show _ = (0 :: _) ++ _
      rw [← ih]
      simp
theorem met_nodup {T : List Nat} : ∀ b, (met T b).Nodup
  | 0 => by simp [met]
  | b + 1 => by
    rw [met_all (b + 1)]
    refine fm_nodup ?_
    have ih := met_nodup (T := T) b
    cases e : (met T b)[b]? with
    | none =>
      have hl : (met T b).length ≤ b := by
        by_cases z : b < (met T b).length
        · rw [List.getElem?_eq_getElem z] at e
          cases e
        · omega
      rw [met_stuck hl]
      exact List.Nodup.sublist (List.take_sublist _ _) ih
    | some a =>
      have hl := (List.getElem?_eq_some_iff.mp e).1
      rw [met_step e, List.take_append_of_le_length (by omega)]
      exact List.Nodup.sublist (List.take_sublist _ _) ih
theorem met_le {T : List Nat} {b k : Nat} (h : k ∈ met T b) : k ≤ T.length := by
  rw [met_all b] at h
  rcases List.mem_cons.mp h with h | h
  · omega
  · obtain ⟨a, _, h⟩ := List.mem_flatMap.mp h
    obtain ⟨h1, h2⟩ := mem_kn.mp h
    have := (List.getElem?_eq_some_iff.mp h2).1
    omega
theorem nsub_len : ∀ {l1 l2 : List Nat}, l1.Nodup → (∀ x ∈ l1, x ∈ l2) → l1.length ≤ l2.length
  | [], _, _, _ => Nat.zero_le _
  | x :: r, l2, h, s => by
    rw [List.nodup_cons] at h
    have := nsub_len (l1 := r) (l2 := l2.erase x) h.2 fun y hy => by
      have hne : y ≠ x := fun z => h.1 (z ▸ hy)
      exact (List.mem_erase_of_ne hne).mpr (s y (List.mem_cons_of_mem _ hy))
    have hx := s x List.mem_cons_self
    rw [List.length_erase_of_mem hx] at this
    have := List.length_pos_of_mem hx
    rw [List.length_cons]
    omega
theorem met_len {T : List Nat} (b : Nat) : (met T b).length ≤ T.length + 1 := by
  have := nsub_len (l2 := List.range (T.length + 1)) (met_nodup (T := T) b) fun x hx => List.mem_range.mpr (by have := met_le hx; omega)
  rw [List.length_range] at this
  exact this
theorem met_end {T : List Nat} {b : Nat} (h : (met T b).length ≤ b) : ∀ k, met T (b + k) = met T b
  | 0 => rfl
  | k + 1 => by
    have ih := met_end h k
    rw [← Nat.add_assoc, met_stuck (by rw [ih]; omega), ih]
/-- all that are come to -/
def metA (T : List Nat) : List Nat := met T (T.length + 1)
theorem metA_at {T : List Nat} {b : Nat} (h : (met T b).length ≤ b) : metA T = met T b := by
  unfold metA
  by_cases z : b ≤ T.length + 1
  · obtain ⟨k, e⟩ : ∃ k, T.length + 1 = b + k := ⟨T.length + 1 - b, by omega⟩
    rw [e, met_end h]
  · obtain ⟨k, e⟩ : ∃ k, b = (T.length + 1) + k := ⟨b - (T.length + 1), by omega⟩
    rw [e, met_end (met_len _)]
theorem metA_all {T : List Nat} : metA T = 0 :: (metA T).flatMap (kn T) := by
  have h := met_all (T := T) (T.length + 1)
  rw [List.take_of_length_le (met_len _)] at h
  exact h
theorem metA_nodup (T : List Nat) : (metA T).Nodup := met_nodup _
/-- a tree: each knot is come to -/
def Rooted (T : List Nat) : Prop := T.length < (metA T).length
theorem rooted_mem {T : List Nat} (h : Rooted T) {k : Nat} (hk : k ≤ T.length) : k ∈ metA T := by
  by_cases z : k ∈ metA T
  · exact z
  · exfalso
    have := nsub_len (l2 := List.range (T.length + 1)) (l1 := k :: metA T) (List.nodup_cons.mpr ⟨z, metA_nodup T⟩) fun x hx => List.mem_range.mpr (by
      rcases List.mem_cons.mp hx with hx | hx
      · omega
      · have := met_le hx
        omega)
    rw [List.length_range, List.length_cons] at this
    have h : T.length < (metA T).length := h
    omega
theorem met_long {T : List Nat} (h : Rooted T) {b : Nat} (hb : b ≤ T.length) : b < (met T b).length := by
  by_cases z : b < (met T b).length
  · exact z
  · have e := metA_at (T := T) (b := b) (by omega)
    have h : T.length < (metA T).length := h
    rw [e] at h
    omega
theorem rooted_last {T : List Nat} (h : Rooted T) : met T T.length = metA T := by
  have hl := met_long h (Nat.le_refl _)
  have := met_len (T := T) T.length
  unfold metA
  obtain ⟨t, e⟩ := met_pre (T := T) T.length 1
  have h2 := met_len (T := T) (T.length + 1)
  rw [← e, List.length_append] at h2
  have : t = [] := List.length_eq_zero_iff.mp (by omega)
  rw [← e, this, List.append_nil]
/-! the row of a tree -/
def rowL (T : List Nat) : List Nat := T.map fun a => (metA T).idxOf a + 1
/-- the knots come to by a row -/
def comes (R : List Nat) (b : Nat) : List Nat := 0 :: ((List.range b).map (· + 1)).flatMap (kn R)
theorem comes_succ {R : List Nat} {b : Nat} : comes R (b + 1) = comes R b ++ kn R (b + 1) := by
  unfold comes
  rw [List.range_succ, List.map_append, List.flatMap_append]
  simp
def treeL (R : List Nat) : List Nat := R.map fun w => (comes R R.length).getD (w - 1) 0
theorem comes_nodup (R : List Nat) (b : Nat) : (comes R b).Nodup := fm_nodup (List.Pairwise.map _ (fun x y h => by omega) List.nodup_range)
theorem idx_at {l : List Nat} (nd : l.Nodup) {i x : Nat} (h : l[i]? = some x) : l.idxOf x = i := by
  obtain ⟨hi, e⟩ := List.getElem?_eq_some_iff.mp h
  rw [← e]
  exact nd.idxOf_getElem i hi
theorem at_idx {l : List Nat} {x : Nat} (h : x ∈ l) : l[l.idxOf x]? = some x := by
  have := List.idxOf_lt_length_of_mem h
  rw [List.getElem?_eq_getElem this, List.getElem_idxOf]
theorem rowL_at {T : List Nat} {i a : Nat} (h : T[i]? = some a) : (rowL T)[i]? = some ((metA T).idxOf a + 1) := by
  unfold rowL
  rw [List.getElem?_map, h]
  rfl
theorem rowL_len (T : List Nat) : (rowL T).length = T.length := by simp [rowL]
theorem kn_row {T : List Nat} (h : Rooted T) (hT : ∀ a ∈ T, a ≤ T.length) {b a : Nat} (hb : (metA T)[b]? = some a) : kn (rowL T) (b + 1) = kn T a := by
  refine kn_congr (rowL_len T) fun i hi => ?_
  rw [rowL_len] at hi
  have e : T[i]? = some T[i] := List.getElem?_eq_getElem hi
  rw [rowL_at e, e]
  have hm := rooted_mem h (hT _ (List.getElem_mem hi))
  constructor
  · intro z
    have z : (metA T).idxOf T[i] = b := by simpa using z
    have := at_idx hm
    rw [z, hb] at this
    exact this.symm
  · intro z
    have z : T[i] = a := by simpa using z
    rw [z, idx_at (metA_nodup T) hb]
theorem comes_row {T : List Nat} (h : Rooted T) (hT : ∀ a ∈ T, a ≤ T.length) : ∀ b, b ≤ T.length → comes (rowL T) b = met T b
  | 0, _ => rfl
  | b + 1, hb => by
    have ih := comes_row h hT b (by omega)
    have hl := met_long h (show b ≤ T.length by omega)
    have e : (met T b)[b]? = some (met T b)[b] := List.getElem?_eq_getElem hl
    rw [comes_succ, ih, met_step e, kn_row h hT (b := b) (a := (met T b)[b]) (met_at e (by omega))]
theorem tree_row {T : List Nat} (h : Rooted T) (hT : ∀ a ∈ T, a ≤ T.length) : treeL (rowL T) = T := by
  unfold treeL
  rw [rowL_len, comes_row h hT _ (Nat.le_refl _), rooted_last h]
  apply List.ext_getElem?
  intro i
  rw [List.getElem?_map]
  by_cases hi : i < T.length
  · have e : T[i]? = some T[i] := List.getElem?_eq_getElem hi
    rw [rowL_at e, e]
    have hm := rooted_mem h (hT _ (List.getElem_mem hi))
    simp only [Option.map_some, Nat.add_sub_cancel]
    rw [List.getD_eq_getElem?_getD, at_idx hm]
    rfl
  · rw [List.getElem?_eq_none (by omega : T.length ≤ i), List.getElem?_eq_none (by rw [rowL_len]; omega)]
    rfl
theorem row_in {T : List Nat} (h : Rooted T) (hT : ∀ a ∈ T, a ≤ T.length) {r : Nat} (hr : r ∈ rowL T) : 1 ≤ r ∧ r ≤ T.length := by
  unfold rowL at hr
  obtain ⟨a, ha, rfl⟩ := List.mem_map.mp hr
  refine ⟨by omega, ?_⟩
  have hm := rooted_mem h (hT a ha)
  have hi := List.idxOf_lt_length_of_mem hm
  have hl := met_len (T := T) (T.length + 1)
  have hl : (metA T).length ≤ T.length + 1 := hl
  by_cases z : (metA T).idxOf a = T.length
  · exfalso
    obtain ⟨i, hi2, e⟩ := List.getElem_of_mem ha
    have ek : i + 1 ∈ kn T a := mem_kn.mpr ⟨by omega, by rw [Nat.add_sub_cancel, List.getElem?_eq_getElem hi2, e]⟩
    have e3 : (met T T.length)[T.length]? = some a := by
      have := at_idx hm
      rw [z] at this
      rw [rooted_last h]
      exact this
    have e4 : metA T = met T T.length ++ kn T a := met_step e3
    rw [rooted_last h] at e4
    have e5 := congrArg List.length e4
    rw [List.length_append] at e5
    have := List.length_pos_of_mem ek
    omega
  · omega
/-- what goes up -/
def up (T : List Nat) (k : Nat) : Nat := if k = 0 then 0 else T.getD (k - 1) 0
def ups (T : List Nat) : Nat → Nat → Nat
  | 0, k => k
  | s + 1, k => ups T s (up T k)
theorem ups_zero {T : List Nat} : ∀ s, ups T s 0 = 0
  | 0 => rfl
  | s + 1 => ups_zero s
theorem ups_more {T : List Nat} : ∀ {s t k : Nat}, ups T s k = 0 → s ≤ t → ups T t k = 0
  | 0, t, k, h, _ => by
    have h : k = 0 := h
    rw [h, ups_zero]
  | s + 1, 0, k, h, ht => by omega
  | s + 1, t + 1, k, h, ht => ups_more (s := s) (t := t) (k := up T k) h (by omega)
theorem met_up {T : List Nat} : ∀ {b k : Nat}, k ∈ met T b → ups T b k = 0
  | 0, k, h => by
    have h : k ∈ [0] := h
    rw [List.mem_singleton.mp h]
    rfl
  | b + 1, k, h => by
    rw [met] at h
    rcases List.mem_append.mp h with h | h
    · exact ups_more (met_up h) (by omega)
    · cases e : (met T b)[b]? with
      | none => rw [e] at h; cases h
      | some a =>
        rw [e] at h
        obtain ⟨h1, h2⟩ := mem_kn.mp h
        show ups T b (up T k) = 0
        have : up T k = a := by
          unfold up
          rw [if_neg (by omega), List.getD_eq_getElem?_getD, h2]
          rfl
        rw [this]
        exact met_up (List.mem_of_getElem? e)
theorem up_met {T : List Nat} : ∀ {s k : Nat}, k ≤ T.length → (∀ a ∈ T, a ≤ T.length) → ups T s k = 0 → k ∈ metA T
  | 0, k, hk, _, h => by
    have h : k = 0 := h
    rw [h, metA_all]
    exact List.mem_cons_self
  | s + 1, k, hk, hT, h => by
    by_cases z : k = 0
    · rw [z, metA_all]
      exact List.mem_cons_self
    have hi : k - 1 < T.length := by omega
    have e : T[k - 1]? = some T[k - 1] := List.getElem?_eq_getElem hi
    have eu : up T k = T[k - 1] := by
      unfold up
      rw [if_neg z, List.getD_eq_getElem?_getD, e]
      rfl
    have h : ups T s (up T k) = 0 := h
    rw [eu] at h
    have := up_met (hT _ (List.getElem_mem hi)) hT h
    rw [metA_all]
    exact List.mem_cons_of_mem _ (List.mem_flatMap.mpr ⟨_, this, mem_kn.mpr ⟨by omega, e⟩⟩)
theorem rooted_iff {T : List Nat} (hT : ∀ a ∈ T, a ≤ T.length) : Rooted T ↔ ∀ k, 1 ≤ k → k ≤ T.length → ups T (T.length + 1) k = 0 := by
  constructor
  · intro h k _ hk
    exact met_up (rooted_mem h hk)
  · intro h
    have := nsub_len (l1 := List.range (T.length + 1)) (l2 := metA T) List.nodup_range fun x hx => by
      have hx := List.mem_range.mp hx
      by_cases z : x = 0
      · rw [z, metA_all]
        exact List.mem_cons_self
      · exact up_met (by omega) hT (h x (by omega) (by omega))
    rw [List.length_range] at this
    show T.length < _
    omega
/-! the tree of a row -/
def FullR (R : List Nat) : Prop := (∀ w ∈ R, 1 ≤ w ∧ w ≤ R.length) ∧ ∀ b, b ≤ R.length → b < (comes R b).length
theorem comes_pre {R : List Nat} (b : Nat) : ∀ k, comes R b <+: comes R (b + k)
  | 0 => List.prefix_refl _
  | k + 1 => by
    rw [← Nat.add_assoc, comes_succ]
    exact (comes_pre b k).trans ⟨_, rfl⟩
theorem comes_at {R : List Nat} {b c i x : Nat} (h : (comes R b)[i]? = some x) (hc : b ≤ c) : (comes R c)[i]? = some x := by
  obtain ⟨k, rfl⟩ : ∃ k, c = b + k := ⟨c - b, by omega⟩
  obtain ⟨t, e⟩ := comes_pre (R := R) b k
  rw [← e, List.getElem?_append_left (List.getElem?_eq_some_iff.mp h).1]
  exact h
theorem comes_le {R : List Nat} {b : Nat} : (comes R b).length ≤ R.length + 1 := by
  have := nsub_len (l2 := List.range (R.length + 1)) (comes_nodup R b) fun x hx => List.mem_range.mpr (by
    unfold comes at hx
    rcases List.mem_cons.mp hx with h | h
    · omega
    · obtain ⟨a, _, h⟩ := List.mem_flatMap.mp h
      obtain ⟨h1, h2⟩ := mem_kn.mp h
      have := (List.getElem?_eq_some_iff.mp h2).1
      omega)
  rw [List.length_range] at this
  exact this
theorem treeL_len (R : List Nat) : (treeL R).length = R.length := by simp [treeL]
theorem kn_tree {R : List Nat} (h : FullR R) {b a : Nat} (hb : (comes R R.length)[b]? = some a) : kn (treeL R) a = kn R (b + 1) := by
  refine kn_congr (treeL_len R) fun i hi => ?_
  rw [treeL_len] at hi
  have e : R[i]? = some R[i] := List.getElem?_eq_getElem hi
  have hw := h.1 _ (List.getElem_mem hi)
  have hl := h.2 R.length (Nat.le_refl _)
  have hlt : R[i] - 1 < (comes R R.length).length := by omega
  unfold treeL
  rw [List.getElem?_map, e]
  simp only [Option.map_some, List.getD_eq_getElem?_getD, List.getElem?_eq_getElem hlt, Option.getD_some, Option.some.injEq]
  constructor
  · intro z
    have e1 := idx_at (comes_nodup R R.length) hb
    have e2 := idx_at (comes_nodup R R.length) (List.getElem?_eq_getElem hlt)
    rw [z, e1] at e2
    omega
  · intro z
    have e3 : R[i] - 1 = b := by omega
    have e4 : (comes R R.length)[R[i] - 1]? = some a := by rw [e3]; exact hb
    exact (List.getElem?_eq_some_iff.mp e4).2
theorem met_tree {R : List Nat} (h : FullR R) : ∀ b, b ≤ R.length → met (treeL R) b = comes R b
  | 0, _ => rfl
  | b + 1, hb => by
    have ih := met_tree h b (by omega)
    have hl := h.2 b (by omega)
    have e : (comes R b)[b]? = some (comes R b)[b] := List.getElem?_eq_getElem hl
    rw [met_step (a := (comes R b)[b]) (by rw [ih]; exact e), ih, comes_succ, kn_tree h (comes_at e (by omega))]
theorem metA_tree {R : List Nat} (h : FullR R) : metA (treeL R) = comes R R.length := by
  have e := met_tree h R.length (Nat.le_refl _)
  have hl := h.2 R.length (Nat.le_refl _)
  have hle := met_len (T := treeL R) (R.length + 1)
  rw [treeL_len] at hle
  unfold metA
  rw [treeL_len]
  obtain ⟨t, e2⟩ := met_pre (T := treeL R) R.length 1
  rw [← e2, e]
  rw [← e2, e, List.length_append] at hle
  have : t = [] := List.length_eq_zero_iff.mp (by omega)
  rw [this, List.append_nil]
theorem tree_rooted {R : List Nat} (h : FullR R) : Rooted (treeL R) := by
  show _ < _
  rw [metA_tree h, treeL_len]
  exact h.2 R.length (Nat.le_refl _)
theorem row_tree {R : List Nat} (h : FullR R) : rowL (treeL R) = R := by
  unfold rowL
  rw [metA_tree h]
  apply List.ext_getElem?
  intro i
  rw [List.getElem?_map]
  by_cases hi : i < R.length
  · have e : R[i]? = some R[i] := List.getElem?_eq_getElem hi
    have hw := h.1 _ (List.getElem_mem hi)
    have hl := h.2 R.length (Nat.le_refl _)
    have hlt : R[i] - 1 < (comes R R.length).length := by omega
    unfold treeL
    rw [List.getElem?_map, e]
    simp only [Option.map_some, List.getD_eq_getElem?_getD, List.getElem?_eq_getElem hlt, Option.getD_some]
    rw [idx_at (comes_nodup R R.length) (List.getElem?_eq_getElem hlt)]
    congr 1
    omega
  · rw [List.getElem?_eq_none (by omega : R.length ≤ i), List.getElem?_eq_none (by rw [treeL_len]; omega)]
    rfl
theorem tree_in {R : List Nat} (h : FullR R) {a : Nat} (ha : a ∈ treeL R) : a ≤ R.length := by
  unfold treeL at ha
  obtain ⟨w, hw, rfl⟩ := List.mem_map.mp ha
  have := h.1 w hw
  have hl := h.2 R.length (Nat.le_refl _)
  have hlt : w - 1 < (comes R R.length).length := by omega
  rw [List.getD_eq_getElem?_getD, List.getElem?_eq_getElem hlt]
  have e := metA_tree h
  have hm : (comes R R.length)[w - 1] ∈ metA (treeL R) := by
    rw [e]
    exact List.getElem_mem hlt
  have := met_le hm
  rw [treeL_len] at this
  exact this
theorem full_row {T : List Nat} (h : Rooted T) (hT : ∀ a ∈ T, a ≤ T.length) : FullR (rowL T) := by
  refine ⟨fun w hw => ?_, fun b hb => ?_⟩
  · rw [rowL_len]
    exact row_in h hT hw
  · rw [rowL_len] at hb
    rw [comes_row h hT b hb]
    exact met_long h hb

/-! ### while, turn by turn -/
theorem while_up {c : TT} {tb : TS} {D : Ends} {σ : L2.St} {H : Hp} (N : Nat) (Pv : Nat → L2.St → Hp → Prop) (h0 : ∃ b, Pv b σ H)
    (hs : ∀ b σ H, Pv b σ H → c σ H fun t H1 => if t = true then ∃ Nx : L2.St → Hp → Prop, (∀ σ' H', Nx σ' H' → ∃ m', m' < N - b ∧ ∃ b', m' = N - b' ∧ Pv b' σ' H') ∧ tb { nx := Nx, rt := D.rt, bk := D.nx, ct := Nx } σ H1 else D.nx σ H1) : tWhile c tb D σ H := by
  obtain ⟨b, h0⟩ := h0
  refine ⟨fun m σ H => ∃ b, m = N - b ∧ Pv b σ H, ⟨_, b, rfl, h0⟩, ?_⟩
  rintro m σ H ⟨b, rfl, h⟩
  exact hs b σ H h
theorem while_nx {N b : Nat} {Pv : Nat → L2.St → Hp → Prop} (hb : b < N) : ∀ σ' H', Pv (b + 1) σ' H' → ∃ m', m' < N - b ∧ ∃ b', m' = N - b' ∧ Pv b' σ' H' := fun σ' H' h => ⟨N - (b + 1), by omega, b + 1, rfl, h⟩
/-! ### a list of lists, made and filled -/
def vN (l : List Nat) : List V := l.map fun (k : Nat) => V.int (k : Int)
theorem vN_len (l : List Nat) : (vN l).length = l.length := by simp [vN]
theorem vN_at {l : List Nat} {i k : Nat} (h : l[i]? = some k) : (vN l)[i]? = some (.int (k : Int)) := by
  unfold vN
  rw [List.getElem?_map, h]
  rfl
theorem vN_item {l : List Nat} {i : Nat} {x : V} (h : (vN l)[i]? = some x) : ∃ k : Nat, l[i]? = some k ∧ x = .int (k : Int) := by
  unfold vN at h
  rw [List.getElem?_map] at h
  cases e : l[i]? with
  | none => rw [e] at h; cases h
  | some k => rw [e] at h; exact ⟨k, rfl, (Option.some.inj h).symm⟩
theorem vN_app (l m : List Nat) : vN (l ++ m) = vN l ++ vN m := by simp [vN]
theorem vN_set (l : List Nat) (i k : Nat) : (vN l).set i (.int (k : Int)) = vN (l.set i k) := by
  unfold vN
  rw [List.map_set]
theorem vN_rep (n : Nat) : (List.replicate n [V.int 0]).flatten = vN (List.replicate n 0) := by
  induction n with
  | zero => rfl
  | succ n ih =>
    rw [List.replicate_succ, List.replicate_succ, List.flatten_cons, ih]
    rfl
theorem vN_of {ws : List Int} (h : ∀ w ∈ ws, 0 ≤ w) : ws.map V.int = vN (ws.map Int.toNat) := by
  unfold vN
  rw [List.map_map]
  refine List.map_congr_left fun w hw => ?_
  have := h w hw
  show V.int w = V.int ((w.toNat : Nat) : Int)
  congr 1
  omega
structure RowsAt (H : Hp) (D : Addr) (ps : List Addr) (f : Nat → List Nat) : Prop where
  d : H D = some (.lst (ps.map V.ref))
  row : ∀ j p, ps[j]? = some p → H p = some (.lst (vN (f j)))
structure RowsNew (H0 : Hp) (D : Addr) (ps : List Addr) (n : Nat) : Prop where
  len : ps.length = n
  nd : ps.Nodup
  nD : D ∉ ps
  new : ∀ p ∈ ps, H0 p = none
  newD : H0 D = none
theorem RowsAt.same {H H' : Hp} {D : Addr} {ps : List Addr} {f : Nat → List Nat} (h : RowsAt H D ps f) (s : Same H H') : RowsAt H' D ps f := ⟨s _ _ h.d, fun j p e => s _ _ (h.row j p e)⟩
theorem RowsAt.congr {H : Hp} {D : Addr} {ps : List Addr} {f g : Nat → List Nat} (h : RowsAt H D ps f) (e : ∀ j, j < ps.length → f j = g j) : RowsAt H D ps g := ⟨h.d, fun j p q => by
  rw [← e j (List.getElem?_eq_some_iff.mp q).1]
  exact h.row j p q⟩
/-- a store elsewhere -/
theorem RowsAt.keep {H : Hp} {D b : Addr} {o : HO} {ps : List Addr} {f : Nat → List Nat} (h : RowsAt H D ps f) (hD : D ≠ b) (hp : b ∉ ps) : RowsAt (upd H b o) D ps f := ⟨by rw [upd_ne hD]; exact h.d, fun j p q => by
  have : p ≠ b := fun z => hp (z ▸ List.mem_of_getElem? q)
  rw [upd_ne this]
  exact h.row j p q⟩
theorem nodup_ix {ps : List Addr} (nd : ps.Nodup) {i j : Nat} {p : Addr} (hi : ps[i]? = some p) (hj : ps[j]? = some p) : i = j := by
  obtain ⟨h1, e1⟩ := List.getElem?_eq_some_iff.mp hi
  obtain ⟨h2, e2⟩ := List.getElem?_eq_some_iff.mp hj
  exact (List.getElem_inj nd).mp (e1.trans e2.symm)
theorem RowsAt.app {H H0 : Hp} {D : Addr} {n : Nat} {ps : List Addr} {f : Nat → List Nat} (h : RowsAt H D ps f) (w : RowsNew H0 D ps n) {j k : Nat} {q : Addr} (hq : ps[j]? = some q) : RowsAt (upd H q (.lst (vN (f j) ++ [.int (k : Int)]))) D ps (fun x => if x = j then f j ++ [k] else f x) := by
  refine ⟨?_, fun i p e => ?_⟩
  · show upd H q _ D = _
    have hne : D ≠ q := fun z => w.nD (by rw [z]; exact List.mem_of_getElem? hq)
    rw [upd_ne hne]
    exact h.d
  · show upd H q _ p = _
    by_cases z : i = j
    · subst z
      rw [hq] at e
      cases e
      rw [upd_same, if_pos rfl, vN_app]
      rfl
    · have : p ≠ q := fun y => z (nodup_ix w.nd e (y ▸ hq))
      rw [upd_ne this, if_neg z]
      exact h.row i p e
/-- [[] for x in range(m)] -/
theorem rows_lc {g : TG} {vs : List Nat} {σ : L2.St} {H1 : Hp} {m : Nat} {Q : Addr → Hp → Prop} (hm : m < sizeLine) (hg : ∀ (x : V) (H' : Hp) (R : L2.St → Hp → Prop), (∀ σ2, wipe σ2 vs = wipe σ vs → R σ2 H') → g x (wipe σ vs) H' R)
    (hQ : ∀ D ps H', RowsNew H1 D ps m → Same H1 H' → RowsAt H' D ps (fun _ => []) → Q D H') :
    ∀ D, H1 D = none → ∃ W : Nat → Nat → Hp → Prop, (∃ m', W 0 m' (upd H1 D (.lst []))) ∧ ∀ i m' H, W i m' H → ((Itr 0 m).stop i H ∧ Q D H) ∨ ((Itr 0 m).go i H ∧ ∃ Nx : Hp → Prop, (∀ H', Nx H' → ∃ m'', m'' < m' ∧ W (i + 1) m'' H') ∧
      ∀ x H', (Itr 0 m).yld i H x H' → g x (wipe σ vs) H' fun σ2 H2 => wipe σ2 vs = wipe σ vs ∧ tYes σ2 H2 fun b H3 => if b = true then (tLst tNil) σ2 H3 fun y H4 => ∃ acc, H4 D = some (.lst acc) ∧ acc.length < sizeLine ∧ Nx (upd H4 D (.lst (acc ++ [y]))) else Nx H3) := by
  intro D nD
  refine lc_range (lo := 0) (n := m) (fun i H => Same H1 H ∧ ∃ ps, RowsNew H1 D ps i ∧ RowsAt H D ps (fun _ => [])) ⟨same_new nD, [], ⟨rfl, List.nodup_nil, by simp, by simp, nD⟩, ⟨upd_same, fun j p e => by simp at e⟩⟩ ?_ ?_
  · rintro i H hi ⟨s, ps, w, r⟩
    refine hg _ _ _ fun σ2 hw => ⟨hw, ?_⟩
    refine iteT (B := Same H1 H ∧ ∃ ps, RowsNew H1 D ps (i + 1) ∧ RowsAt H D ps (fun _ => [])) ⟨Nat.zero_le _, fun p np => ?_⟩
    have hDp : D ≠ p := ne_of_none r.d np
    have hpp : p ∉ ps := fun z => by
      obtain ⟨j, hj, e⟩ := List.getElem_of_mem z
      have := r.row j p (by rw [List.getElem?_eq_getElem hj, e])
      rw [np] at this
      cases this
    have n1 : H1 p = none := s.free np
    refine ⟨ps.map V.ref, by rw [upd_ne hDp]; exact r.d, by rw [List.length_map, w.len]; omega, (s.store n1).store nD, ps ++ [p], ⟨by simp [w.len], ?_, ?_, ?_, nD⟩, ⟨by rw [upd_same, List.map_append]; rfl, fun j q e => ?_⟩⟩
    · rw [List.nodup_append]
      exact ⟨w.nd, by simp, fun a ha b hb => by rw [List.mem_singleton.mp hb]; exact fun z => hpp (z ▸ ha)⟩
    · intro z
      rcases List.mem_append.mp z with z | z
      · exact w.nD z
      · exact hDp (List.mem_singleton.mp z)
    · intro q hq
      rcases List.mem_append.mp hq with z | z
      · exact w.new q z
      · rw [List.mem_singleton.mp z]
        exact n1
    · by_cases z : j < ps.length
      · rw [List.getElem?_append_left z] at e
        have hq := List.mem_of_getElem? e
        have a1 : q ≠ D := fun y => w.nD (y ▸ hq)
        have a2 : q ≠ p := fun y => hpp (y ▸ hq)
        rw [upd_ne a1, upd_ne a2]
        exact r.row j q e
      · rw [List.getElem?_append_right (by omega)] at e
        have hq : q = p := by
          have := List.mem_of_getElem? e
          exact List.mem_singleton.mp this
        rw [hq, upd_ne (Ne.symm hDp), upd_same]
        rfl
  · rintro H ⟨s, ps, w, r⟩
    exact hQ D ps H w s r
/-! setting many places of a list -/
def setAll (l : List Nat) (ks : List Nat) (a : Nat) : List Nat := ks.foldl (fun l k => l.set (k - 1) a) l
theorem setAll_snoc (l ks : List Nat) (k a : Nat) : setAll l (ks ++ [k]) a = (setAll l ks a).set (k - 1) a := by
  unfold setAll
  rw [List.foldl_append]
  rfl
theorem setAll_len (a : Nat) : ∀ (ks l : List Nat), (setAll l ks a).length = l.length
  | [], l => rfl
  | k :: ks, l => by
    show (setAll (l.set (k - 1) a) ks a).length = _
    rw [setAll_len a ks, List.length_set]
theorem setAll_at (a : Nat) : ∀ (ks l : List Nat) (i : Nat), (∀ k ∈ ks, 1 ≤ k) → i < l.length → (setAll l ks a)[i]? = if i + 1 ∈ ks then some a else l[i]?
  | [], l, i, _, _ => by simp [setAll]
  | k :: ks, l, i, h, hi => by
    show (setAll (l.set (k - 1) a) ks a)[i]? = _
    rw [setAll_at a ks _ i (fun x hx => h x (List.mem_cons_of_mem _ hx)) (by rw [List.length_set]; exact hi)]
    have hk := h k List.mem_cons_self
    by_cases z : i + 1 ∈ ks
    · rw [if_pos z, if_pos (List.mem_cons_of_mem _ z)]
    · rw [if_neg z]
      by_cases e : i + 1 = k
      · rw [if_pos (by rw [e]; exact List.mem_cons_self)]
        have : k - 1 = i := by omega
        rw [this, List.getElem?_set_self hi]
      · rw [if_neg (by simp [e, z]), List.getElem?_set_ne (by omega)]
theorem kn_snoc (R : List Nat) (w b : Nat) : kn (R ++ [w]) b = kn R b ++ if w = b then [R.length + 1] else [] := by
  unfold kn
  rw [List.length_append, List.length_singleton, List.range_succ, List.filter_append, List.map_append]
  congr 1
  · congr 1
    refine List.filter_congr fun i hi => ?_
    rw [List.getElem?_append_left (List.mem_range.mp hi)]
  · have e : (R ++ [w])[R.length]? = some w := by simp
    by_cases z : w = b
    · simp [e, z]
    · simp [e, z]
theorem kn_nil (b : Nat) : kn [] b = [] := rfl
/-! ### check_full_row -/
def FullW (ws : List Int) : Prop := 1 ≤ ws.length ∧ ws.length ≤ 400 ∧ (∀ x ∈ ws, 1 ≤ x ∧ x ≤ (ws.length : Int)) ∧ crowdedL ws.length ws = none
def ChkF (K : PySem.W.Frag) (a : Ad) (w : V) (H : Hp) (E : XK) (R : List Int → Addr → Prop) : Prop :=
  (∃ T, TyB K H w T ∧ T ≠ "list" ∧ T ≠ "tuple" ∧ E (.ref a.e_NoWishes) none H) ∨
  ∃ p xs, w = .ref p ∧ SqA K H p xs ∧ (∀ x ∈ xs, ∃ T, TyB K H x T) ∧ (((¬ ∃ ws : List Int, xs = ws.map V.int ∧ FullW ws) ∧ ∀ H', Same H H' → E (.ref a.e_NoWishes) none H') ∨ ∃ ws : List Int, xs = ws.map V.int ∧ FullW ws ∧ R ws p)
theorem ChkF.imp {K : PySem.W.Frag} {a : Ad} {w : V} {H : Hp} {E : XK} {R R' : List Int → Addr → Prop} (h : ChkF K a w H E R) (k : ∀ ws p, w = .ref p → SqA K H p (ws.map V.int) → FullW ws → R ws p → R' ws p) : ChkF K a w H E R' := by
  rcases h with h | ⟨p, xs, e, hs, ht, h | ⟨ws, ex, f, r⟩⟩
  · exact .inl h
  · exact .inr ⟨p, xs, e, hs, ht, .inl h⟩
  · exact .inr ⟨p, xs, e, hs, ht, .inr ⟨ws, ex, f, k ws p e (ex ▸ hs) f r⟩⟩
theorem ChkF.ok {K : PySem.W.Frag} {a : Ad} {H : Hp} {E : XK} {R : List Int → Addr → Prop} {ws : List Int} {p : Addr} (hs : SqA K H p (ws.map V.int)) (f : FullW ws) (r : R ws p) : ChkF K a (.ref p) H E R :=
  .inr ⟨p, _, rfl, hs, fun x hx => by
    obtain ⟨i, _, rfl⟩ := List.mem_map.mp hx
    exact ⟨_, .int i⟩, .inr ⟨ws, rfl, f, r⟩⟩
def sp_check_full_row (K : PySem.W.Frag) (a : Ad) : Sp := fun vs H Q E => ∃ w, vs = [w] ∧ ChkF K a w H E fun _ _ => ∀ H', Same H H' → Q .non H'
abbrev N_check_full_row : List Str := ["wishes"]
def t_check_full_row (K : PySem.W.Frag) (a : Ad) (E : XK) : TS :=
  (tSeq (tIfS (tOr (tNot (tB (tCall (sp_is_row K a) [] E0 (tCons (tVar 0) tNil)))) (tNot (tTest (tChain rLeI rLeI (tC (.int 1)) (tCB (rLenSq K) (tCons (tVar 0) tNil)) (tC (.int 400)))))) (tRaise a.e_NoWishes E) tNext)
    (tIfS (tNot (tB (tCall (sp_is_good K a) [] E (tCons (tCB (rLenSq K) (tCons (tVar 0) tNil)) (tCons (tVar 0) tNil))))) (tRaise a.e_NoWishes E) tNext))
theorem len_check_full_row {K : PySem.W.Frag} {a : Ad} {vs : List V} {H : Hp} {Q : VK} {E : XK} (h : sp_check_full_row K a vs H Q E) : vs.length = 1 := by
  obtain ⟨w, rfl, _⟩ := h
  rfl
theorem pu_check_full_row {K : PySem.W.Frag} {a : Ad} {vs : List V} {H : Hp} {Q : VK} {E : XK} (h : sp_check_full_row K a vs H Q E) : t_check_full_row K a E { nx := fun _ H' => Q .non H', rt := Q } (start N_check_full_row vs) H := by
  obtain ⟨w, rfl, ⟨T, ty, n1, n2, q⟩ | ⟨p, xs, rfl, hs, ht, r⟩⟩ := h
  · refine ⟨w, rfl, w, T, rfl, ty, _, rfl, ?_⟩
    rw [decide_eq_false n1, decide_eq_false n2]
    exact iteT (iteT q)
  obtain ⟨T, ty, eT⟩ := hs.ty
  refine ⟨.ref p, rfl, .ref p, T, rfl, ty, _, rfl, ?_⟩
  rw [eT]
  refine iteF ?_
  have bad : (¬ ∃ ws : List Int, xs = ws.map V.int ∧ FullW ws) → ∀ H', Same H H' → E (.ref a.e_NoWishes) none H' := by
    rcases r with ⟨_, q⟩ | ⟨ws, ex, f, _⟩
    · exact fun _ => q
    · exact fun z => (z ⟨ws, ex, f⟩).elim
  refine ⟨.ref p, rfl, p, xs, rfl, hs, 1, _, rfl, rfl, _, rfl, ?_⟩
  by_cases h1 : (1 : Int) ≤ (xs.length : Nat)
  case neg =>
    rw [decide_eq_false h1]
    refine iteF ⟨_, rfl, iteT (bad ?_ H (Same.refl H))⟩
    rintro ⟨ws, ex, f, _⟩
    rw [ex, List.length_map] at h1
    omega
  rw [decide_eq_true h1]
  by_cases h2 : ((xs.length : Nat) : Int) ≤ 400
  case neg =>
    refine iteT ⟨_, 400, rfl, rfl, _, rfl, ?_⟩
    rw [decide_eq_false h2]
    refine iteT (bad ?_ H (Same.refl H))
    rintro ⟨ws, ex, f1, f2, _⟩
    rw [ex, List.length_map] at h2
    omega
  refine iteT ⟨_, 400, rfl, rfl, _, rfl, ?_⟩
  rw [decide_eq_true h2]
  refine iteF ⟨.ref p, rfl, p, xs, rfl, hs, .ref p, rfl, _, _, rfl, ?_⟩
  by_cases g : goodW xs.length xs = true
  case neg =>
    have g' : goodW xs.length xs = false := by simpa using g
    refine ⟨_, .int _, .inr ⟨xs.length, rfl, by omega, by omega, .inr ⟨p, xs, rfl, hs, ht, .inl ⟨g', bad ?_ H (Same.refl H)⟩⟩⟩⟩
    rintro ⟨ws, ex, f1, f2, f3, _⟩
    apply g
    rw [ex, goodW_ints, List.length_map]
    exact ⟨f2, f3⟩
  obtain ⟨ws, ex, hl, hb⟩ := goodW_of g
  subst ex
  rw [List.length_map] at hb h1 h2 ⊢
  refine ChkW.ok (by omega) (by omega) hs hl hb fun H' s => ?_
  cases e : crowdedL ws.length ws with
  | none =>
    refine ⟨_, rfl, iteF ?_⟩
    rcases r with ⟨n, _⟩ | ⟨ws', ex, f, q⟩
    · exact (n ⟨ws, rfl, by omega, hl, hb, e⟩).elim
    · exact q H' s
  | some x =>
    refine ⟨_, rfl, iteT (bad ?_ H' s)⟩
    rintro ⟨ws', ex, f1, f2, f3, f4⟩
    have : ws' = ws := by
      have hi : ∀ (l m : List Int), l.map V.int = m.map V.int → l = m := by
        intro l
        induction l with
        | nil => intro m h; cases m <;> simp_all
        | cons y l ih =>
          intro m h
          cases m with
          | nil => cases h
          | cons z m =>
            rw [List.map_cons, List.map_cons] at h
            have h1 := (List.cons.inj h).1
            have h2 := ih m (List.cons.inj h).2
            cases h1
            rw [h2]
      exact (hi _ _ ex).symm
    subst this
    rw [f4] at e
    cases e
/-! ### enumerate of a list or a tuple, turn by turn -/
theorem for_enumS {K : PySem.W.Frag} {a : Addr} {xs : List V} {ta : TA} {g : TG} {tb : TS} {D : Ends} {σ : L2.St} {H0 H : Hp} (ht : ∀ Q : List V → Hp → Prop, Q [.ref a] H → ta σ H Q) (hA : SqA K H0 a xs) (Pv : Nat → L2.St → Hp → Prop) (h0 : Pv 0 σ H) (hl : ∀ i σ H', Pv i σ H' → Same H0 H')
    (hs : ∀ i x T σ H, xs[i]? = some x → Pv i σ H → H T = none → g (.ref T) σ (upd H T (.tup [.int (i : Nat), x])) fun σ2 H2 => tb { D with nx := Pv (i + 1), ct := Pv (i + 1), bk := D.nx } σ2 H2) (hd : ∀ σ H, Pv xs.length σ H → D.nx σ H) : tFor (iEnumS K ta) g tb D σ H := by
  rcases hA with h | h
  · refine .inl (ht _ ⟨a, xs, rfl, (hl _ _ _ h0).seq h, for_it (walk_enum (K := K) (a := a) (xs := xs)) Pv h0 (fun i σ H' _ p => (hl i σ H' p).seq h) ?_ hd⟩)
    rintro i v σ H H' hi p ⟨T, x, y, rfl, nT, rfl, ex, ey⟩
    cases ex
    exact hs i y T σ H ey p nT
  · refine .inr (ht _ ⟨a, xs, rfl, (hl _ _ _ h0).seqT h, for_it (walk_enumT (K := K) (a := a) (xs := xs)) Pv h0 (fun i σ H' _ p => (hl i σ H' p).seqT h) ?_ hd⟩)
    rintro i v σ H H' hi p ⟨T, x, y, rfl, nT, rfl, ex, ey⟩
    cases ex
    exact hs i y T σ H ey p nT
/-! ### tree_of -/
def natL (ws : List Int) : List Nat := ws.map Int.toNat
theorem natL_len (ws : List Int) : (natL ws).length = ws.length := by simp [natL]
def treeB (R : List Nat) (b : Nat) : List Nat := R.map fun w => if w ≤ b then (comes R R.length).getD (w - 1) 0 else 0
theorem treeB_len (R : List Nat) (b : Nat) : (treeB R b).length = R.length := by simp [treeB]
theorem cntLt (R : List Nat) (b : Nat) (h : ∀ w ∈ R, 1 ≤ w) : (comes R b).length = 1 + (R.filter fun w => decide (w ≤ b)).length := by
  induction b with
  | zero =>
    have : R.filter (fun w => decide (w ≤ 0)) = [] := List.filter_eq_nil_iff.mpr fun w hw => by have := h w hw; simp; omega
    rw [this]
    rfl
  | succ b ih =>
    rw [comes_succ, List.length_append, ih]
    have e1 : (kn R (b + 1)).length = (R.filter fun w => decide (w = b + 1)).length := by
      clear ih h
      refine snoc_ind (p := fun R : List Nat => (kn R (b + 1)).length = (R.filter fun w => decide (w = b + 1)).length) rfl (fun l x ih => ?_) R
      rw [kn_snoc, List.length_append, ih, List.filter_append, List.length_append]
      congr 1
      by_cases z : x = b + 1
      · simp [z]
      · simp [z]
    have e2 : ∀ l : List Nat, (l.filter fun w => decide (w ≤ b + 1)).length = (l.filter fun w => decide (w ≤ b)).length + (l.filter fun w => decide (w = b + 1)).length := by
      intro l
      induction l with
      | nil => rfl
      | cons x l il =>
        simp only [List.filter_cons]
        by_cases z1 : x ≤ b
        · have z2 : x ≤ b + 1 := by omega
          have z3 : ¬ x = b + 1 := by omega
          simp [z1, z2, z3, il]
          omega
        · by_cases z3 : x = b + 1
          · have z2 : x ≤ b + 1 := by omega
            have z4 : ¬ b + 1 ≤ b := by omega
            simp [z3, z4, il]
            omega
          · have z2 : ¬ x ≤ b + 1 := by omega
            simp [z1, z2, z3, il]
    rw [e1, e2]
    omega
theorem cnt_nat {ws : List Int} (h : ∀ w ∈ ws, 0 ≤ w) (b : Nat) : ((natL ws).filter fun w => decide (w ≤ b)).length + cntGe ws ((b : Int) + 1) = ws.length := by
  induction ws with
  | nil => rfl
  | cons x l ih =>
    have hx := h x List.mem_cons_self
    have ih := ih fun w hw => h w (List.mem_cons_of_mem _ hw)
    unfold natL cntGe at ih ⊢
    rw [List.map_cons, List.filter_cons, List.filter_cons]
    by_cases z : x.toNat ≤ b
    · have z2 : ¬ (b : Int) + 1 ≤ x := by omega
      simp only [z, z2, decide_true, decide_false, if_true, List.length_cons, Bool.false_eq_true, if_false]
      omega
    · have z2 : (b : Int) + 1 ≤ x := by omega
      simp only [z, z2, decide_true, decide_false, if_true, List.length_cons, Bool.false_eq_true, if_false]
      omega
theorem full_of {ws : List Int} (f : FullW ws) : FullR (natL ws) := by
  obtain ⟨h1, h2, h3, h4⟩ := f
  have h0 : ∀ w ∈ ws, 0 ≤ w := fun w hw => by have := h3 w hw; omega
  refine ⟨fun w hw => ?_, fun b hb => ?_⟩
  · obtain ⟨x, hx, rfl⟩ := List.mem_map.mp hw
    have := h3 x hx
    rw [natL_len]
    omega
  · rw [natL_len] at hb
    rw [cntLt _ _ (fun w hw => by
      obtain ⟨x, hx, rfl⟩ := List.mem_map.mp hw
      have := h3 x hx
      omega)]
    have e := cnt_nat h0 b
    have g := crowded_none.mp h4
    by_cases z : b = ws.length
    · have : cntGe ws ((b : Int) + 1) = 0 := by
        rw [z]
        exact cntGe_top h3
      omega
    · have := g ((b : Int) + 1) (by omega) (by omega)
      omega
theorem full_to {R : List Nat} (f : FullR R) (h1 : 1 ≤ R.length) (h2 : R.length ≤ 400) : FullW (R.map fun (r : Nat) => (r : Int)) := by
  have e : natL (R.map fun (r : Nat) => (r : Int)) = R := by
    unfold natL
    rw [List.map_map]
    have : (Int.toNat ∘ fun (r : Nat) => (r : Int)) = id := by
      funext r
      show ((r : Int)).toNat = r
      omega
    rw [this, List.map_id]
  have hb : ∀ x ∈ R.map fun (r : Nat) => (r : Int), 1 ≤ x ∧ x ≤ (R.length : Int) := fun x hx => by
    obtain ⟨r, hr, rfl⟩ := List.mem_map.mp hx
    have := f.1 r hr
    omega
  refine ⟨by rw [List.length_map]; exact h1, by rw [List.length_map]; exact h2, by rw [List.length_map]; exact hb, ?_⟩
  rw [List.length_map]
  refine crowded_none.mpr fun b b1 b2 => ?_
  have c := cnt_nat (ws := R.map fun (r : Nat) => (r : Int)) (fun w hw => by have := hb w hw; omega) (b - 1).toNat
  rw [e, List.length_map] at c
  have c2 := cntLt R (b - 1).toNat (fun w hw => (f.1 w hw).1)
  have c3 := f.2 (b - 1).toNat (by omega)
  have eb : (((b - 1).toNat : Nat) : Int) + 1 = b := by omega
  rw [eb] at c
  omega
theorem setAll_tree {R : List Nat} {b a : Nat} (ha : (comes R R.length)[b]? = some a) : setAll (treeB R b) (kn R (b + 1)) a = treeB R (b + 1) := by
  apply List.ext_getElem?
  intro i
  by_cases hi : i < R.length
  · rw [setAll_at _ _ _ _ (fun k hk => (mem_kn.mp hk).1) (by rw [treeB_len]; exact hi)]
    have e : R[i]? = some R[i] := List.getElem?_eq_getElem hi
    unfold treeB
    rw [List.getElem?_map, List.getElem?_map, e]
    by_cases z : i + 1 ∈ kn R (b + 1)
    · have := (mem_kn.mp z).2
      rw [Nat.add_sub_cancel, e] at this
      have hw := Option.some.inj this
      rw [if_pos z]
      simp only [Option.map_some, hw, Nat.le_refl, if_true, Nat.add_sub_cancel]
      rw [List.getD_eq_getElem?_getD, ha]
      rfl
    · have hw : R[i] ≠ b + 1 := fun y => z (mem_kn.mpr ⟨by omega, by rw [Nat.add_sub_cancel, e, y]⟩)
      rw [if_neg z]
      simp only [Option.map_some]
      by_cases y : R[i] ≤ b
      · rw [if_pos y, if_pos (by omega)]
      · rw [if_neg y, if_neg (by omega)]
  · rw [List.getElem?_eq_none (by rw [setAll_len, treeB_len]; omega), List.getElem?_eq_none (by rw [treeB_len]; omega)]
theorem treeB_end {R : List Nat} (h : ∀ w ∈ R, w ≤ R.length) : treeB R R.length = treeL R := List.map_congr_left fun w hw => if_pos (h w hw)
theorem treeB_zero {R : List Nat} (h : ∀ w ∈ R, 1 ≤ w) : treeB R 0 = List.replicate R.length 0 := by
  unfold treeB
  apply List.ext_getElem?
  intro i
  rw [List.getElem?_map]
  by_cases hi : i < R.length
  · rw [List.getElem?_eq_getElem hi, List.getElem?_replicate_of_lt hi]
    have := h _ (List.getElem_mem hi)
    simp only [Option.map_some]
    rw [if_neg (by omega)]
  · rw [List.getElem?_eq_none (by omega), List.getElem?_eq_none (by simp; omega)]
    rfl

def intL (R : List Nat) : List Int := R.map fun (r : Nat) => (r : Int)
theorem intL_V (R : List Nat) : (intL R).map V.int = vN R := by
  unfold intL vN
  rw [List.map_map]
  rfl
theorem intL_len (R : List Nat) : (intL R).length = R.length := by simp [intL]
theorem natL_intL (R : List Nat) : natL (intL R) = R := by
  unfold natL intL
  rw [List.map_map]
  have : (Int.toNat ∘ fun (r : Nat) => (r : Int)) = id := by
    funext r
    show ((r : Int)).toNat = r
    omega
  rw [this, List.map_id]
theorem vN_inj {R S : List Nat} (h : vN R = vN S) : R = S := by
  have h2 : ∀ l m : List Nat, vN l = vN m → l = m := by
    intro l
    induction l with
    | nil => intro m h; cases m with | nil => rfl | cons _ _ => cases h
    | cons x l ih =>
      intro m h
      cases m with
      | nil => cases h
      | cons y m =>
        obtain ⟨h1, h2⟩ := List.cons.inj h
        have h1 := V.int.inj h1
        rw [ih m h2, show x = y by omega]
  exact h2 R S h
theorem dp_tupN {K : PySem.W.Frag} {H : Hp} {p : Addr} {T : List Nat} (h : SqT K H p (vN T)) : Dp K H (.ref p) (PySem.W.Datum.toD (PySem.W.Tup.mk (intL T))) := by
  refine .tup h ?_
  rw [← intL_V]
  exact dp_ints _
theorem cut_take1 (xs : List V) (k : Nat) : cutV xs none (some (k : Int)) = xs.take k := by
  unfold cutV
  rw [HT.sIx_nat, HT.sIx_none, List.drop_zero, Nat.sub_zero]
  by_cases h : k ≤ xs.length
  · rw [Nat.min_eq_left h]
  · rw [Nat.min_eq_right (by omega), List.take_of_length_le (Nat.le_refl _), List.take_of_length_le (by omega)]
theorem ty_vN {K : PySem.W.Frag} {H : Hp} {T : List Nat} : ∀ x ∈ vN T, ∃ Ty, TyB K H x Ty := fun x hx => by
  obtain ⟨k, _, rfl⟩ := List.mem_map.mp hx
  exact ⟨_, .int _⟩

/-! ### any order of the same ships -/
theorem ffree_is {n : Nat} {occ : Int → Bool} {w b : Int} (h1 : w ≤ b) (h2 : b ≤ n) (h3 : occ b = false) (h4 : ∀ x, w ≤ x → x < b → occ x = true) : ffree n occ w = some b := by
  cases e : ffree n occ w with
  | none =>
    rw [ffree_none e b h1 h2] at h3
    cases h3
  | some c =>
    obtain ⟨c1, c2, c3, c4⟩ := ffree_some e
    congr 1
    by_cases z : c < b
    · rw [h4 c c1 z] at c3
      cases c3
    · by_cases z2 : b < c
      · rw [c4 b h1 z2] at h3
        cases h3
      · omega
theorem ffree_non {n : Nat} {occ : Int → Bool} {w : Int} (h : ∀ x, w ≤ x → x ≤ n → occ x = true) : ffree n occ w = none := by
  cases e : ffree n occ w with
  | none => rfl
  | some c =>
    obtain ⟨c1, c2, c3, c4⟩ := ffree_some e
    rw [h c c1 c2] at c3
    cases c3
def stp (n : Nat) (occ : Int → Bool) (w : Int) : Int → Bool := match ffree n occ w with
  | none => occ
  | some b => setO occ b
theorem stp_none {n : Nat} {occ : Int → Bool} {w : Int} (h : ffree n occ w = none) : stp n occ w = occ := by simp only [stp, h]
theorem stp_some {n : Nat} {occ : Int → Bool} {w b : Int} (h : ffree n occ w = some b) : stp n occ w = setO occ b := by simp only [stp, h]
theorem setO_comm (occ : Int → Bool) (x y : Int) : setO (setO occ x) y = setO (setO occ y) x := by
  funext z
  unfold setO
  cases decide (z = x) <;> cases decide (z = y) <;> rfl
theorem setO_mono {occ : Int → Bool} {x y : Int} (h : occ y = true) : setO occ x y = true := by
  unfold setO
  rw [h, Bool.or_true]
theorem setO_ne {occ : Int → Bool} {x y : Int} (h : y ≠ x) : setO occ x y = occ y := by
  unfold setO
  rw [decide_eq_false h, Bool.false_or]
theorem setO_self {occ : Int → Bool} {x : Int} : setO occ x x = true := by simp [setO]
theorem stp_comm_le {n : Nat} {occ : Int → Bool} {w1 w2 : Int} (h : w1 ≤ w2) : stp n (stp n occ w1) w2 = stp n (stp n occ w2) w1 := by
  cases eb : ffree n occ w2 with
  | none =>
    have fb := ffree_none eb
    rw [stp_none eb]
    cases ea : ffree n occ w1 with
    | none => rw [stp_none ea, stp_none eb]
    | some x =>
      rw [stp_some ea]
      exact stp_none (ffree_non fun y h1 h2 => setO_mono (fb y h1 h2))
  | some y =>
    obtain ⟨y1, y2, y3, y4⟩ := ffree_some eb
    rw [stp_some eb]
    cases ea : ffree n occ w1 with
    | none =>
      rw [ffree_none ea y (by omega) y2] at y3
      cases y3
    | some x =>
      obtain ⟨x1, x2, x3, x4⟩ := ffree_some ea
      rw [stp_some ea]
      by_cases z : x = y
      · subst z
        have hocc : ∀ u, w1 ≤ u → u ≤ x → setO occ x u = true := fun u h1 h2 => by
          by_cases q : u = x
          · rw [q]; exact setO_self
          · exact setO_mono (x4 u h1 (by omega))
        cases ec : ffree n (setO occ x) w2 with
        | none =>
          have fc := ffree_none ec
          rw [stp_none ec]
          refine (stp_none (ffree_non fun u h1 h2 => ?_)).symm
          by_cases q : u ≤ x
          · exact hocc u h1 q
          · exact fc u (by omega) h2
        | some z =>
          obtain ⟨z1, z2, z3, z4⟩ := ffree_some ec
          have hz : x < z := by
            by_cases q : x < z
            · exact q
            · rw [hocc z (by omega) (by omega)] at z3
              cases z3
          rw [stp_some ec]
          refine (stp_some (ffree_is (by omega) z2 z3 fun u h1 h2 => ?_)).symm
          by_cases q : u ≤ x
          · exact hocc u h1 q
          · exact z4 u (by omega) h2
      · have hx : x < y := by
          by_cases q : x < y
          · exact q
          · rw [x4 y (by omega) (by omega)] at y3
            cases y3
        have e1 : stp n (setO occ x) w2 = setO (setO occ x) y := stp_some (ffree_is y1 y2 (by rw [setO_ne (Ne.symm z)]; exact y3) fun u h1 h2 => setO_mono (y4 u h1 h2))
        have e2 : stp n (setO occ y) w1 = setO (setO occ y) x := stp_some (ffree_is x1 x2 (by rw [setO_ne z]; exact x3) fun u h1 h2 => setO_mono (x4 u h1 h2))
        rw [e1, e2, setO_comm]
theorem stp_comm {n : Nat} {occ : Int → Bool} {w1 w2 : Int} : stp n (stp n occ w1) w2 = stp n (stp n occ w2) w1 := by
  by_cases h : w1 ≤ w2
  · exact stp_comm_le h
  · exact (stp_comm_le (by omega)).symm
theorem occ_fold {n : Nat} : ∀ ws : List Int, (prun n ws).1 = ws.foldl (stp n) (fun _ => false) := snoc_ind rfl fun ws w ih => by
  rw [occ_snoc, List.foldl_append, ← ih]
  rfl
theorem occ_perm {n : Nat} {ws ws' : List Int} (h : ws.Perm ws') : (prun n ws).1 = (prun n ws').1 := by
  rw [occ_fold, occ_fold]
  exact h.foldl_eq' (fun x _ y _ z => stp_comm) _
theorem somes_perm {n : Nat} {ws ws' : List Int} (h : ws.Perm ws') (hb : ∀ w ∈ ws, 1 ≤ w ∧ w ≤ n) : (somes (placedL n ws)).Perm (somes (placedL n ws')) := by
  have L := lay n ws hb
  have L' := lay n ws' fun w hw => hb w (h.mem_iff.mpr hw)
  refine (List.perm_ext_iff_of_nodup L.nd L'.nd).mpr fun x => ?_
  rw [← L.occ, ← L'.occ, occ_perm h]
theorem sortI_perm_eq {l l' : List Int} (h : l.Perm l') : sortI l = sortI l' := sortI_uniq ((sortI_perm l).trans h) (sortI_sorted l)
theorem taken_perm {n : Nat} {ws ws' : List Int} (h : ws.Perm ws') (hb : ∀ w ∈ ws, 1 ≤ w ∧ w ≤ n) : takenL n ws = takenL n ws' := sortI_perm_eq (somes_perm h hb)
theorem crowded_perm {n : Nat} {ws ws' : List Int} (h : ws.Perm ws') : crowdedL n ws = crowdedL n ws' := by
  unfold crowdedL
  congr 1
  funext b
  rw [cntGe_perm h]
theorem away_len : ∀ os : List (Option Int), (os.filter Option.isNone).length + (somes os).length = os.length
  | [] => rfl
  | none :: os => by
    have := away_len os
    simp only [List.filter_cons, Option.isNone_none, if_true, List.length_cons]
    show (os.filter Option.isNone).length + 1 + (somes os).length = os.length + 1
    omega
  | some b :: os => by
    have := away_len os
    show (os.filter Option.isNone).length + ((somes os).length + 1) = os.length + 1
    omega
theorem sum_perm {l l' : List Int} (h : l.Perm l') : l.sum = l'.sum := by
  induction h with
  | nil => rfl
  | cons x _ ih => rw [List.sum_cons, List.sum_cons, ih]
  | swap x y l =>
    simp only [List.sum_cons]
    omega
  | trans _ _ h1 h2 => exact h1.trans h2
/-- the wishes of those that lie -/
def lieL (ws : List Int) (os : List (Option Int)) : List Int := ((ws.zip os).filter fun p => p.2.isSome).map (·.1)
theorem lieL_snoc {ws : List Int} {os : List (Option Int)} {w : Int} {o : Option Int} (h : ws.length = os.length) : lieL (ws ++ [w]) (os ++ [o]) = lieL ws os ++ (if o.isSome = true then [w] else []) := by
  unfold lieL
  rw [List.zip_append h, List.filter_append, List.map_append]
  cases o <;> rfl
theorem gone_sum : ∀ (ws : List Int) (os : List (Option Int)), ws.length = os.length → (goneL ws os).sum = (somes os).sum - (lieL ws os).sum
  | [], [], _ => rfl
  | w :: ws, none :: os, h => gone_sum ws os (Nat.succ.inj h)
  | w :: ws, some b :: os, h => by
    have ih := gone_sum ws os (Nat.succ.inj h)
    show ((b - w) :: goneL ws os).sum = (b :: somes os).sum - (w :: lieL ws os).sum
    rw [List.sum_cons, List.sum_cons, List.sum_cons, ih]
    omega
theorem lie_all : ∀ (ws : List Int) (os : List (Option Int)), ws.length = os.length → none ∉ os → lieL ws os = ws
  | [], [], _, _ => rfl
  | w :: ws, none :: os, _, h => absurd List.mem_cons_self h
  | w :: ws, some b :: os, h, hn => by
    have ih := lie_all ws os (Nat.succ.inj h) fun z => hn (List.mem_cons_of_mem _ z)
    show w :: lieL ws os = w :: ws
    rw [ih]
theorem lie_run {n : Nat} : ∀ ws : List Int, prun n (lieL ws (placedL n ws)) = ((prun n ws).1, (placedL n ws).filter Option.isSome) := snoc_ind rfl fun ws w ih => by
  rw [placedL_snoc, lieL_snoc (placedL_len).symm, List.filter_append, occ_snoc]
  cases e : ffree n (prun n ws).1 w with
  | none =>
    simp only [Option.isSome_none, Bool.false_eq_true, if_false, List.append_nil]
    rw [ih]
    simp [List.filter]
  | some b =>
    simp only [Option.isSome_some, if_true]
    rw [prun_snoc, ih]
    unfold pstep
    simp only [e]
    simp [List.filter]
theorem lie_placed {n : Nat} {ws : List Int} : placedL n (lieL ws (placedL n ws)) = (placedL n ws).filter Option.isSome := by
  have := lie_run (n := n) ws
  unfold placedL at this ⊢
  rw [this]
theorem somes_filter (os : List (Option Int)) : somes (os.filter Option.isSome) = somes os := by
  induction os with
  | nil => rfl
  | cons o os ih => cases o with
    | none => exact ih
    | some b => exact congrArg (b :: ·) ih
theorem none_filter_some {os : List (Option Int)} : none ∉ os.filter Option.isSome := fun z => by
  have := (List.mem_filter.mp z).2
  cases this
theorem mem_lie {ws : List Int} {os : List (Option Int)} {x : Int} (h : x ∈ lieL ws os) : x ∈ ws := by
  unfold lieL at h
  obtain ⟨p, hp, rfl⟩ := List.mem_map.mp h
  exact (List.of_mem_zip (List.mem_filter.mp hp).1).1
theorem lie_len (ws : List Int) (os : List (Option Int)) : (lieL ws os).length ≤ ws.length := by
  unfold lieL
  rw [List.length_map]
  refine Nat.le_trans (List.length_filter_le _ _) ?_
  rw [List.length_zip]
  omega
/-- a ship more takes one berth more, or none -/
theorem taken_mem {n : Nat} {ws : List Int} {x : Int} : x ∈ takenL n ws ↔ x ∈ somes (placedL n ws) := (sortI_perm _).mem_iff
theorem somes_last {n : Nat} {ws : List Int} (hne : ws ≠ []) : ∃ o : Option Int, somes (placedL n ws) = somes (placedL n ws.dropLast) ++ o.toList := by
  refine ⟨ffree n (prun n ws.dropLast).1 (ws.getLast hne), ?_⟩
  rw [← somes_snoc, ← placedL_snoc, List.dropLast_concat_getLast hne]

/-! ### mixed numbers, an order of so many -/
def sp_l_mix (K : PySem.W.Frag) : Sp := fun vs H Q _ => ∃ (p : Addr) (st c : Int), vs = [.ref p, .int c] ∧ H p = some (.lst [.int st]) ∧ 0 ≤ st ∧ st < 2147483647 ∧ ∀ st' r : Int, 0 ≤ st' → st' < 2147483647 → 0 ≤ r → r < 2147483647 → Q (.int r) (upd H p (.lst [.int st']))
abbrev N_l_mix : List Str := ["_law_state", "_law_cell"]
def t_l_mix (K : PySem.W.Frag) (a : Ad) : TS :=
  (tSeq (tAsg (tOp rModI (tOp rAddI (tOp rAddI (tOp rMulI (tOp (rIxL K) (tVar 0) (tC (.int 0))) (tC (.int 48271))) (tOp rMulI (tVar 1) (tC (.int 16807)))) (tC (.int 11))) (tC (.int 2147483647))) (gSub (tVar 0) (tC (.int 0)) rSetL))
    (tRet (tOp rDivI (tOp rModI (tOp rMulI (tOp (rIxL K) (tVar 0) (tC (.int 0))) (tOp (rIxL K) (tVar 0) (tC (.int 0)))) (tC (.int 2147483647))) (tC (.int 5)))))
theorem len_l_mix {K : PySem.W.Frag} {vs : List V} {H : Hp} {Q : VK} {E : XK} (h : sp_l_mix K vs H Q E) : vs.length = 2 := by
  obtain ⟨p, st, c, rfl, _⟩ := h
  rfl
theorem d5 {n : Int} : CDiv n 5 := ⟨by decide, by decide⟩
theorem pmix : (0 : Int) < 2147483647 := by decide
theorem pu_l_mix {K : PySem.W.Frag} {a : Ad} {vs : List V} {H : Hp} {Q : VK} {E : XK} (h : sp_l_mix K vs H Q E) : t_l_mix K a { nx := fun _ H' => Q .non H', rt := Q } (start N_l_mix vs) H := by
  obtain ⟨p, st, c, rfl, hp, h0, h1, q⟩ := h
  refine ⟨.ref p, rfl, p, _, 0, .int st, rfl, rfl, sqL_of hp, atI_nat (j := 0) rfl, st, 48271, rfl, rfl, .inr ⟨by decide, by decide⟩, .int c, rfl, c, 16807, rfl, rfl, .inr ⟨by decide, by decide⟩, _, _, rfl, rfl, _, 11, rfl, rfl, _, 2147483647, rfl, rfl, pmix, .ref p, rfl, p, _, 0, 0, rfl, rfl, hp, rfl, ?_⟩
  have b1 := Int.emod_nonneg (st * 48271 + c * 16807 + 11) (show (2147483647 : Int) ≠ 0 by decide)
  have b2 := Int.emod_lt_of_pos (st * 48271 + c * 16807 + 11) pmix
  refine ⟨.ref p, rfl, p, _, 0, .int ((st * 48271 + c * 16807 + 11) % 2147483647), rfl, rfl, sqL_of upd_same, atI_nat (j := 0) rfl, .ref p, rfl, p, _, 0, .int ((st * 48271 + c * 16807 + 11) % 2147483647), rfl, rfl, sqL_of upd_same, atI_nat (j := 0) rfl, _, _, rfl, rfl, .inl ⟨by omega, by omega⟩, _, 2147483647, rfl, rfl, pmix, _, 5, rfl, rfl, d5, ?_⟩
  have c1 := Int.emod_nonneg (((st * 48271 + c * 16807 + 11) % 2147483647) * ((st * 48271 + c * 16807 + 11) % 2147483647)) (show (2147483647 : Int) ≠ 0 by decide)
  have c2 := Int.emod_lt_of_pos (((st * 48271 + c * 16807 + 11) % 2147483647) * ((st * 48271 + c * 16807 + 11) % 2147483647)) pmix
  generalize (((st * 48271 + c * 16807 + 11) % 2147483647) * ((st * 48271 + c * 16807 + 11) % 2147483647)) % 2147483647 = u at c1 c2
  exact q _ _ b1 b2 (by omega) (by omega)
def sp_l_order (K : PySem.W.Frag) : Sp := fun vs H Q _ => ∃ (s : Addr) (ns : List Int) (m : Nat) (first : Int), vs = [.ref s, .int m, .int first] ∧ SqL K H s (ns.map V.int) ∧ m ≤ 400 ∧ 0 ≤ first ∧
  ∀ (l : Addr) (H' : Hp) (os : List Int), H l = none → Same H H' → H' l = some (.lst (os.map V.int)) → os.Perm (upTo 0 m) → Q (.ref l) H'
abbrev N_l_order : List Str := ["_law_script", "_law_many", "_law_first", "_law_state", "_law_some", "_law_order_here", "_law_turn"]
def t_l_order (K : PySem.W.Frag) (a : Ad) : TS :=
  (tSeq (tAsg (tLst (tCons (tOp rAddI (tC (.int 1)) (tOp rModI (tCall (sp_l_cell_at K) [] E0 (tCons (tVar 0) (tCons (tVar 2) tNil))) (tC (.int 2147483646)))) tNil)) (gName 3))
    (tSeq (tAsg (tLstRg (tRg1 (tVar 1))) (gName 4))
    (tSeq (tAsg (tLst tNil) (gName 5))
    (tSeq (tFor (iRng1 (tCons (tVar 1) tNil)) (gName 6)
    (tDrop (tBM K "list" rAppend (tVar 5) (tCons (tBM K "list" rPopAt (tVar 4) (tCons (tOp rModI (tCall (sp_l_mix K) [] E0 (tCons (tVar 3) (tCons (tCall (sp_l_cell_at K) [] E0 (tCons (tVar 0) (tCons (tOp rAddI (tOp rAddI (tVar 2) (tC (.int 1))) (tOp rModI (tVar 6) (tC (.int 3)))) tNil))) tNil))) (tCB (rLenSq K) (tCons (tVar 4) tNil))) tNil)) tNil))))
    (tRet (tVar 5))))))
theorem len_l_order {K : PySem.W.Frag} {vs : List V} {H : Hp} {Q : VK} {E : XK} (h : sp_l_order K vs H Q E) : vs.length = 3 := by
  obtain ⟨s, ns, m, first, rfl, _⟩ := h
  rfl
theorem rg_upTo {m : Nat} : rgV 0 (m : Int) = (upTo 0 m).map V.int := by
  unfold rgV upTo
  rw [List.map_map]
  have e : ((m : Int) - 0).toNat = m := by omega
  rw [e]
  rfl
theorem pop_perm {l : List Int} {k : Nat} {y : Int} (h : l[k]? = some y) : (y :: l.eraseIdx k).Perm l := by
  induction l generalizing k with
  | nil => simp at h
  | cons x r ih =>
    cases k with
    | zero =>
      cases h
      exact List.Perm.refl _
    | succ k => exact (List.Perm.swap x y _).trans ((ih (k := k) (by simpa using h)).cons x)
theorem pu_l_order {K : PySem.W.Frag} {a : Ad} {vs : List V} {H : Hp} {Q : VK} {E : XK} (h : sp_l_order K vs H Q E) : t_l_order K a { nx := fun _ H' => Q .non H', rt := Q } (start N_l_order vs) H := by
  obtain ⟨s, ns, m, first, rfl, hs, hm, hf, q⟩ := h
  refine ⟨.ref s, rfl, .int first, rfl, s, ns, first, rfl, hs, hf, _, 2147483646, rfl, rfl, (by show (0 : Int) < 2147483646; decide), 1, _, rfl, rfl, l1000 (by show 1 ≤ 1000; decide), fun ls nls => ?_⟩
  have b1 := Int.emod_nonneg (cellAt ns first) (show (2147483646 : Int) ≠ 0 by decide)
  have b2 := Int.emod_lt_of_pos (cellAt ns first) (show (0 : Int) < 2147483646 by decide)
  have s1 := same_new nls (o := .lst [.int (1 + cellAt ns first % 2147483646)])
  refine ⟨.int m, rfl, m, rfl, ⟨by omega, by omega, by omega, by omega, by omega⟩, fun lr nlr => ?_⟩
  have nlrH : H lr = none := s1.free nlr
  have s2 := s1.store nlrH (o := .lst (rgV 0 m))
  have n12 : ls ≠ lr := ne_of_none upd_same nlr
  refine ⟨Nat.zero_le _, fun lo nlo => ?_⟩
  have nloH : H lo = none := s2.free nlo
  have s3 := s2.store nloH (o := .lst [])
  have n23 : lr ≠ lo := ne_of_none upd_same nlo
  have n13 : ls ≠ lo := ne_of_none (by rw [upd_ne n12]; exact upd_same) nlo
  refine ⟨.int m, rfl, m, rfl, by omega, by omega, ?_⟩
  have em : ((m : Nat) : Int).toNat = m := by omega
  rw [em]
  refine for_range (fun i σ H' => ∃ (st : Int) (rest os : List Int) (y : Option V), σ = [some (.ref s), some (.int m), some (.int first), some (.ref ls), some (.ref lr), some (.ref lo), y] ∧ Same H H' ∧ H' ls = some (.lst [.int st]) ∧ 0 ≤ st ∧ st < 2147483647 ∧
    H' lr = some (.lst (rest.map V.int)) ∧ H' lo = some (.lst (os.map V.int)) ∧ (os ++ rest).Perm (upTo 0 m) ∧ os.length = i) ⟨_, upTo 0 m, [], none, rfl, s3, by rw [upd_ne n13, upd_ne n12]; exact upd_same, by omega, by omega, by rw [upd_ne n23, upd_same, rg_upTo], upd_same, List.Perm.refl _, rfl⟩ ?_ ?_
  · rintro i σ H' hi ⟨st, rest, os, y, rfl, sH, es, h0, h1, er, eo, hp, hl⟩
    have hlen := hp.length_eq
    rw [upTo_len, List.length_append, hl] at hlen
    have e0 : (0 : Int) + i = i := by omega
    rw [e0]
    refine ⟨.ref lo, rfl, .inl ⟨rfl, _, sqL_of eo⟩, .ref lr, rfl, .inl ⟨rfl, _, sqL_of er⟩, .ref ls, rfl, .ref s, rfl, .int first, rfl, first, 1, rfl, rfl, .int i, rfl, i, 3, rfl, rfl, p3, _, _, rfl, rfl, s, ns, _, rfl, sH.seq hs, (by show (0 : Int) ≤ first + 1 + (i : Int) % 3; omega), ls, st, _, rfl, es, h0, h1, fun st' r g0 g1 r0 r1 => ?_⟩
    have nlsH : H ls = none := nls
    have s4 := sH.store nlsH (o := .lst [.int st'])
    have er4 : (upd H' ls (.lst [.int st'])) lr = some (.lst (rest.map V.int)) := by rw [upd_ne n12.symm]; exact er
    have eo4 : (upd H' ls (.lst [.int st'])) lo = some (.lst (os.map V.int)) := by rw [upd_ne n13.symm]; exact eo
    have rl : (0 : Int) < ((rest.map V.int).length : Nat) := by rw [List.length_map]; omega
    refine ⟨.ref lr, rfl, lr, _, rfl, .inl (sqL_of er4), r, _, rfl, rfl, rl, ?_⟩
    have b1 := Int.emod_nonneg r (show (((rest.map V.int).length : Nat) : Int) ≠ 0 by omega)
    have b2 := Int.emod_lt_of_pos r rl
    generalize hj : r % (((rest.map V.int).length : Nat) : Int) = j at b1 b2
    have hjl : j.toNat < rest.length := by rw [List.length_map] at b2; omega
    have ey : rest[j.toNat]? = some rest[j.toNat] := List.getElem?_eq_getElem hjl
    have ey2 : (rest.map V.int)[j.toNat]? = some (.int rest[j.toNat]) := by rw [List.getElem?_map, ey]; rfl
    show rPopAt _ [.int (r % (((rest.map V.int).length : Nat) : Int))] _ _
    rw [hj]
    refine ⟨lr, _, j, j.toNat, _, rfl, rfl, er4, by omega, by rw [List.length_map] at b2; omega, ?_, ey2, ?_⟩
    · rw [seqIndex_of b1 b2]
    have pe := pop_perm ey
    have eo5 : (upd (upd H' ls (.lst [.int st'])) lr (.lst ((rest.map V.int).eraseIdx j.toNat))) lo = some (.lst (os.map V.int)) := by rw [upd_ne n23.symm]; exact eo4
    refine ⟨lo, _, _, rfl, rfl, eo5, by rw [List.length_map, hl]; exact small1000 (by omega), ?_⟩
    refine ⟨st', rest.eraseIdx j.toNat, os ++ [rest[j.toNat]], _, rfl, (s4.store nlrH).store nloH, ?_, g0, g1, ?_, ?_, ?_, ?_⟩
    · rw [upd_ne n13, upd_ne n12]
      exact upd_same
    · rw [upd_ne n23, upd_same]
      rw [L2.map_eraseIdx']
    · rw [upd_same, List.map_append]
      rfl
    · refine List.Perm.trans ?_ hp
      rw [List.append_assoc]
      exact List.Perm.append_left os pe
    · rw [List.length_append, hl]
      rfl
  · rintro σ H' ⟨st, rest, os, y, rfl, sH, es, h0, h1, er, eo, hp, hl⟩
    have hlen := hp.length_eq
    rw [upTo_len, List.length_append, hl] at hlen
    have er0 : rest = [] := List.length_eq_zero_iff.mp (by omega)
    subst er0
    rw [List.append_nil] at hp
    exact ⟨.ref lo, rfl, q lo H' os nloH sH eo hp⟩

/-! ### orders: the mathematics -/
def OrdL (O : List Nat) : Prop := 1 ≤ O.length ∧ O.length ≤ 400 ∧ (∀ x ∈ O, x < O.length) ∧ O.Nodup
def lowP (O : List Nat) (s : Nat) : Nat → Nat
  | 0 => 0
  | p + 1 => if O.getD p 0 < s then lowP O s p else p + 1
theorem lowP_le (O : List Nat) (s : Nat) : ∀ p, lowP O s p ≤ p
  | 0 => Nat.le_refl _
  | p + 1 => by
    unfold lowP
    have := lowP_le O s p
    split <;> omega
theorem lowP_in {O : List Nat} {s : Nat} : ∀ p x, lowP O s p ≤ x → x < p → O.getD x 0 < s
  | 0, x, _, h => by omega
  | p + 1, x, h1, h2 => by
    unfold lowP at h1
    by_cases z : O.getD p 0 < s
    · rw [if_pos z] at h1
      by_cases y : x = p
      · rw [y]
        exact z
      · exact lowP_in p x h1 (by omega)
    · rw [if_neg z] at h1
      omega
theorem lowP_stop {O : List Nat} {s : Nat} : ∀ p, lowP O s p = 0 ∨ ¬ O.getD (lowP O s p - 1) 0 < s
  | 0 => .inl rfl
  | p + 1 => by
    unfold lowP
    by_cases z : O.getD p 0 < s
    · rw [if_pos z]
      exact lowP_stop p
    · rw [if_neg z]
      exact .inr z
def hiN (O : List Nat) (s : Nat) : Nat := O.idxOf s + 1
def loN (O : List Nat) (s : Nat) : Nat := lowP O s (O.idxOf s) + 1
theorem ord_mem {O : List Nat} (h : OrdL O) {s : Nat} (hs : s < O.length) : s ∈ O := by
  by_cases z : s ∈ O
  · exact z
  · exfalso
    have := nsub_len (l1 := s :: O) (l2 := List.range O.length) (List.nodup_cons.mpr ⟨z, h.2.2.2⟩) fun x hx => List.mem_range.mpr (by
      rcases List.mem_cons.mp hx with hx | hx
      · omega
      · exact h.2.2.1 x hx)
    rw [List.length_range, List.length_cons] at this
    omega
theorem hi_at {O : List Nat} (h : OrdL O) {s : Nat} (hs : s < O.length) : O[hiN O s - 1]? = some s := at_idx (ord_mem h hs)
theorem hi_bd {O : List Nat} (h : OrdL O) {s : Nat} (hs : s < O.length) : 1 ≤ hiN O s ∧ hiN O s ≤ O.length := by
  have := List.idxOf_lt_length_of_mem (ord_mem h hs)
  unfold hiN
  omega
theorem lo_bd (O : List Nat) (s : Nat) : 1 ≤ loN O s ∧ loN O s ≤ hiN O s := by
  have := lowP_le O s (O.idxOf s)
  unfold loN hiN
  omega
theorem hi_inj {O : List Nat} (h : OrdL O) {s t : Nat} (hs : s < O.length) (ht : t < O.length) (e : hiN O s = hiN O t) : s = t := by
  have a := hi_at h hs
  have b := hi_at h ht
  rw [e, b] at a
  exact (Option.some.inj a).symm
theorem ord_hi {O : List Nat} (h : OrdL O) {p s : Nat} (e : O[p]? = some s) : hiN O s = p + 1 := by
  unfold hiN
  rw [idx_at h.2.2.2 e]
/-- the berths from low to high are taken by those ahead -/
theorem lo_between {O : List Nat} (h : OrdL O) {s x : Nat} (h1 : loN O s ≤ x) (h2 : x < hiN O s) (hs : s < O.length) : ∃ t, t < s ∧ hiN O t = x := by
  have hh := hi_bd h hs
  have lb := lo_bd O s
  unfold loN at h1
  unfold hiN at h2 hh
  have hlt : x - 1 < O.length := by omega
  have hx1 : 1 ≤ x := by omega
  have hin := lowP_in (O := O) (s := s) (O.idxOf s) (x - 1) (by omega) (by omega)
  rw [List.getD_eq_getElem?_getD, List.getElem?_eq_getElem hlt] at hin
  refine ⟨O[x - 1], hin, ?_⟩
  have e := ord_hi h (List.getElem?_eq_getElem hlt)
  rw [e]
  omega
theorem lo_below {O : List Nat} (h : OrdL O) {s t : Nat} (h1 : hiN O t + 1 = loN O s) (hs : s < O.length) (ht : t < O.length) : ¬ t < s := by
  have e := hi_at h ht
  unfold loN at h1
  rcases lowP_stop (O := O) (s := s) (O.idxOf s) with z | z
  · rw [z] at h1
    unfold hiN at h1
    omega
  · have : lowP O s (O.idxOf s) - 1 = hiN O t - 1 := by omega
    rw [this, List.getD_eq_getElem?_getD, e] at z
    exact z
theorem lead_run {O : List Nat} {ws : List Int} (h : OrdL O) (hl : ws.length = O.length) (hw : ∀ (s : Nat) (w : Int), ws[s]? = some w → (loN O s : Int) ≤ w ∧ w ≤ hiN O s) : ∀ i, i ≤ O.length →
    placedL O.length (ws.take i) = (List.range i).map (fun s => some ((hiN O s : Nat) : Int)) ∧ ∀ x, (prun O.length (ws.take i)).1 x = true ↔ ∃ s, s < i ∧ ((hiN O s : Nat) : Int) = x
  | 0, _ => ⟨rfl, fun x => by simp [prun]⟩
  | i + 1, hi => by
    obtain ⟨i1, i2⟩ := lead_run h hl hw i (by omega)
    have e : ws[i]? = some (ws[i]'(by omega)) := List.getElem?_eq_getElem (by omega)
    obtain ⟨w1, w2⟩ := hw i _ e
    have hb := hi_bd h (show i < O.length by omega)
    have lb := lo_bd O i
    have ef : ffree O.length (prun O.length (ws.take i)).1 (ws[i]'(by omega)) = some ((hiN O i : Nat) : Int) := by
      refine ffree_is w2 (by omega) ?_ fun x x1 x2 => ?_
      · cases z : (prun O.length (ws.take i)).1 ((hiN O i : Nat) : Int) with
        | false => rfl
        | true =>
          obtain ⟨s, s1, s2⟩ := (i2 _).mp z
          have := hi_inj h (show s < O.length by omega) (show i < O.length by omega) (by omega)
          omega
      · obtain ⟨t, t1, t2⟩ := lo_between h (s := i) (x := x.toNat) (by omega) (by omega) (by omega)
        exact (i2 x).mpr ⟨t, t1, by omega⟩
    rw [take_more e, placedL_snoc, occ_snoc, ef, i1, List.range_succ, List.map_append]
    refine ⟨rfl, fun x => ?_⟩
    show setO _ _ x = true ↔ _
    unfold setO
    rw [Bool.or_eq_true, i2, decide_eq_true_eq]
    constructor
    · rintro (z | ⟨s, s1, s2⟩)
      · exact ⟨i, by omega, z.symm⟩
      · exact ⟨s, by omega, s2⟩
    · rintro ⟨s, s1, s2⟩
      by_cases z : s = i
      · subst z
        exact .inl s2.symm
      · exact .inr ⟨s, by omega, s2⟩
theorem lead {O : List Nat} {ws : List Int} (h : OrdL O) (hl : ws.length = O.length) (hw : ∀ (s : Nat) (w : Int), ws[s]? = some w → (loN O s : Int) ≤ w ∧ w ≤ hiN O s) : FullW ws ∧ ∀ s, s < O.length → (placedL ws.length ws)[s]? = some (some ((hiN O s : Nat) : Int)) := by
  obtain ⟨e, _⟩ := lead_run h hl hw O.length (Nat.le_refl _)
  rw [← hl, List.take_length] at e
  obtain ⟨o1, o2, o3, o4⟩ := id h
  have hb : ∀ x ∈ ws, 1 ≤ x ∧ x ≤ (ws.length : Int) := fun x hx => by
    obtain ⟨i, hi, ex⟩ := List.getElem_of_mem hx
    have := hw i x (by rw [List.getElem?_eq_getElem hi, ex])
    have lb := lo_bd O i
    have := hi_bd h (show i < O.length by omega)
    omega
  refine ⟨⟨by omega, by omega, hb, (good_iff hb).mpr fun z => ?_⟩, fun s hs => ?_⟩
  · rw [e] at z
    obtain ⟨s, _, hs⟩ := List.mem_map.mp z
    cases hs
  · rw [e, List.getElem?_map, List.getElem?_range (by omega)]
    rfl
theorem placed_pre (n : Nat) (l : List Int) : ∀ m : List Int, placedL n l <+: placedL n (l ++ m) := snoc_ind (by rw [List.append_nil]; exact List.prefix_refl _) fun m w ih => by
  rw [← List.append_assoc, placedL_snoc]
  exact ih.trans ⟨_, rfl⟩
theorem placed_take {n : Nat} {ws : List Int} {i s : Nat} {o : Option Int} (h : (placedL n ws)[s]? = some o) (hs : s < i) (hi : i ≤ ws.length) : (placedL n (ws.take i))[s]? = some o := by
  obtain ⟨t, e⟩ := placed_pre n (ws.take i) (ws.drop i)
  rw [List.take_append_drop] at e
  rw [← e, List.getElem?_append_left (by rw [placedL_len, List.length_take]; omega)] at h
  exact h
theorem not_lead {O : List Nat} {ws : List Int} {t : Nat} {w : Int} (h : OrdL O) (hl : ws.length = O.length) (hb : ∀ x ∈ ws, 1 ≤ x ∧ x ≤ (ws.length : Int)) (ht : t < O.length) (hw : ws[t]? = some w) (bad : w = (hiN O t : Int) + 1 ∨ w = (loN O t : Int) - 1) :
    ¬ ∀ s, s < O.length → (placedL ws.length ws)[s]? = some (some ((hiN O s : Nat) : Int)) := by
  intro hall
  have h1 := placed_take (hall t ht) (show t < t + 1 by omega) (by omega)
  have hlt : (placedL ws.length (ws.take t)).length = t := by rw [placedL_len, List.length_take]; omega
  rw [take_more hw, placedL_snoc, List.getElem?_append_right (by omega), hlt, Nat.sub_self] at h1
  have h1 : ffree ws.length (prun ws.length (ws.take t)).1 w = some ((hiN O t : Nat) : Int) := Option.some.inj h1
  obtain ⟨f1, f2, f3, f4⟩ := ffree_some h1
  have lb := lo_bd O t
  rcases bad with z | z
  · omega
  · have w1 := (hb w (List.mem_of_getElem? hw)).1
    have ho := f4 w (Int.le_refl _) (by omega)
    have L := lay ws.length (ws.take t) fun x hx => hb x (List.mem_of_mem_take hx)
    have hm := (L.occ w).mp ho
    unfold somes at hm
    rw [List.mem_filterMap] at hm
    obtain ⟨o, ho2, eo⟩ := hm
    obtain ⟨s, hs, es⟩ := List.getElem_of_mem ho2
    rw [hlt] at hs
    have h2 := placed_take (hall s (by omega)) hs (by omega)
    have h3 : (placedL ws.length (ws.take t))[s]? = some o := by rw [List.getElem?_eq_getElem (by omega), es]
    rw [h3] at h2
    have h2 := Option.some.inj h2
    rw [h2] at eo
    have eo : ((hiN O s : Nat) : Int) = w := Option.some.inj eo
    exact lo_below h (show hiN O s + 1 = loN O t by omega) ht (by omega) hs
/-- the order that is told, by the berths -/
def LiesOf (ws : List Int) (L : List Nat) : Prop := L.length = ws.length ∧ ∀ (s : Nat) (b : Int), (placedL ws.length ws)[s]? = some (some b) → 1 ≤ b ∧ L[(b - 1).toNat]? = some s
theorem lies_is {O L : List Nat} {ws : List Int} (h : OrdL O) (hl : ws.length = O.length) (hL : LiesOf ws L) (hall : ∀ s, s < O.length → (placedL ws.length ws)[s]? = some (some ((hiN O s : Nat) : Int))) : L = O := by
  apply List.ext_getElem?
  intro p
  by_cases hp : p < O.length
  · have e : O[p]? = some O[p] := List.getElem?_eq_getElem hp
    have hs := h.2.2.1 _ (List.getElem_mem hp)
    obtain ⟨h1, h2⟩ := hL.2 _ _ (hall _ hs)
    have := ord_hi h e
    rw [this] at h2
    have e2 : ((((p + 1 : Nat)) : Int) - 1).toNat = p := by omega
    rw [e2] at h2
    rw [h2, e]
  · rw [List.getElem?_eq_none (by rw [hL.1]; omega), List.getElem?_eq_none (by omega)]
theorem lies_back {O : List Nat} {ws : List Int} (h : OrdL O) (hl : ws.length = O.length) (f : FullW ws) (hL : LiesOf ws O) : ∀ s, s < O.length → (placedL ws.length ws)[s]? = some (some ((hiN O s : Nat) : Int)) := by
  intro s hs
  have hlt : s < (placedL ws.length ws).length := by rw [placedL_len]; omega
  have e := List.getElem?_eq_getElem hlt
  cases eo : (placedL ws.length ws)[s] with
  | none =>
    exfalso
    have := (good_iff f.2.2.1).mp f.2.2.2
    exact this (eo ▸ List.getElem_mem hlt)
  | some b =>
    rw [eo] at e
    obtain ⟨h1, h2⟩ := hL.2 s b e
    have := ord_hi h h2
    rw [e, this]
    congr 2
    omega
def prodO (O : List Nat) (i : Nat) : Int := ((List.range i).map fun s => ((hiN O s : Nat) : Int) - (loN O s : Nat) + 1).foldl (· * ·) 1
theorem prodO_succ (O : List Nat) (i : Nat) : prodO O (i + 1) = prodO O i * (((hiN O i : Nat) : Int) - (loN O i : Nat) + 1) := by
  unfold prodO
  rw [List.range_succ, List.map_append, List.foldl_append]
  rfl

/-! ### lies -/
def sp_lies (K : PySem.W.Frag) (a : Ad) : Sp := fun vs H Q E => ∃ w, vs = [w] ∧ ChkF K a w H E fun ws _ => ∀ (l : Addr) (H' : Hp) (L : List Nat), H l = none → Same H H' → H' l = some (.tup (vN L)) → LiesOf ws L → Q (.ref l) H'
abbrev N_lies : List Str := ["wishes", "order", "ship", "berth"]
def t_lies (K : PySem.W.Frag) (a : Ad) (E : XK) : TS :=
  (tSeq (tDrop (tCall (sp_check_full_row K a) [] E (tCons (tVar 0) tNil)))
    (tSeq (tAsg (tOp rRep (tLst (tCons (tC (.int 0)) tNil)) (tCB (rLenSq K) (tCons (tVar 0) tNil))) (gName 1))
    (tSeq (tFor (iEnum K (tCons (tCall (sp_placed K a) [] E (tCons (tCB (rLenSq K) (tCons (tVar 0) tNil)) (tCons (tVar 0) tNil))) tNil)) (gTup K 2 (gCons (gName 2) (gCons (gName 3) gNil)))
    (tAsg (tVar 2) (gSub (tVar 1) (tOp rSubI (tVar 3) (tC (.int 1))) rSetL)))
    (tRet (tCB (rTupleOf K) (tCons (tVar 1) tNil))))))
theorem len_lies {K : PySem.W.Frag} {a : Ad} {vs : List V} {H : Hp} {Q : VK} {E : XK} (h : sp_lies K a vs H Q E) : vs.length = 1 := by
  obtain ⟨w, rfl, _⟩ := h
  rfl
theorem nodup_somes {l : List (Option Int)} (nd : (somes l).Nodup) {i j : Nat} {b : Int} (hi : l[i]? = some (some b)) (hj : l[j]? = some (some b)) : i = j := by
  induction l generalizing i j with
  | nil => simp at hi
  | cons x r ih =>
    have nd2 : (somes r).Nodup := by
      cases x with
      | none => exact nd
      | some y => exact (List.nodup_cons.mp nd).2
    have hmem : ∀ k, r[k]? = some (some b) → b ∈ somes r := fun k hk => by
      unfold somes
      rw [List.mem_filterMap]
      exact ⟨some b, List.mem_of_getElem? hk, rfl⟩
    cases i with
    | zero =>
      cases j with
      | zero => rfl
      | succ j =>
        cases hi
        exact absurd (hmem j hj) (List.nodup_cons.mp nd).1
    | succ i =>
      cases j with
      | zero =>
        cases hj
        exact absurd (hmem i hi) (List.nodup_cons.mp nd).1
      | succ j => rw [ih nd2 hi hj]
theorem pu_lies {K : PySem.W.Frag} {a : Ad} {vs : List V} {H : Hp} {Q : VK} {E : XK} (h : sp_lies K a vs H Q E) : t_lies K a E { nx := fun _ H' => Q .non H', rt := Q } (start N_lies vs) H := by
  obtain ⟨w, rfl, h⟩ := h
  refine ⟨w, rfl, w, rfl, ChkF.imp h fun ws p ew hs f q => fun H1 s1 => ?_⟩
  subst ew
  obtain ⟨f1, f2, f3, f4⟩ := id f
  have hs1 := s1.seqA hs
  refine ⟨by decide, fun l1 nl1 => ⟨.ref p, rfl, p, _, rfl, (same_new nl1).seqA hs1, l1, _, _, rfl, rfl, upd_same, by rw [List.length_map]; omega, by rw [List.length_map]; omega, ?_, fun lo nlo => ?_⟩⟩
  · refine l1000 ?_
    rw [List.length_map]
    show 1 * _ ≤ _
    omega
  have e2 : ((((ws.map V.int).length : Nat) : Int)).toNat = ws.length := by rw [List.length_map]; omega
  rw [e2, vN_rep]
  have n1 := s1.free nl1
  have s2 := s1.store n1 (o := .lst [.int 0])
  have no := s2.free nlo
  have s3 := s2.store no (o := .lst (vN (List.replicate ws.length 0)))
  have eo : (upd (upd H1 l1 (.lst [.int 0])) lo (.lst (vN (List.replicate ws.length 0)))) lo = some (.lst (vN (List.replicate ws.length 0))) := upd_same
  generalize (upd (upd H1 l1 (.lst [.int 0])) lo (.lst (vN (List.replicate ws.length 0)))) = H3 at s3 eo
  refine ⟨.ref p, rfl, p, _, rfl, s3.seqA hs, .ref p, rfl, _, _, rfl, ?_⟩
  rw [List.length_map]
  refine ChkW.ok f1 f2 (s3.seqA hs) f2 f3 fun lb H4 nlb s4 eb => ?_
  have s14 := s3.trans s4
  have eo4 := s4 _ _ eo
  have hgood := (good_iff f3).mp f4
  have LL := lay ws.length ws f3
  refine ⟨lb, _, rfl, sqL_of eb, for_it (walk_enum (K := K) (a := lb) (xs := (placedL ws.length ws).map vO)) (fun i σ H' => (∃ y z, σ = [some (.ref p), some (.ref lo), y, z]) ∧ Same H H' ∧ H' lb = some (.lst ((placedL ws.length ws).map vO)) ∧
    ∃ L : List Nat, H' lo = some (.lst (vN L)) ∧ L.length = ws.length ∧ ∀ (s : Nat) (b : Int), s < i → (placedL ws.length ws)[s]? = some (some b) → 1 ≤ b ∧ L[(b - 1).toNat]? = some s) ⟨⟨none, none, rfl⟩, s14, eb, _, eo4, by simp, fun s b h => by omega⟩ (fun i σ H' _ p => sqL_of p.2.2.1) ?_ ?_⟩
  · rintro i v σ H5 H6 hi ⟨⟨y, z, rfl⟩, s5, eb5, L, eo5, hlL, hL⟩ ⟨T, x, y', rfl, nT, rfl, ex, ey⟩
    cases ex
    replace ey : ((placedL ws.length ws).map vO)[i]? = some y' := ey
    rw [List.getElem?_map] at ey
    cases eo' : (placedL ws.length ws)[i]? with
    | none => rw [eo'] at ey; cases ey
    | some o =>
      rw [eo'] at ey
      cases ey
      cases o with
      | none => exact absurd (List.mem_of_getElem? eo') hgood
      | some b =>
        have bb := LL.bd b (by
          unfold somes
          rw [List.mem_filterMap]
          exact ⟨some b, List.mem_of_getElem? eo', rfl⟩)
        have sT := same_new nT (o := .tup [.int (i : Nat), .int b])
        have eo6 := sT _ _ eo5
        refine ⟨T, _, rfl, sqT_of upd_same, rfl, _, _, rfl, _, _, rfl, rfl, ?_⟩
        refine ⟨.int (i : Nat), rfl, .ref lo, rfl, .int b, rfl, b, 1, rfl, rfl, lo, _, b - 1, (b - 1).toNat, rfl, rfl, eo6, ?_, ?_⟩
        · unfold ixN
          rw [if_pos (by omega), vN_len, if_pos (by omega)]
        rw [vN_set]
        have hne : lb ≠ lo := fun z => by
          rw [z, eo4] at eb
          rw [z] at nlb
          have := s3.free nlb
          rw [nlb] at eo
          cases eo
        refine ⟨⟨_, _, rfl⟩, (s5.trans sT).store no, by rw [upd_ne hne]; exact sT _ _ eb5, L.set (b - 1).toNat i, upd_same, by rw [List.length_set]; exact hlL, fun s c hs hc => ?_⟩
        by_cases z : s = i
        · subst z
          rw [eo'] at hc
          cases hc
          exact ⟨bb.1, List.getElem?_set_self (by omega)⟩
        · obtain ⟨c1, c2⟩ := hL s c (by omega) hc
          refine ⟨c1, ?_⟩
          have hbc : (b - 1).toNat ≠ (c - 1).toNat := fun y => by
            have e : b = c := by omega
            subst e
            exact z (nodup_somes LL.nd hc eo')
          rw [List.getElem?_set_ne hbc]
          exact c2
  · rintro σ H5 ⟨⟨y, z, rfl⟩, s5, eb5, L, eo5, hlL, hL⟩
    refine ⟨.ref lo, rfl, lo, _, rfl, .inl ⟨sqL_of eo5, fun t nt => q t _ L (s5.free nt) (s5.trans (same_new nt)) upd_same ⟨hlL, fun s b hb => hL s b ?_ hb⟩⟩⟩
    have := (List.getElem?_eq_some_iff.mp hb).1
    rw [List.length_map]
    exact this
/-! ### reaches, rows_to -/
def ChkO (K : PySem.W.Frag) (a : Ad) (w : V) (H : Hp) (E : XK) (R : List Nat → Addr → Prop) : Prop :=
  (∃ T, TyB K H w T ∧ T ≠ "list" ∧ T ≠ "tuple" ∧ E (.ref a.e_NoOrder) none H) ∨
  ∃ p xs, w = .ref p ∧ SqA K H p xs ∧ (∀ x ∈ xs, ∃ T, TyB K H x T) ∧ (((¬ ∃ O : List Nat, xs = vN O ∧ OrdL O) ∧ E (.ref a.e_NoOrder) none H) ∨ ∃ O : List Nat, xs = vN O ∧ OrdL O ∧ R O p)
theorem ChkO.imp {K : PySem.W.Frag} {a : Ad} {w : V} {H : Hp} {E : XK} {R R' : List Nat → Addr → Prop} (h : ChkO K a w H E R) (k : ∀ O p, w = .ref p → SqA K H p (vN O) → OrdL O → R O p → R' O p) : ChkO K a w H E R' := by
  rcases h with h | ⟨p, xs, e, hs, ht, h | ⟨O, ex, f, r⟩⟩
  · exact .inl h
  · exact .inr ⟨p, xs, e, hs, ht, .inl h⟩
  · exact .inr ⟨p, xs, e, hs, ht, .inr ⟨O, ex, f, k O p e (ex ▸ hs) f r⟩⟩
theorem ChkO.ok {K : PySem.W.Frag} {a : Ad} {H : Hp} {E : XK} {R : List Nat → Addr → Prop} {O : List Nat} {p : Addr} (hs : SqA K H p (vN O)) (f : OrdL O) (r : R O p) : ChkO K a (.ref p) H E R :=
  .inr ⟨p, _, rfl, hs, fun x hx => by
    obtain ⟨i, _, rfl⟩ := List.mem_map.mp hx
    exact ⟨_, .int _⟩, .inr ⟨O, rfl, f, r⟩⟩
def sp_p_check_order (K : PySem.W.Frag) (a : Ad) : Sp := fun vs H Q E => ∃ w, vs = [w] ∧ ChkO K a w H E fun _ _ => Q .non H
abbrev N_p_check_order : List Str := ["order", "ship"]
def t_p_check_order (K : PySem.W.Frag) (a : Ad) (E : XK) : TS :=
  (tSeq (tIfS (tOr (tNot (tB (tCall (sp_is_row K a) [] E0 (tCons (tVar 0) tNil)))) (tNot (tTest (tChain rLeI rLeI (tC (.int 1)) (tCB (rLenSq K) (tCons (tVar 0) tNil)) (tC (.int 400)))))) (tRaise a.e_NoOrder E) tNext)
    (tSeq (tFor (iSeq K (tVar 0)) (gName 1)
    (tIfS (tNot (tB (tCall (sp_is_from_to K a) [] E0 (tCons (tC (.int 0)) (tCons (tOp rSubI (tCB (rLenSq K) (tCons (tVar 0) tNil)) (tC (.int 1))) (tCons (tVar 1) tNil)))))) (tRaise a.e_NoOrder E) tNext))
    (tIfS (tTest (tOp rLtI (tLenSetA K (tVar 0)) (tCB (rLenSq K) (tCons (tVar 0) tNil)))) (tRaise a.e_NoOrder E) tNext)))
theorem len_p_check_order {K : PySem.W.Frag} {a : Ad} {vs : List V} {H : Hp} {Q : VK} {E : XK} (h : sp_p_check_order K a vs H Q E) : vs.length = 1 := by
  obtain ⟨w, rfl, _⟩ := h
  rfl
theorem nats_of : ∀ {xs : List V} {hi : Int}, (∀ x ∈ xs, inB 0 hi x = true) → ∃ O : List Nat, xs = vN O ∧ ∀ x ∈ O, (x : Int) ≤ hi
  | [], _, _ => ⟨[], rfl, fun x hx => by cases hx⟩
  | x :: xs, hi, h => by
    obtain ⟨O, e, hO⟩ := nats_of (xs := xs) fun y hy => h y (List.mem_cons_of_mem _ hy)
    obtain ⟨i, rfl, h1, h2⟩ := inB_int (h x List.mem_cons_self)
    refine ⟨i.toNat :: O, ?_, fun y hy => ?_⟩
    · rw [e]
      have : ((i.toNat : Nat) : Int) = i := by omega
      show V.int i :: vN O = V.int ((i.toNat : Nat) : Int) :: vN O
      rw [this]
    · rcases List.mem_cons.mp hy with z | z
      · omega
      · exact hO y z
theorem vN_ints (O : List Nat) : vN O = (O.map fun (k : Nat) => (k : Int)).map V.int := by
  unfold vN
  rw [List.map_map]
  rfl
theorem cast_nodup {O : List Nat} : (O.map fun (k : Nat) => (k : Int)).Nodup ↔ O.Nodup := by
  constructor
  · intro h
    have := List.Pairwise.of_map (S := fun a b : Int => a ≠ b) (R := fun a b : Nat => a ≠ b) (fun (k : Nat) => (k : Int)) (fun a b hab e => hab (by rw [e])) h
    exact this
  · intro h
    exact List.Pairwise.map _ (fun a b hab e => hab (by omega)) h
theorem isub_len : ∀ {l1 l2 : List Int}, l1.Nodup → (∀ x ∈ l1, x ∈ l2) → l1.length ≤ l2.length := fun h s => sub_len h s
/-- as many as there are, only where none is there twice -/
theorem dedup_len {ns out : List Int} (nd : out.Nodup) (hm : ∀ k, k ∈ out ↔ k ∈ ns) : out.length < ns.length ↔ ¬ ns.Nodup := by
  constructor
  · intro h z
    have := sub_len z fun x hx => (hm x).mpr hx
    omega
  · intro h
    have h1 := sub_len nd fun x hx => (hm x).mp hx
    by_cases z : out.length = ns.length
    · exfalso
      apply h
      have hp : ∀ (l m : List Int), l.Nodup → (∀ x ∈ l, x ∈ m) → m.length ≤ l.length → l.Perm m := by
        intro l
        induction l with
        | nil =>
          intro m _ _ hl
          have : m = [] := List.length_eq_zero_iff.mp (by simpa using hl)
          rw [this]
        | cons x r ih =>
          intro m nd hs hl
          rw [List.nodup_cons] at nd
          have hx := hs x List.mem_cons_self
          have hl2 := List.length_erase_of_mem hx
          have hpos := List.length_pos_of_mem hx
          have := ih (m.erase x) nd.2 (fun y hy => (List.mem_erase_of_ne (fun z => nd.1 (by rw [← z]; exact hy))).mpr (hs y (List.mem_cons_of_mem _ hy))) (by rw [List.length_cons] at hl; omega)
          exact (this.cons x).trans (List.perm_cons_erase hx).symm
      exact (hp out ns nd (fun x hx => (hm x).mp hx) (by omega)).nodup_iff.mp nd
    · omega
theorem pu_p_check_order {K : PySem.W.Frag} {a : Ad} {vs : List V} {H : Hp} {Q : VK} {E : XK} (h : sp_p_check_order K a vs H Q E) : t_p_check_order K a E { nx := fun _ H' => Q .non H', rt := Q } (start N_p_check_order vs) H := by
  obtain ⟨w, rfl, ⟨T, ty, n1, n2, q⟩ | ⟨p, xs, rfl, hs, ht, r⟩⟩ := h
  · refine ⟨w, rfl, w, T, rfl, ty, _, rfl, ?_⟩
    rw [decide_eq_false n1, decide_eq_false n2]
    exact iteT (iteT q)
  obtain ⟨T, ty, eT⟩ := hs.ty
  refine ⟨.ref p, rfl, .ref p, T, rfl, ty, _, rfl, ?_⟩
  rw [eT]
  refine iteF ?_
  have bad : (¬ ∃ O : List Nat, xs = vN O ∧ OrdL O) → E (.ref a.e_NoOrder) none H := by
    rcases r with ⟨_, q⟩ | ⟨O, ex, f, _⟩
    · exact fun _ => q
    · exact fun z => (z ⟨O, ex, f⟩).elim
  refine ⟨.ref p, rfl, p, xs, rfl, hs, 1, _, rfl, rfl, _, rfl, ?_⟩
  by_cases h1 : (1 : Int) ≤ (xs.length : Nat)
  case neg =>
    rw [decide_eq_false h1]
    refine iteF ⟨_, rfl, iteT (bad ?_)⟩
    rintro ⟨O, ex, f, _⟩
    rw [ex, vN_len] at h1
    omega
  rw [decide_eq_true h1]
  by_cases h2 : ((xs.length : Nat) : Int) ≤ 400
  case neg =>
    refine iteT ⟨_, 400, rfl, rfl, _, rfl, ?_⟩
    rw [decide_eq_false h2]
    refine iteT (bad ?_)
    rintro ⟨O, ex, _, f, _⟩
    rw [ex, vN_len] at h2
    omega
  refine iteT ⟨_, 400, rfl, rfl, _, rfl, ?_⟩
  rw [decide_eq_true h2]
  refine iteF (for_seq (K := K) (H0 := H) (fun Q q => ⟨.ref p, rfl, q⟩) hs (fun i σ H' => H' = H ∧ (∀ x ∈ xs.take i, inB 0 ((xs.length : Int) - 1) x = true) ∧ ∃ y, σ = [some (.ref p), y]) ⟨rfl, fun x hx => (by cases hx), none, rfl⟩ (fun i σ H' e => by rw [e.1]; exact Same.refl H) ?_ ?_)
  · rintro i x σ H' hx ⟨rfl, ha, y, rfl⟩
    obtain ⟨T, ty⟩ := ht x (List.mem_of_getElem? hx)
    refine ⟨.ref p, rfl, p, xs, rfl, hs, _, 1, rfl, rfl, x, rfl, 0, _, x, T, rfl, ty, inB 0 ((xs.length : Int) - 1) x, rfl, ?_⟩
    cases g : inB 0 ((xs.length : Int) - 1) x with
    | true =>
      refine iteF ⟨rfl, fun z hz => ?_, some x, rfl⟩
      rw [take_more hx] at hz
      rcases List.mem_append.mp hz with hz | hz
      · exact ha z hz
      · rw [List.mem_singleton.mp hz]
        exact g
    | false =>
      refine iteT (bad ?_)
      rintro ⟨O, ex, f⟩
      rw [ex] at hx
      obtain ⟨k, hk, rfl⟩ := vN_item hx
      have := f.2.2.1 k (List.mem_of_getElem? hk)
      have : inB 0 ((xs.length : Int) - 1) (.int (k : Int)) = true := by
        rw [ex, vN_len]
        simp [inB]
        omega
      rw [this] at g
      cases g
  · rintro σ H' ⟨rfl, ha, y, rfl⟩
    rw [List.take_length] at ha
    obtain ⟨O, rfl, hO⟩ := nats_of ha
    rw [vN_len] at hO h1 h2
    have hs2 := hs
    rw [vN_ints] at hs2
    refine ⟨.ref p, rfl, p, _, rfl, hs2, by rw [List.length_map]; omega, fun out nd hm => ⟨.ref p, rfl, p, _, rfl, hs, _, _, rfl, rfl, _, rfl, ?_⟩⟩
    have hd := dedup_len nd hm
    rw [List.length_map, cast_nodup] at hd
    rw [vN_len]
    by_cases z : O.Nodup
    · have : ¬ ((out.length : Nat) : Int) < (O.length : Nat) := fun y => hd.mp (by omega) z
      rw [decide_eq_false this]
      rcases r with ⟨n, _⟩ | ⟨_, _, _, q⟩
      · exact (n ⟨O, rfl, by omega, by omega, fun x hx => by have := hO x hx; omega, z⟩).elim
      · exact iteF q
    · have : ((out.length : Nat) : Int) < (O.length : Nat) := by have := hd.mpr z; omega
      rw [decide_eq_true this]
      refine iteT (bad ?_)
      rintro ⟨O2, e2, f⟩
      exact z (vN_inj e2 ▸ f.2.2.2)

/-- a list of pairs, each of its ship -/
structure PairsAt (H : Hp) (l : Addr) (O : List Nat) (ps : List Addr) : Prop where
  d : H l = some (.lst (ps.map V.ref))
  len : ps.length = O.length
  at_ : ∀ s p, ps[s]? = some p → H p = some (.tup [.int (loN O s : Nat), .int (hiN O s : Nat)])
theorem PairsAt.same {H H' : Hp} {l : Addr} {O : List Nat} {ps : List Addr} (h : PairsAt H l O ps) (s : Same H H') : PairsAt H' l O ps := ⟨s _ _ h.d, h.len, fun i p e => s _ _ (h.at_ i p e)⟩
def sp_reaches (K : PySem.W.Frag) (a : Ad) : Sp := fun vs H Q E => ∃ w, vs = [w] ∧ ChkO K a w H E fun O _ => ∀ (l : Addr) (ps : List Addr) (H' : Hp), H l = none → Same H H' → PairsAt H' l O ps → Q (.ref l) H'
abbrev N_reaches : List Str := ["order", "pairs", "place", "ship", "first"]
def t_reaches (K : PySem.W.Frag) (a : Ad) (E : XK) : TS :=
  (tSeq (tDrop (tCall (sp_p_check_order K a) [] E (tCons (tVar 0) tNil)))
    (tSeq (tAsg (tOp rRep (tLst (tCons (tTup (tCons (tC (.int 0)) (tCons (tC (.int 0)) tNil))) tNil)) (tCB (rLenSq K) (tCons (tVar 0) tNil))) (gName 1))
    (tSeq (tFor (iEnumS K (tCons (tVar 0) tNil)) (gTup K 2 (gCons (gName 2) (gCons (gName 3) gNil)))
    (tSeq (tAsg (tVar 2) (gName 4))
    (tSeq (tWhile (tAnd (tTest (tOp rGtI (tVar 4) (tC (.int 0)))) (tTest (tOp rLtI (tOp (rIx K) (tVar 0) (tOp rSubI (tVar 4) (tC (.int 1)))) (tVar 3)))) (tAug 4 (tC (.int 1)) ipSub))
    (tAsg (tTup (tCons (tOp rAddI (tVar 4) (tC (.int 1))) (tCons (tOp rAddI (tVar 2) (tC (.int 1))) tNil))) (gSub (tVar 1) (tVar 3) rSetL)))))
    (tRet (tVar 1)))))
theorem len_reaches {K : PySem.W.Frag} {a : Ad} {vs : List V} {H : Hp} {Q : VK} {E : XK} (h : sp_reaches K a vs H Q E) : vs.length = 1 := by
  obtain ⟨w, rfl, _⟩ := h
  rfl
theorem rep_refs (n : Nat) (p : Addr) : (List.replicate n [V.ref p]).flatten = (List.replicate n p).map V.ref := by
  induction n with
  | zero => rfl
  | succ n ih =>
    rw [List.replicate_succ, List.replicate_succ, List.flatten_cons, ih]
    rfl
theorem seq_ix {K : PySem.W.Frag} {H : Hp} {p : Addr} {xs : List V} {i : Int} {j : Nat} {v : V} {Q : VK} (h : SqA K H p xs) (e : i = (j : Int)) (hx : xs[j]? = some v) (q : Q v H) : rIx K (.ref p) (.int i) H Q := by
  rcases h with h | h
  · exact .inl ⟨p, xs, i, v, rfl, rfl, h, at_of e hx, q⟩
  · exact .inr (.inl ⟨p, xs, i, v, rfl, rfl, h, at_of e hx, q⟩)
theorem pu_reaches {K : PySem.W.Frag} {a : Ad} {vs : List V} {H : Hp} {Q : VK} {E : XK} (h : sp_reaches K a vs H Q E) : t_reaches K a E { nx := fun _ H' => Q .non H', rt := Q } (start N_reaches vs) H := by
  obtain ⟨w, rfl, h⟩ := h
  refine ⟨w, rfl, w, rfl, ChkO.imp h fun O p ew hs f q => ?_⟩
  subst ew
  obtain ⟨f1, f2, f3, f4⟩ := id f
  -- pairs = [(0, 0)] * len(order)
  refine ⟨l1000 (by show 2 ≤ 1000; decide), fun t nt => ⟨l1000 (by show 1 ≤ 1000; decide), fun l1 nl1 => ?_⟩⟩
  have s1 := same_new nt (o := .tup [.int 0, .int 0])
  have n1 := s1.free nl1
  have s2 := s1.store n1 (o := .lst [.ref t])
  refine ⟨.ref p, rfl, p, _, rfl, s2.seqA hs, l1, _, _, rfl, rfl, upd_same, by rw [vN_len]; omega, by rw [vN_len]; omega, ?_, fun l nl => ?_⟩
  · refine l1000 ?_
    rw [vN_len]
    show 1 * _ ≤ _
    omega
  have e2 : ((((vN O).length : Nat) : Int)).toNat = O.length := by rw [vN_len]; omega
  rw [e2, rep_refs]
  have nlH := s2.free nl
  have s3 := s2.store nlH (o := .lst ((List.replicate O.length t).map V.ref))
  have el : (upd (upd (upd H t (.tup [.int 0, .int 0])) l1 (.lst [.ref t])) l (.lst ((List.replicate O.length t).map V.ref))) l = some (.lst ((List.replicate O.length t).map V.ref)) := upd_same
  generalize (upd (upd (upd H t (.tup [.int 0, .int 0])) l1 (.lst [.ref t])) l (.lst ((List.replicate O.length t).map V.ref))) = H3 at s3 el
  refine for_enumS (K := K) (H0 := H) (a := p) (fun Q q => ⟨.ref p, rfl, q⟩) hs (fun i σ H' => (∃ y z u, σ = [some (.ref p), some (.ref l), y, z, u]) ∧ Same H H' ∧ ∃ ps : List Addr, H' l = some (.lst (ps.map V.ref)) ∧ ps.length = O.length ∧
    ∀ (j s : Nat), j < i → O[j]? = some s → ∃ pa, ps[s]? = some pa ∧ H' pa = some (.tup [.int (loN O s : Nat), .int (hiN O s : Nat)])) ⟨⟨none, none, none, rfl⟩, s3, _, el, by simp, fun j s h => by omega⟩ (fun i σ H' h => h.2.1) ?_ ?_
  · rintro i x T σ H4 hx ⟨⟨y, z, u, rfl⟩, s4, ps, el4, hpl, hps⟩ nT
    obtain ⟨s, hsi, rfl⟩ := vN_item hx
    have hi := (List.getElem?_eq_some_iff.mp hsi).1
    have hsn := f3 s (List.mem_of_getElem? hsi)
    have sT := same_new nT (o := .tup [.int (i : Nat), .int (s : Int)])
    refine ⟨T, _, rfl, sqT_of upd_same, rfl, _, _, rfl, _, _, rfl, rfl, ?_⟩
    have s5 := s4.trans sT
    have hs5 := s5.seqA hs
    have el5 := sT _ _ el4
    have hps5 : ∀ (j s : Nat), j < i → O[j]? = some s → ∃ pa, ps[s]? = some pa ∧ (upd H4 T (.tup [.int (i : Nat), .int (s : Int)])) pa = some (.tup [.int (loN O s : Nat), .int (hiN O s : Nat)]) := fun j s' hj e => by
      obtain ⟨pa, e1, e2⟩ := hps j s' hj e
      exact ⟨pa, e1, same_new nT _ _ e2⟩
    have hps5 : ∀ (j s' : Nat), j < i → O[j]? = some s' → ∃ pa, ps[s']? = some pa ∧ (upd H4 T (.tup [.int (i : Nat), .int (s : Int)])) pa = some (.tup [.int (loN O s' : Nat), .int (hiN O s' : Nat)]) := fun j s' hj e => by
      obtain ⟨pa, e1, e2⟩ := hps j s' hj e
      exact ⟨pa, e1, sT _ _ e2⟩
    generalize (upd H4 T (.tup [.int (i : Nat), .int (s : Int)])) = H5 at s5 hs5 el5 hps5
    refine ⟨.int (i : Nat), rfl, ?_⟩
    change (tSeq (tWhile _ _) _) _ _ _
    have hidx : hiN O s = i + 1 := ord_hi f hsi
    refine while_up (i + 1) (fun b σ H' => b ≤ i ∧ H' = H5 ∧ lowP O s i = lowP O s (i - b) ∧ σ = [some (.ref p), some (.ref l), some (.int (i : Nat)), some (.int (s : Int)), some (.int ((i - b : Nat) : Int))]) ⟨0, Nat.zero_le _, rfl, rfl, rfl⟩ ?_
    rintro b σ H' ⟨hb, rfl, hlow, rfl⟩
    have stop : lowP O s i = i - b → (tSeq (tAsg (tTup (tCons (tOp rAddI (tVar 4) (tC (.int 1))) (tCons (tOp rAddI (tVar 2) (tC (.int 1))) tNil))) (gSub (tVar 1) (tVar 3) rSetL)) tNext) { nx := fun σ H'' => (∃ y z u, σ = [some (.ref p), some (.ref l), y, z, u]) ∧ Same H H'' ∧ ∃ ps : List Addr, H'' l = some (.lst (ps.map V.ref)) ∧ ps.length = O.length ∧ ∀ (j s : Nat), j < i + 1 → O[j]? = some s → ∃ pa, ps[s]? = some pa ∧ H'' pa = some (.tup [.int (loN O s : Nat), .int (hiN O s : Nat)]), rt := Q } [some (.ref p), some (.ref l), some (.int (i : Nat)), some (.int (s : Int)), some (.int ((i - b : Nat) : Int))] H' := by
      intro hst
      refine ⟨_, rfl, _, 1, rfl, rfl, _, rfl, _, 1, rfl, rfl, l1000 (by show 2 ≤ 1000; decide), fun pa npa => ?_⟩
      have s6 := same_new npa (o := .tup [.int (((i - b : Nat) : Int) + 1), .int (((i : Nat) : Int) + 1)])
      have el6 := s6 _ _ el5
      have e1 : (((i - b : Nat) : Int) + 1) = ((loN O s : Nat) : Int) := by
        unfold loN
        unfold hiN at hidx
        have : O.idxOf s = i := by omega
        rw [this, hst]
        omega
      have e2 : (((i : Nat) : Int) + 1) = ((hiN O s : Nat) : Int) := by rw [hidx]; omega
      refine ⟨.ref l, rfl, .int (s : Int), rfl, l, _, (s : Int), s, rfl, rfl, el6, ?_, ⟨_, _, _, rfl⟩, (s5.trans s6).store nlH, ps.set s pa, ?_, by rw [List.length_set]; exact hpl, fun j s' hj he => ?_⟩
      · unfold ixN
        rw [if_pos (by omega), List.length_map, if_pos (by omega)]
        congr 1
      · rw [upd_same, List.map_set]
      · have hne : l ≠ pa := ne_of_none el5 npa
        by_cases z : s' = s
        · subst z
          refine ⟨pa, List.getElem?_set_self (by omega), ?_⟩
          rw [upd_ne (Ne.symm hne), ← e1, ← e2]
          exact upd_same
        · have hj' : j < i := by
            by_cases y : j = i
            · subst y
              rw [hsi] at he
              exact absurd (Option.some.inj he).symm z
            · omega
          obtain ⟨pb, b1, b2⟩ := hps5 j s' hj' he
          refine ⟨pb, by rw [List.getElem?_set_ne (Ne.symm z)]; exact b1, ?_⟩
          have : pb ≠ l := fun y => by rw [y, el5] at b2; cases b2
          rw [upd_ne this]
          exact s6 _ _ b2
    refine ⟨_, rfl, _, 0, rfl, rfl, _, rfl, ?_⟩
    by_cases h0 : (0 : Int) < ((i - b : Nat) : Int)
    case neg =>
      rw [decide_eq_false h0]
      have : i - b = 0 := by omega
      refine iteF (iteF (stop ?_))
      rw [hlow, this]
      rfl
    rw [decide_eq_true h0]
    have hlt : i - b - 1 < O.length := by omega
    have ei := List.getElem?_eq_getElem hlt
    have eg : O.getD (i - b - 1) 0 = O[i - b - 1] := by
      rw [List.getD_eq_getElem?_getD, ei]
      rfl
    refine iteT ⟨.ref p, rfl, _, rfl, _, 1, rfl, rfl, seq_ix hs5 (j := i - b - 1) (by omega) (vN_at ei) ⟨.int (s : Int), rfl, _, _, rfl, rfl, _, rfl, ?_⟩⟩
    obtain ⟨k, hk⟩ : ∃ k, i - b = k + 1 := ⟨i - b - 1, by omega⟩
    have hk2 : i - b - 1 = k := by omega
    by_cases hc : ((O[i - b - 1] : Nat) : Int) < (s : Int)
    · rw [decide_eq_true hc]
      refine iteT ⟨_, while_nx (b := b) (by omega), ?_⟩
      refine ⟨_, rfl, _, 1, rfl, rfl, by omega, rfl, ?_, ?_⟩
      · rw [hlow, hk]
        have : i - (b + 1) = k := by omega
        rw [this]
        show (if O.getD k 0 < s then lowP O s k else k + 1) = _
        rw [if_pos (by rw [← hk2, eg]; omega)]
      · have e : ((i - b : Nat) : Int) - 1 = ((i - (b + 1) : Nat) : Int) := by omega
        show [some (V.ref p), some (V.ref l), some (V.int (i : Nat)), some (V.int (s : Int)), some (V.int (((i - b : Nat) : Int) - 1))] = _
        rw [e]
    · rw [decide_eq_false hc]
      refine iteF (stop ?_)
      rw [hlow, hk]
      show (if O.getD k 0 < s then lowP O s k else k + 1) = _
      rw [if_neg (by rw [← hk2, eg]; omega)]
  · rintro σ H4 ⟨⟨y, z, u, rfl⟩, s4, ps, el4, hpl, hps⟩
    rw [vN_len] at hps
    refine ⟨.ref l, rfl, q l ps H4 nlH s4 ⟨el4, hpl, fun s pa e => ?_⟩⟩
    have hs' := (List.getElem?_eq_some_iff.mp e).1
    rw [hpl] at hs'
    have he := hi_at f hs'
    have hb := hi_bd f hs'
    obtain ⟨pb, b1, b2⟩ := hps (hiN O s - 1) s (by omega) he
    rw [e] at b1
    cases b1
    exact b2
def sp_rows_to (K : PySem.W.Frag) (a : Ad) : Sp := fun vs H Q E => ∃ w, vs = [w] ∧ ChkO K a w H E fun O _ => ∀ (H' : Hp), Same H H' → Q (.int (prodO O O.length)) H'
abbrev N_rows_to : List Str := ["order", "many", "low", "high"]
def t_rows_to (K : PySem.W.Frag) (a : Ad) (E : XK) : TS :=
  (tSeq (tAsg (tC (.int 1)) (gName 1))
    (tSeq (tFor (iList K (tCall (sp_reaches K a) [] E (tCons (tVar 0) tNil))) (gTup K 2 (gCons (gName 2) (gCons (gName 3) gNil)))
    (tAsg (tOp rMulI (tVar 1) (tOp rAddI (tOp rSubI (tVar 3) (tVar 2)) (tC (.int 1)))) (gName 1)))
    (tRet (tVar 1))))
theorem len_rows_to {K : PySem.W.Frag} {a : Ad} {vs : List V} {H : Hp} {Q : VK} {E : XK} (h : sp_rows_to K a vs H Q E) : vs.length = 1 := by
  obtain ⟨w, rfl, _⟩ := h
  rfl
theorem pu_rows_to {K : PySem.W.Frag} {a : Ad} {vs : List V} {H : Hp} {Q : VK} {E : XK} (h : sp_rows_to K a vs H Q E) : t_rows_to K a E { nx := fun _ H' => Q .non H', rt := Q } (start N_rows_to vs) H := by
  obtain ⟨w, rfl, h⟩ := h
  refine ⟨w, rfl, w, rfl, ChkO.imp h fun O p ew hs f q => fun l ps H1 nl s1 P => ?_⟩
  refine ⟨l, rfl, ⟨_, sqL_of P.d⟩, for_list (K := K) (a := l) (fun i σ H' => (∃ y z, σ = [some w, some (.int (prodO O i)), y, z]) ∧ H' = H1) ⟨⟨none, none, rfl⟩, rfl⟩ (fun i σ H' _ h => by rw [h.2]; exact sqL_of P.d) ?_ ?_⟩
  · rintro i x σ H' hx ⟨⟨y, z, rfl⟩, rfl⟩
    rw [List.getElem?_map] at hx
    cases e : ps[i]? with
    | none => rw [e] at hx; cases hx
    | some pa =>
      rw [e] at hx
      cases hx
      have ep := P.at_ i pa e
      have hi := (List.getElem?_eq_some_iff.mp e).1
      rw [P.len] at hi
      have hb := hi_bd f hi
      have lb := lo_bd O i
      obtain ⟨f1, f2, _⟩ := id f
      refine ⟨pa, _, rfl, sqT_of ep, rfl, _, _, rfl, _, _, rfl, rfl, ?_⟩
      refine ⟨_, rfl, _, rfl, _, rfl, _, _, rfl, rfl, _, 1, rfl, rfl, _, _, rfl, rfl, .inr ⟨by omega, by omega⟩, ⟨some (.int (loN O i : Nat)), some (.int (hiN O i : Nat)), ?_⟩, rfl⟩
      rw [prodO_succ]
      rfl
  · rintro σ H' ⟨⟨y, z, rfl⟩, rfl⟩
    rw [List.length_map, P.len]
    exact ⟨_, rfl, q _ s1⟩

/-! ### by what a thing is refused -/
structure RefO (K : PySem.W.Frag) (C : Addr) (a : Ad) (q : Bool) : Prop where
  ex : PySem.W.exmOne K (.ref C) (.ref a.e_BerthError) = some true
  c : ExcC K C
  k0 : PySem.W.kitOne K (.ref C) (.ref a.e_NoCount) = some false
  k1 : PySem.W.kitOne K (.ref C) (.ref a.e_NoTree) = some false
  k2 : PySem.W.kitOne K (.ref C) (.ref a.e_NoQuay) = some false
  k3 : PySem.W.kitOne K (.ref C) (.ref a.e_TooMany) = some false
  k4 : PySem.W.kitOne K (.ref C) (.ref a.e_NoOrder) = some q
  k5 : PySem.W.kitOne K (.ref C) (.ref a.e_NoWishes) = some (!q)
def cT (a : Ad) (q : Bool) : Addr := if q then a.e_NoOrder else a.e_NoWishes
def nmT (q : Bool) : Str := if q then Str.ofString "order" else Str.ofString "wishes"
def S_ord (K : PySem.W.Frag) (a : Ad) : Addr → Sp → Prop := fun f sp => (f = a.f_lies ∧ sp = sp_lies K a) ∨ (f = a.f_reaches ∧ sp = sp_reaches K a) ∨ (f = a.f_rows_to ∧ sp = sp_rows_to K a)
theorem A_ord {P : Program} {w : World} {K : PySem.W.Frag} {mg : Str → Option Value} {base : Heap} {CX : CXT} {k1 k2 k3 kk : Nat} {x1 x2 x3 : Str} {ps1 ps2 ps3 : List Str} {a : Ad} (g1 : Cb P w K mg base CX k1 x1 a.f_lies ps1 (sp_lies K a))
    (g2 : Cb P w K mg base CX k2 x2 a.f_reaches ps2 (sp_reaches K a)) (g3 : Cb P w K mg base CX k3 x3 a.f_rows_to ps3 (sp_rows_to K a)) (h1 : k1 ≤ kk) (h2 : k2 ≤ kk) (h3 : k3 ≤ kk) (f : Addr) (sp : Sp) (h : S_ord K a f sp) : Hd P w K mg base CX kk f sp := by
  rcases h with ⟨rfl, rfl⟩ | ⟨rfl, rfl⟩ | ⟨rfl, rfl⟩
  · exact hd_of g1 h1
  · exact hd_of g2 h2
  · exact hd_of g3 h3
def sp_l_word (K : PySem.W.Frag) (a : Ad) : Sp := fun vs H Q _ => ∃ (f : Addr) (x : V) (sp : Sp) (q : Bool), vs = [.ref f, x] ∧ S_ord K a f sp ∧ (∀ (Q' : VK) (E' : XK), (∀ H', Same H H' → E' (.ref (cT a q)) none H') → sp [x] H Q' E') ∧ ∀ H' : Hp, Same H H' → Q (.str (nmT q)) H'
abbrev N_l_word : List Str := ["_law_act", "_law_thing", "_law_caught", "e", "_law_kinds"]
def t_l_word (K : PySem.W.Frag) (a : Ad) : TS :=
  (tSeq (tAsg (tC .non) (gName 2))
    (tSeq (tTryKeep K a.e_BerthError 3 2 fun W => (tDrop (tCallD 0 (S_ord K a) (WE W) (tCons (tVar 1) tNil))))
    (tSeq (tAsg (tLst (tCons (tCB (rIsiE K) (tCons (tVar 2) (tCons (tC (.ref a.e_NoCount)) tNil))) (tCons (tCB (rIsiE K) (tCons (tVar 2) (tCons (tC (.ref a.e_NoTree)) tNil))) (tCons (tCB (rIsiE K) (tCons (tVar 2) (tCons (tC (.ref a.e_NoQuay)) tNil))) tNil)))) (gName 4))
    (tSeq (tIfS (tOr (tTest (tOp (rIn K false) (tC (.bl true)) (tVar 4))) (tOr (tB (tCB (rIsiE K) (tCons (tVar 2) (tCons (tC (.ref a.e_TooMany)) tNil)))) (tB (tIsN (tVar 2))))) (tRet (tC (.str (Str.ofString "other")))) tNext)
    (tRet (tOp rAddStr (tOp (rIxL K) (tLst (tCons (tC (.str (Str.ofString ""))) (tCons (tC (.str (Str.ofString "order"))) tNil))) (tCB rInt1 (tCons (tCB (rIsiE K) (tCons (tVar 2) (tCons (tC (.ref a.e_NoOrder)) tNil))) tNil))) (tOp (rIxL K) (tLst (tCons (tC (.str (Str.ofString ""))) (tCons (tC (.str (Str.ofString "wishes"))) tNil))) (tCB rInt1 (tCons (tCB (rIsiE K) (tCons (tVar 2) (tCons (tC (.ref a.e_NoWishes)) tNil))) tNil)))))))))
theorem len_l_word {K : PySem.W.Frag} {a : Ad} {vs : List V} {H : Hp} {Q : VK} {E : XK} (h : sp_l_word K a vs H Q E) : vs.length = 2 := by
  obtain ⟨f, x, sp, q, rfl, _⟩ := h
  rfl
theorem pu_l_word {K : PySem.W.Frag} {a : Ad} (F1 : RefO K a.e_NoOrder a true) (F0 : RefO K a.e_NoWishes a false) {vs : List V} {H : Hp} {Q : VK} {E : XK} (h : sp_l_word K a vs H Q E) : t_l_word K a { nx := fun _ H' => Q .non H', rt := Q } (start N_l_word vs) H := by
  obtain ⟨f, th, sp, q, rfl, hS, hsp, hq⟩ := h
  have F : RefO K (cT a q) a q := by cases q <;> assumption
  refine ⟨f, sp, rfl, hS, th, rfl, hsp _ _ fun H1 s1 => ⟨F.ex, fun x nx => ?_⟩⟩
  have s2 : Same H (upd H1 x (ExK (.ref (cT a q)) none x)) := s1.trans (same_new nx)
  have e1 : (upd H1 x (ExK (.ref (cT a q)) none x)) x = some (ExK (.ref (cT a q)) none x) := upd_same
  generalize (upd H1 x (ExK (.ref (cT a q)) none x)) = H2 at s2 e1
  refine ⟨.ref x, rfl, .ref x, _, _, _, false, rfl, .own _, .exc e1 F.c, F.k0, .ref x, rfl, .ref x, _, _, _, false, rfl, .own _, .exc e1 F.c, F.k1, .ref x, rfl, .ref x, _, _, _, false, rfl, .own _, .exc e1 F.c, F.k2, l1000 (by show 3 ≤ 1000; decide), fun kl nkl => ?_⟩
  have s3 := s2.store (s2.free nkl) (o := .lst [.bl false, .bl false, .bl false])
  have e3 := same_new nkl (o := .lst [.bl false, .bl false, .bl false]) _ _ e1
  refine ⟨.ref kl, rfl, kl, _, rfl, .inl (sqL_of upd_same), rfl, rfl, _, rfl, ?_⟩
  have ei : inV (V.bl true) [.bl false, .bl false, .bl false] = false := rfl
  rw [if_neg Bool.false_ne_true, ei]
  refine iteF ⟨.ref x, rfl, .ref x, _, _, _, false, rfl, .own _, .exc e3 F.c, F.k3, false, rfl, iteF ⟨.ref x, rfl, false, rfl, iteF ?_⟩⟩
  refine ⟨l1000 (by show 2 ≤ 1000; decide), fun p0 np0 => ?_⟩
  have s4 := s3.store (s3.free np0) (o := .lst [.str (Str.ofString ""), .str (Str.ofString "order")])
  have e4 := same_new np0 (o := .lst [.str (Str.ofString ""), .str (Str.ofString "order")]) _ _ e3
  refine ⟨.ref x, rfl, .ref x, _, _, _, q, rfl, .own _, .exc e4 F.c, F.k4, .inr ⟨q, rfl, p0, _, _, .str (if q then Str.ofString "order" else Str.ofString ""), rfl, rfl, sqL_of upd_same, by cases q <;> rfl, ?_⟩⟩
  refine ⟨l1000 (by show 2 ≤ 1000; decide), fun p1 np1 => ?_⟩
  have s5 := s4.store (s4.free np1) (o := .lst [.str (Str.ofString ""), .str (Str.ofString "wishes")])
  have e5 := same_new np1 (o := .lst [.str (Str.ofString ""), .str (Str.ofString "wishes")]) _ _ e4
  refine ⟨.ref x, rfl, .ref x, _, _, _, !q, rfl, .own _, .exc e5 F.c, F.k5, .inr ⟨!q, rfl, p1, _, _, .str (if q then Str.ofString "" else Str.ofString "wishes"), rfl, rfl, sqL_of upd_same, by cases q <;> rfl, ?_⟩⟩
  refine ⟨_, _, rfl, rfl, l1000 (by cases q <;> decide +kernel), ?_⟩
  have e : (if q then Str.ofString "order" else Str.ofString "") ++ (if q then Str.ofString "" else Str.ofString "wishes") = nmT q := by cases q <;> decide +kernel
  show Q (.str ((if q then Str.ofString "order" else Str.ofString "") ++ (if q then Str.ofString "" else Str.ofString "wishes"))) _
  rw [e]
  exact hq _ s5

/-! ### a whole number -/
def sp_l_whole (K : PySem.W.Frag) : Sp := fun vs H Q _ => ∃ (i : Int), vs = [.int i] ∧ Q (.bl true) H
abbrev N_l_whole : List Str := ["_law_found"]
def t_l_whole (K : PySem.W.Frag) (a : Ad) : TS :=
  (tRet (tAndV (tCB (rIsi K) (tCons (tVar 0) (tCons (tC (.ty "int")) tNil))) (tNotV (tCB (rIsi K) (tCons (tVar 0) (tCons (tC (.ty "bool")) tNil))))))
theorem len_l_whole {K : PySem.W.Frag} {vs : List V} {H : Hp} {Q : VK} {E : XK} (h : sp_l_whole K vs H Q E) : vs.length = 1 := by
  obtain ⟨i, rfl, _⟩ := h
  rfl
theorem kit_ii {K : PySem.W.Frag} : PySem.W.kitOne K (.type "int") (.type "int") = some true := kit_ty (by decide +kernel)
theorem kit_ib {K : PySem.W.Frag} : PySem.W.kitOne K (.type "int") (.type "bool") = some false := kit_ty (by decide +kernel)
theorem kit_ll {K : PySem.W.Frag} : PySem.W.kitOne K (.type "list") (.type "list") = some true := kit_ty (by decide +kernel)
theorem pu_l_whole {K : PySem.W.Frag} {a : Ad} {vs : List V} {H : Hp} {Q : VK} {E : XK} (h : sp_l_whole K vs H Q E) : t_l_whole K a { nx := fun _ H' => Q .non H', rt := Q } (start N_l_whole vs) H := by
  obtain ⟨i, rfl, q⟩ := h
  exact ⟨.int i, rfl, .int i, _, _, _, true, rfl, .ty _, .base (.int i), kit_ii, true, rfl, iteT ⟨.int i, rfl, .int i, _, _, _, false, rfl, .ty _, .base (.int i), kit_ib, false, rfl, q⟩⟩

/-! ### what the law makes and asks itself -/
theorem tyX_tup {K : PySem.W.Frag} {H : Hp} {a : Addr} {xs : List V} (h : SqT K H a xs) : TyX K H (.ref a) (.type "tuple") := by
  rcases h with (h | ⟨ob, h⟩) | ⟨o, its, n, hk, hc, _⟩
  · exact .base (.tup h)
  · exact .fTuple h
  · exact .kTuple hk hc
theorem kit_tt {K : PySem.W.Frag} : PySem.W.kitOne K (.type "tuple") (.type "tuple") = some true := kit_ty (by decide +kernel)

/-! ### what the law asks of one order -/
/-- a heap without one address -/
def wo (H : Hp) (p : Addr) : Hp := fun b => if b = p then none else H b
theorem wo_same (H : Hp) (p : Addr) : Same (wo H p) H := fun b x e => by
  unfold wo at e
  by_cases z : b = p
  · rw [if_pos z] at e
    cases e
  · rw [if_neg z] at e
    exact e
theorem wo_none (H : Hp) (p : Addr) : wo H p p = none := if_pos rfl
theorem wo_ne {H : Hp} {p b : Addr} (h : b ≠ p) : wo H p b = H b := if_neg h
theorem wo_of {H0 H : Hp} {p : Addr} (s : Same H0 H) (h : H0 p = none) : Same H0 (wo H p) := fun b x e => by
  rw [wo_ne (ne_of_none e h)]
  exact s b x e
theorem PairsAt.wo {H : Hp} {l p : Addr} {O : List Nat} {ps : List Addr} {x : List V} (P : PairsAt H l O ps) (h : H p = some (.lst x)) (hl : l ≠ p) : PairsAt (wo H p) l O ps := ⟨by rw [wo_ne hl]; exact P.d, P.len, fun s q e => by
  have := P.at_ s q e
  have hq : q ≠ p := fun z => by rw [z, h] at this; cases this
  rw [wo_ne hq]
  exact this⟩
def lowsN (O : List Nat) (i : Nat) : List Nat := (List.range i).map (loN O)
def highsN (O : List Nat) (i : Nat) : List Nat := (List.range i).map (hiN O)
theorem lowsN_succ (O : List Nat) (i : Nat) : lowsN O (i + 1) = lowsN O i ++ [loN O i] := by unfold lowsN; rw [List.range_succ, List.map_append]; rfl
theorem highsN_succ (O : List Nat) (i : Nat) : highsN O (i + 1) = highsN O i ++ [hiN O i] := by unfold highsN; rw [List.range_succ, List.map_append]; rfl
theorem lowsN_len (O : List Nat) (i : Nat) : (lowsN O i).length = i := by simp [lowsN]
theorem highsN_len (O : List Nat) (i : Nat) : (highsN O i).length = i := by simp [highsN]
def sp_l_right (K : PySem.W.Frag) : Sp := fun vs H Q _ => ∃ (H0 : Hp) (ls lo : Addr) (O : List Nat) (st : Int), vs = [.ref ls, .ref lo] ∧ H0 ls = none ∧ Same H0 H ∧ H ls = some (.lst [.int st]) ∧ 0 ≤ st ∧ st < 2147483647 ∧ H0 lo = some (.lst (vN O)) ∧ OrdL O ∧ ∀ H', Same H0 H' → Q (.bl true) H'
abbrev N_l_right : List Str := ["_law_state", "_law_order_here", "_law_pairs", "_law_rows", "_law_many", "_law_ship", "_law_low", "_law_high", "_law_row", "_law_found", "_law_at", "_law_wish", "_law_other"]
def t_l_right (K : PySem.W.Frag) (a : Ad) : TS :=
  (tSeq (tAsg (tCall (sp_reaches K a) [] E0 (tCons (tCB (rListOf K) (tCons (tVar 1) tNil)) tNil)) (gName 2))
    (tSeq (tIfS (tOr (tNot (tB (tCB (rIsi K) (tCons (tVar 2) (tCons (tC (.ty "list")) tNil))))) (tTest (tOp rNe (tCB (rLenSq K) (tCons (tVar 2) tNil)) (tCB (rLenSq K) (tCons (tVar 1) tNil))))) (tRet (tC (.bl false))) tNext)
    (tSeq (tAsg (tLst (tCons (tLst tNil) (tCons (tLst tNil) (tCons (tLst tNil) tNil)))) (gName 3))
    (tSeq (tAsg (tC (.int 1)) (gName 4))
    (tSeq (tFor (iRng1 (tCons (tCB (rLenSq K) (tCons (tVar 1) tNil)) tNil)) (gName 5)
    (tSeq (tAsg (tOp (rIxL K) (tVar 2) (tVar 5)) (gTup K 2 (gCons (gName 6) (gCons (gName 7) gNil))))
    (tSeq (tIfS (tOr (tNot (tB (tCB (rIsi K) (tCons (tOp (rIxL K) (tVar 2) (tVar 5)) (tCons (tC (.ty "tuple")) tNil))))) (tOr (tNot (tTest (tChain rLeI rLeI (tC (.int 1)) (tVar 6) (tVar 7)))) (tTest (tOp rNe (tVar 7) (tOp rAddI (tBM K "list" (rIndex K) (tVar 1) (tCons (tVar 5) tNil)) (tC (.int 1))))))) (tRet (tC (.bl false))) tNext)
    (tSeq (tAsg (tOp rMulI (tVar 4) (tOp rSubI (tOp rAddI (tVar 7) (tC (.int 1))) (tVar 6))) (gName 4))
    (tSeq (tDrop (tBM K "list" rAppend (tOp (rIxL K) (tVar 3) (tC (.int 0))) (tCons (tVar 6) tNil)))
    (tSeq (tDrop (tBM K "list" rAppend (tOp (rIxL K) (tVar 3) (tC (.int 1))) (tCons (tVar 7) tNil)))
    (tDrop (tBM K "list" rAppend (tOp (rIxL K) (tVar 3) (tC (.int 2))) (tCons (tOp rAddI (tVar 6) (tOp rModI (tCall (sp_l_mix K) [] E0 (tCons (tVar 0) (tCons (tVar 5) tNil))) (tOp rSubI (tOp rAddI (tVar 7) (tC (.int 1))) (tVar 6)))) tNil)))))))))
    (tSeq (tFor (iList K (tVar 3)) (gName 8)
    (tIfS (tTest (tOp (rNeT K) (tCall (sp_lies K a) [] E0 (tCons (tVar 8) tNil)) (tCB (rTupleOf K) (tCons (tVar 1) tNil)))) (tRet (tC (.bl false))) tNext))
    (tSeq (tAsg (tCall (sp_rows_to K a) [] E0 (tCons (tCB (rTupleOf K) (tCons (tVar 1) tNil)) tNil)) (gName 9))
    (tSeq (tIfS (tOr (tNot (tB (tCall (sp_l_whole K) [] E0 (tCons (tVar 9) tNil)))) (tTest (tOp rNe (tVar 9) (tVar 4)))) (tRet (tC (.bl false))) tNext)
    (tSeq (tAsg (tOp rModI (tCall (sp_l_mix K) [] E0 (tCons (tVar 0) (tCons (tC (.int 1)) tNil))) (tCB (rLenSq K) (tCons (tVar 1) tNil))) (gName 10))
    (tSeq (tFor (iList K (tLst (tCons (tOp rSubI (tOp (rIxT K) (tOp (rIxL K) (tVar 2) (tVar 10)) (tC (.int 0))) (tC (.int 1))) (tCons (tOp rAddI (tOp (rIxT K) (tOp (rIxL K) (tVar 2) (tVar 10)) (tC (.int 1))) (tC (.int 1))) tNil)))) (gName 11)
    (tSeq (tAsg (tOp rCat (tOp rCat (tSl (rSlL K) (tOp (rIxL K) (tVar 3) (tC (.int 2))) tNoPart (tPart (tVar 10))) (tLst (tCons (tVar 11) tNil))) (tSl (rSlL K) (tOp (rIxL K) (tVar 3) (tC (.int 2))) (tPart (tOp rAddI (tVar 10) (tC (.int 1)))) tNoPart)) (gName 12))
    (tIfS (tAnd (tTest (tChain rLeI rLeI (tC (.int 1)) (tVar 11) (tCB (rLenSq K) (tCons (tVar 1) tNil)))) (tAnd (tB (tCall (sp_is_good K a) [] E0 (tCons (tCB (rLenSq K) (tCons (tVar 1) tNil)) (tCons (tVar 12) tNil)))) (tTest (tOp (rEqT K) (tCall (sp_lies K a) [] E0 (tCons (tVar 12) tNil)) (tCB (rTupleOf K) (tCons (tVar 1) tNil)))))) (tRet (tC (.bl false))) tNext)))
    (tRet (tC (.bl true)))))))))))))
theorem len_l_right {K : PySem.W.Frag} {vs : List V} {H : Hp} {Q : VK} {E : XK} (h : sp_l_right K vs H Q E) : vs.length = 2 := by
  obtain ⟨H0, ls, lo, O, st, rfl, _⟩ := h
  rfl
theorem eqV_int (x y : Nat) : eqV (.int (x : Int)) (.int (y : Int)) = decide (x = y) := by
  show decide ((x : Int) = (y : Int)) = decide (x = y)
  by_cases h : x = y
  · rw [decide_eq_true h, decide_eq_true (by omega)]
  · rw [decide_eq_false h, decide_eq_false (by omega)]
theorem flat_vN (O : List Nat) : (vN O).all flatV = true := by
  rw [List.all_eq_true]
  intro x hx
  obtain ⟨k, _, rfl⟩ := List.mem_map.mp hx
  rfl
theorem lead_nat {O R : List Nat} (h : OrdL O) (hl : R.length = O.length) (hw : ∀ s w, R[s]? = some w → loN O s ≤ w ∧ w ≤ hiN O s) : ∀ (s : Nat) (w : Int), (intL R)[s]? = some w → (loN O s : Int) ≤ w ∧ w ≤ hiN O s := fun s w e => by
  unfold intL at e
  rw [List.getElem?_map] at e
  cases e2 : R[s]? with
  | none => rw [e2] at e; cases e
  | some r =>
    rw [e2] at e
    have e : ((r : Nat) : Int) = w := Option.some.inj e
    have := hw s r e2
    omega
theorem range_map_at {f : Nat → Nat} {n s w : Nat} (h : ((List.range n).map f)[s]? = some w) : s < n ∧ w = f s := by
  obtain ⟨h1, h2⟩ := List.getElem?_eq_some_iff.mp h
  rw [List.length_map, List.length_range] at h1
  rw [List.getElem_map, List.getElem_range] at h2
  exact ⟨h1, h2.symm⟩
theorem slL_drop {K : PySem.W.Frag} {te tp : TE} {σ : L2.St} {H : Hp} {Q : VK} {p : Addr} {xs : List V} {k : Nat} (h1 : ∀ Q' : VK, Q' (.ref p) H → te σ H Q') (hs : SqL K H p xs) (h2 : ∀ Q' : VK, Q' (.int k) H → tp σ H Q') (q : ∀ l, H l = none → Q (.ref l) (upd H l (.lst (xs.drop k)))) :
    (tSl (rSlL K) te (tPart tp) tNoPart) σ H Q := h1 _ (h2 _ ⟨k, rfl, ⟨p, xs, rfl, hs, fun l nl => by rw [cut_drop]; exact q l nl⟩⟩)
theorem pu_l_right {K : PySem.W.Frag} {a : Ad} {vs : List V} {H : Hp} {Q : VK} {E : XK} (h : sp_l_right K vs H Q E) : t_l_right K a { nx := fun _ H' => Q .non H', rt := Q } (start N_l_right vs) H := by
  obtain ⟨H0, ls, lo, O, st, rfl, nls, s0, els, st0, st1, elo0, f, q⟩ := h
  obtain ⟨f1, f2, f3, f4⟩ := id f
  have elo := s0 _ _ elo0
  refine ⟨.ref lo, rfl, lo, _, rfl, .inl (sqL_of elo), fun h nh => ?_⟩
  have t1 := same_new nh (o := .lst (vN O))
  refine ⟨_, rfl, ChkO.ok (.inl (sqL_of upd_same)) f fun l2 ps H2 nl2 s2 P => ?_⟩
  have hl2s : l2 ≠ ls := fun z => by
    have := t1 _ _ els
    rw [z, this] at nl2
    cases nl2
  have els2 := s2 _ _ (t1 _ _ els)
  have s02 := (s0.trans t1).trans s2
  have hlos : lo ≠ ls := ne_of_none elo0 nls
  have sB0 := wo_of s02 nls
  have PB := P.wo els2 hl2s
  have eloB := sB0 _ _ elo0
  have nBls := wo_none H2 ls
  have sB2 := wo_same H2 ls
  generalize wo H2 ls = B at sB0 PB eloB nBls sB2
  clear P s2 nl2 t1 nh s02 els s0
  refine ⟨.ref l2, rfl, .ref l2, _, _, _, true, rfl, .ty _, .base (.lst (sB2 _ _ PB.d)), kit_ll, true, rfl, iteF ?_⟩
  refine ⟨.ref l2, rfl, l2, _, rfl, .inl (sqL_of (sB2 _ _ PB.d)), .ref lo, rfl, lo, _, rfl, .inl (sqL_of (sB2 _ _ eloB)), rfl, _, rfl, ?_⟩
  rw [List.length_map, PB.len, vN_len, decide_eq_true rfl]
  -- rows
  refine iteF ⟨Nat.zero_le _, fun r0 n0 => ⟨Nat.zero_le _, fun r1 n1 => ⟨Nat.zero_le _, fun r2 n2 => ⟨l1000 (by show 3 ≤ 1000; decide), fun D nD => ?_⟩⟩⟩⟩
  have u0 := same_new n0 (o := .lst [])
  have u1 := same_new n1 (o := .lst [])
  have u2 := same_new n2 (o := .lst [])
  have u3 := same_new nD (o := .lst [.ref r0, .ref r1, .ref r2])
  have e0 : (upd H2 r0 (.lst [])) r0 = some (.lst []) := upd_same
  have e1 : (upd (upd H2 r0 (.lst [])) r1 (.lst [])) r1 = some (.lst []) := upd_same
  have e2 : (upd (upd (upd H2 r0 (.lst [])) r1 (.lst [])) r2 (.lst [])) r2 = some (.lst []) := upd_same
  have els3 := u0 _ _ els2
  have els4 := u1 _ _ els3
  have els5 := u2 _ _ els4
  have els6 := u3 _ _ els5
  have h0s : r0 ≠ ls := fun z => by rw [z, els2] at n0; cases n0
  have h1s : r1 ≠ ls := fun z => by rw [z, els3] at n1; cases n1
  have h2s : r2 ≠ ls := fun z => by rw [z, els4] at n2; cases n2
  have hDs : D ≠ ls := fun z => by rw [z, els5] at nD; cases nD
  have h01 : r0 ≠ r1 := ne_of_none e0 n1
  have e0' := u1 _ _ e0
  have h02 : r0 ≠ r2 := ne_of_none e0' n2
  have h12 : r1 ≠ r2 := ne_of_none e1 n2
  have e0'' := u2 _ _ e0'
  have e1' := u2 _ _ e1
  have h0D : r0 ≠ D := ne_of_none e0'' nD
  have h1D : r1 ≠ D := ne_of_none e1' nD
  have h2D : r2 ≠ D := ne_of_none e2 nD
  have nB0 : B r0 = none := sB2.free n0
  have nB1 : B r1 = none := (sB2.trans u0).free n1
  have nB2 : B r2 = none := ((sB2.trans u0).trans u1).free n2
  have nBD : B D = none := (((sB2.trans u0).trans u1).trans u2).free nD
  have sB6 := (((sB2.trans u0).trans u1).trans u2).trans u3
  have er0 := u3 _ _ e0''
  have er1 := u3 _ _ e1'
  have er2 := u3 _ _ e2
  have eD : (upd (upd (upd (upd H2 r0 (.lst [])) r1 (.lst [])) r2 (.lst [])) D (.lst [.ref r0, .ref r1, .ref r2])) D = some (.lst [.ref r0, .ref r1, .ref r2]) := upd_same
  generalize (upd (upd (upd (upd H2 r0 (.lst [])) r1 (.lst [])) r2 (.lst [])) D (.lst [.ref r0, .ref r1, .ref r2])) = H6 at sB6 er0 er1 er2 eD els6
  clear u0 u1 u2 u3 e0 e1 e2 e0' e0'' e1' n0 n1 n2 nD els2 els3 els4 els5 sB2
  refine ⟨.ref lo, rfl, lo, _, rfl, .inl (sqL_of (sB6 _ _ eloB)), _, rfl, by rw [vN_len]; omega, by rw [vN_len]; omega, ?_⟩
  have en : ((((vN O).length : Nat) : Int)).toNat = O.length := by rw [vN_len]; omega
  rw [en]
  refine for_range (fun i σ H' => (∃ y5 y6 y7, σ = [some (.ref ls), some (.ref lo), some (.ref l2), some (.ref D), some (.int (prodO O i)), y5, y6, y7, none, none, none, none, none]) ∧ Same B H' ∧ (∃ st : Int, H' ls = some (.lst [.int st]) ∧ 0 ≤ st ∧ st < 2147483647) ∧ H' D = some (.lst [.ref r0, .ref r1, .ref r2]) ∧
    H' r0 = some (.lst (vN (lowsN O i))) ∧ H' r1 = some (.lst (vN (highsN O i))) ∧ ∃ ms : List Nat, H' r2 = some (.lst (vN ms)) ∧ ms.length = i ∧ ∀ s w, ms[s]? = some w → loN O s ≤ w ∧ w ≤ hiN O s)
    ⟨⟨none, none, none, rfl⟩, sB6, ⟨st, els6, st0, st1⟩, eD, er0, er1, [], er2, rfl, fun s w h => by simp at h⟩ ?_ ?_
  · rintro i σ H7 hi ⟨⟨y5, y6, y7, rfl⟩, s7, ⟨st, els7, st0, st1⟩, eD7, er07, er17, ms, er27, hms, hmb⟩
    have ei : (0 : Int) + (i : Int) = ((i : Nat) : Int) := by omega
    rw [ei]
    obtain ⟨pa, epa⟩ : ∃ pa, ps[i]? = some pa := ⟨_, List.getElem?_eq_getElem (by rw [PB.len]; exact hi)⟩
    have P7 := PB.same s7
    have ep7 := P7.at_ i pa epa
    have elo7 := s7 _ _ eloB
    have epx : (ps.map V.ref)[i]? = some (.ref pa) := by rw [List.getElem?_map, epa]; rfl
    have hb := hi_bd f hi
    have lb := lo_bd O i
    have hat := hi_at f hi
    refine ⟨.ref l2, rfl, .int (i : Int), rfl, l2, _, _, .ref pa, rfl, rfl, sqL_of P7.d, at_of (j := i) rfl epx, pa, _, rfl, sqT_of ep7, rfl, _, _, rfl, _, _, rfl, rfl, ?_⟩
    refine ⟨.ref l2, rfl, .int (i : Int), rfl, l2, _, _, .ref pa, rfl, rfl, sqL_of P7.d, at_of (j := i) rfl epx, .ref pa, _, _, _, true, rfl, .ty _, tyX_tup (sqT_of ep7), kit_tt, true, rfl, iteF ?_⟩
    refine ⟨_, rfl, 1, _, rfl, rfl, _, rfl, ?_⟩
    rw [decide_eq_true (show (1 : Int) ≤ ((loN O i : Nat) : Int) by omega)]
    refine iteT ⟨_, rfl, _, _, rfl, rfl, _, rfl, ?_⟩
    rw [decide_eq_true (show ((loN O i : Nat) : Int) ≤ ((hiN O i : Nat) : Int) by omega)]
    refine iteF ⟨_, rfl, .ref lo, rfl, .inl ⟨rfl, _, sqL_of elo7⟩, .int (i : Int), rfl, lo, _, _, hiN O i - 1, .int (i : Int), rfl, rfl, sqL_of elo7, rfl, flat_vN O, vN_at hat, (eqV_int _ _).trans (decide_eq_true rfl), fun m z hm hz => ?_, _, 1, rfl, rfl, rfl, _, rfl, ?_⟩
    · obtain ⟨k, hk, rfl⟩ := vN_item hz
      rw [eqV_int]
      refine decide_eq_false fun y => ?_
      subst y
      have := ord_hi f hk
      omega
    have eh : ((hiN O i - 1 : Nat) : Int) + 1 = ((hiN O i : Nat) : Int) := by omega
    have hd : decide (V.int ((hiN O i : Nat) : Int) = V.int (((hiN O i - 1 : Nat) : Int) + 1)) = true := decide_eq_true (by rw [eh])
    show (if (!decide (V.int ((hiN O i : Nat) : Int) = V.int (((hiN O i - 1 : Nat) : Int) + 1))) = true then _ else _)
    rw [hd]
    refine iteF ⟨_, rfl, _, rfl, _, 1, rfl, rfl, _, rfl, _, _, rfl, rfl, _, _, rfl, rfl, .inr ⟨by omega, by omega⟩, ?_⟩
    have em : prodO O i * (((hiN O i : Nat) : Int) + 1 - ((loN O i : Nat) : Int)) = prodO O (i + 1) := by
      rw [prodO_succ]
      congr 1
      omega
    show tSeq _ _ _ [some (.ref ls), some (.ref lo), some (.ref l2), some (.ref D), some (.int (prodO O i * (((hiN O i : Nat) : Int) + 1 - ((loN O i : Nat) : Int)))), some (.int (i : Int)), some (.int (loN O i : Nat)), some (.int (hiN O i : Nat)), none, none, none, none, none] H7
    rw [em]
    -- rows[0].append(low)
    refine ⟨.ref D, rfl, D, _, 0, .ref r0, rfl, rfl, sqL_of eD7, atI_nat (j := 0) rfl, .inl ⟨rfl, _, sqL_of er07⟩, _, rfl, r0, _, _, rfl, rfl, er07, by rw [vN_len, lowsN_len]; exact small1000 (by omega), ?_⟩
    have eD8 : (upd H7 r0 (.lst (vN (lowsN O i) ++ [.int (loN O i : Nat)]))) D = some (.lst [.ref r0, .ref r1, .ref r2]) := by rw [upd_ne h0D.symm]; exact eD7
    have er18 : (upd H7 r0 (.lst (vN (lowsN O i) ++ [.int (loN O i : Nat)]))) r1 = some (.lst (vN (highsN O i))) := by rw [upd_ne h01.symm]; exact er17
    have er28 : (upd H7 r0 (.lst (vN (lowsN O i) ++ [.int (loN O i : Nat)]))) r2 = some (.lst (vN ms)) := by rw [upd_ne h02.symm]; exact er27
    have els8 : (upd H7 r0 (.lst (vN (lowsN O i) ++ [.int (loN O i : Nat)]))) ls = some (.lst [.int st]) := by rw [upd_ne h0s.symm]; exact els7
    have er08 : (upd H7 r0 (.lst (vN (lowsN O i) ++ [.int (loN O i : Nat)]))) r0 = some (.lst (vN (lowsN O (i + 1)))) := by rw [upd_same, lowsN_succ, vN_app]; rfl
    have s8 := s7.store nB0 (o := .lst (vN (lowsN O i) ++ [.int (loN O i : Nat)]))
    generalize (upd H7 r0 (.lst (vN (lowsN O i) ++ [.int (loN O i : Nat)]))) = H8 at eD8 er08 er18 er28 els8 s8
    refine ⟨.ref D, rfl, D, _, 1, .ref r1, rfl, rfl, sqL_of eD8, atI_nat (j := 1) rfl, .inl ⟨rfl, _, sqL_of er18⟩, _, rfl, r1, _, _, rfl, rfl, er18, by rw [vN_len, highsN_len]; exact small1000 (by omega), ?_⟩
    have eD9 : (upd H8 r1 (.lst (vN (highsN O i) ++ [.int (hiN O i : Nat)]))) D = some (.lst [.ref r0, .ref r1, .ref r2]) := by rw [upd_ne h1D.symm]; exact eD8
    have er09 : (upd H8 r1 (.lst (vN (highsN O i) ++ [.int (hiN O i : Nat)]))) r0 = some (.lst (vN (lowsN O (i + 1)))) := by rw [upd_ne h01]; exact er08
    have er29 : (upd H8 r1 (.lst (vN (highsN O i) ++ [.int (hiN O i : Nat)]))) r2 = some (.lst (vN ms)) := by rw [upd_ne h12.symm]; exact er28
    have els9 : (upd H8 r1 (.lst (vN (highsN O i) ++ [.int (hiN O i : Nat)]))) ls = some (.lst [.int st]) := by rw [upd_ne h1s.symm]; exact els8
    have er19 : (upd H8 r1 (.lst (vN (highsN O i) ++ [.int (hiN O i : Nat)]))) r1 = some (.lst (vN (highsN O (i + 1)))) := by rw [upd_same, highsN_succ, vN_app]; rfl
    have s9 := s8.store nB1 (o := .lst (vN (highsN O i) ++ [.int (hiN O i : Nat)]))
    generalize (upd H8 r1 (.lst (vN (highsN O i) ++ [.int (hiN O i : Nat)]))) = H9 at eD9 er09 er19 er29 els9 s9
    refine ⟨.ref D, rfl, D, _, 2, .ref r2, rfl, rfl, sqL_of eD9, atI_nat (j := 2) rfl, .inl ⟨rfl, _, sqL_of er29⟩, _, rfl, .ref ls, rfl, .int (i : Int), rfl, ls, st, (i : Int), rfl, els9, st0, st1, fun st' r g0 g1 q0 q1 => ?_⟩
    have hpos : (0 : Int) < ((hiN O i : Nat) : Int) + 1 - ((loN O i : Nat) : Int) := by omega
    have c1 := Int.emod_nonneg r (show ((hiN O i : Nat) : Int) + 1 - ((loN O i : Nat) : Int) ≠ 0 by omega)
    have c2 := Int.emod_lt_of_pos r hpos
    refine ⟨_, rfl, _, 1, rfl, rfl, _, rfl, _, _, rfl, rfl, r, _, rfl, rfl, hpos, _, _, rfl, rfl, r2, _, _, rfl, rfl, by rw [upd_ne h2s]; exact er29, by rw [vN_len, hms]; exact small1000 (by omega), ?_⟩
    have e12 : ((loN O i : Nat) : Int) + r % (((hiN O i : Nat) : Int) + 1 - ((loN O i : Nat) : Int)) = (((((loN O i : Nat) : Int) + r % (((hiN O i : Nat) : Int) + 1 - ((loN O i : Nat) : Int))).toNat : Nat) : Int) := by omega
    generalize hw : (((loN O i : Nat) : Int) + r % (((hiN O i : Nat) : Int) + 1 - ((loN O i : Nat) : Int))).toNat = w at e12
    have hwb : loN O i ≤ w ∧ w ≤ hiN O i := by omega
    refine ⟨⟨_, _, _, rfl⟩, (s9.store nBls).store nB2, ⟨st', by rw [upd_ne h2s.symm, upd_same], g0, g1⟩, by rw [upd_ne h2D.symm, upd_ne hDs]; exact eD9, by rw [upd_ne h02, upd_ne h0s]; exact er09, by rw [upd_ne h12, upd_ne h1s]; exact er19, ms ++ [w], ?_, by rw [List.length_append, hms]; rfl, fun s x hx => ?_⟩
    · rw [upd_same, vN_app]
      show some (HO.lst (vN ms ++ [V.int (((loN O i : Nat) : Int) + r % (((hiN O i : Nat) : Int) + 1 - ((loN O i : Nat) : Int)))])) = _
      rw [e12]
      rfl
    · by_cases z : s < ms.length
      · rw [List.getElem?_append_left z] at hx
        exact hmb s x hx
      · have hs' := (List.getElem?_eq_some_iff.mp hx).1
        rw [List.length_append, List.length_singleton] at hs'
        have : s = i := by omega
        subst this
        rw [List.getElem?_append_right (by omega), hms, Nat.sub_self] at hx
        cases hx
        exact hwb
  rintro σ H7 ⟨⟨y5, y6, y7, rfl⟩, s7, ⟨st, els7, st0, st1⟩, eD7, er07, er17, ms, er27, hms, hmb⟩
  -- each of the rows lies so
  refine ⟨.ref D, rfl, D, rfl, ⟨_, sqL_of eD7⟩, for_list (K := K) (a := D) (fun i σ H' => (∃ y8, σ = [some (.ref ls), some (.ref lo), some (.ref l2), some (.ref D), some (.int (prodO O O.length)), y5, y6, y7, y8, none, none, none, none]) ∧ Same H7 H') ⟨⟨none, rfl⟩, Same.refl _⟩ (fun i σ H' _ p => sqL_of (p.2 _ _ eD7)) ?_ ?_⟩
  · rintro i x σ H8 hx ⟨⟨y8, rfl⟩, s8⟩
    obtain ⟨rr, R, rfl, eR, hRl, hRw⟩ : ∃ (rr : Addr) (R : List Nat), x = .ref rr ∧ H7 rr = some (.lst (vN R)) ∧ R.length = O.length ∧ ∀ s w, R[s]? = some w → loN O s ≤ w ∧ w ≤ hiN O s := by
      match i, hx with
      | 0, hx => cases hx; exact ⟨r0, _, rfl, er07, lowsN_len _ _, fun s w e => by obtain ⟨_, rfl⟩ := range_map_at e; have := lo_bd O s; omega⟩
      | 1, hx => cases hx; exact ⟨r1, _, rfl, er17, highsN_len _ _, fun s w e => by obtain ⟨_, rfl⟩ := range_map_at e; have := lo_bd O s; omega⟩
      | 2, hx => cases hx; exact ⟨r2, _, rfl, er27, hms, hmb⟩
      | i + 3, hx => cases hx
    obtain ⟨hF, hpl⟩ := lead f (ws := intL R) (by rw [intL_len]; exact hRl) (lead_nat f hRl hRw)
    refine ⟨.ref rr, rfl, _, rfl, ChkF.ok (ws := intL R) (by rw [intL_V]; exact .inl (sqL_of (s8 _ _ eR))) hF fun t H9 L nt s9 et hL => ?_⟩
    have eL := lies_is f (by rw [intL_len]; exact hRl) hL hpl
    subst eL
    have elo9 := s9 _ _ (s8 _ _ (s7 _ _ eloB))
    refine ⟨.ref lo, rfl, lo, _, rfl, .inl ⟨sqL_of elo9, fun u nu => ?_⟩⟩
    refine neT_of (dp_tupN (sqT_of (same_new nu _ _ et))) (dp_tupN (sqT_of upd_same)) (by decide) ⟨_, rfl, ?_⟩
    rw [decide_eq_false (fun z => z rfl)]
    exact iteF ⟨⟨_, rfl⟩, (s8.trans s9).trans (same_new nu)⟩
  rintro σ H8 ⟨⟨y8, rfl⟩, s8⟩
  have els8 := s8 _ _ els7
  have eD8 := s8 _ _ eD7
  have er28 := s8 _ _ er27
  have sB8 := s7.trans s8
  -- rows_to
  have elo8 := sB8 _ _ eloB
  refine ⟨.ref lo, rfl, lo, _, rfl, .inl ⟨sqL_of elo8, fun t nt => ⟨_, rfl, ChkO.ok (.inr (sqT_of upd_same)) f fun H9 s9 => ?_⟩⟩⟩
  have s89 := (same_new nt).trans s9
  have els9 := s89 _ _ els8
  have eD9 := s89 _ _ eD8
  have er29 := s89 _ _ er28
  have sB9 := sB8.trans s89
  clear s89 s9 nt sB8 elo8 els8 eD8 er28 s8 s7 eD7 er07 er17 er27 els7 sB6 er0 er1 er2 eD els6
  refine ⟨_, rfl, _, rfl, true, rfl, iteF ⟨_, rfl, _, rfl, rfl, _, rfl, ?_⟩⟩
  rw [decide_eq_true rfl]
  -- at
  refine iteF ⟨.ref ls, rfl, ls, st, 1, rfl, els9, st0, st1, fun st' r g0 g1 q0 q1 => ?_⟩
  have sB10 := sB9.store nBls (o := .lst [.int st'])
  have eD10 : (upd H9 ls (.lst [.int st'])) D = some (.lst [.ref r0, .ref r1, .ref r2]) := by rw [upd_ne hDs]; exact eD9
  have er210 : (upd H9 ls (.lst [.int st'])) r2 = some (.lst (vN ms)) := by rw [upd_ne h2s]; exact er29
  generalize (upd H9 ls (.lst [.int st'])) = H10 at sB10 eD10 er210
  have elo10 := sB10 _ _ eloB
  have hn0 : (0 : Int) < ((vN O).length : Nat) := by rw [vN_len]; omega
  refine ⟨.ref lo, rfl, lo, _, rfl, .inl (sqL_of elo10), r, _, rfl, rfl, hn0, ?_⟩
  have c1 := Int.emod_nonneg r (show (((vN O).length : Nat) : Int) ≠ 0 by omega)
  have c2 := Int.emod_lt_of_pos r hn0
  obtain ⟨j, ej, hj⟩ : ∃ j : Nat, r % (((vN O).length : Nat) : Int) = (j : Int) ∧ j < O.length := ⟨(r % (((vN O).length : Nat) : Int)).toNat, by omega, by rw [vN_len] at c2 ⊢; omega⟩
  show tSeq _ _ _ [some (.ref ls), some (.ref lo), some (.ref l2), some (.ref D), some (.int (prodO O O.length)), y5, y6, y7, y8, some (.int (prodO O O.length)), some (.int (r % (((vN O).length : Nat) : Int))), none, none] H10
  rw [ej]
  have P10 := PB.same sB10
  obtain ⟨pa, epa⟩ : ∃ pa, ps[j]? = some pa := ⟨_, List.getElem?_eq_getElem (by rw [PB.len]; exact hj)⟩
  have ep10 := P10.at_ j pa epa
  have epx : (ps.map V.ref)[j]? = some (.ref pa) := by rw [List.getElem?_map, epa]; rfl
  refine ⟨.ref l2, rfl, .int (j : Int), rfl, l2, _, _, .ref pa, rfl, rfl, sqL_of P10.d, at_of (j := j) rfl epx, pa, _, 0, _, rfl, rfl, sqT_of ep10, atI_nat (j := 0) rfl, _, 1, rfl, rfl,
    .ref l2, rfl, .int (j : Int), rfl, l2, _, _, .ref pa, rfl, rfl, sqL_of P10.d, at_of (j := j) rfl epx, pa, _, 1, _, rfl, rfl, sqT_of ep10, atI_nat (j := 1) rfl, _, 1, rfl, rfl, l1000 (by show 2 ≤ 1000; decide), fun lw nlw => ?_⟩
  have s11 := same_new nlw (o := .lst [.int (((loN O j : Nat) : Int) - 1), .int (((hiN O j : Nat) : Int) + 1)])
  have elw : (upd H10 lw (.lst [.int (((loN O j : Nat) : Int) - 1), .int (((hiN O j : Nat) : Int) + 1)])) lw = some (.lst [.int (((loN O j : Nat) : Int) - 1), .int (((hiN O j : Nat) : Int) + 1)]) := upd_same
  have eD11 := s11 _ _ eD10
  have er211 := s11 _ _ er210
  have elo11 := s11 _ _ elo10
  have sB11 := sB10.trans s11
  refine ⟨lw, rfl, ⟨_, sqL_of elw⟩, for_list (K := K) (a := lw) (xs := [.int (((loN O j : Nat) : Int) - 1), .int (((hiN O j : Nat) : Int) + 1)]) (fun i σ H' => (∃ y11 y12, σ = [some (.ref ls), some (.ref lo), some (.ref l2), some (.ref D), some (.int (prodO O O.length)), y5, y6, y7, y8, some (.int (prodO O O.length)), some (.int (j : Int)), y11, y12]) ∧ Same (upd H10 lw (.lst [.int (((loN O j : Nat) : Int) - 1), .int (((hiN O j : Nat) : Int) + 1)])) H') ⟨⟨none, none, rfl⟩, Same.refl _⟩ (fun i σ H' _ p => sqL_of (p.2 _ _ elw)) ?_ (fun σ H' p => q H' ((sB0.trans sB11).trans p.2))⟩
  generalize (upd H10 lw (.lst [.int (((loN O j : Nat) : Int) - 1), .int (((hiN O j : Nat) : Int) + 1)])) = H11 at eD11 er211 elo11 sB11 elw
  rintro i x σ H12 hx ⟨⟨y11, y12, rfl⟩, s12⟩
  obtain ⟨w, rfl, hw⟩ : ∃ w : Int, x = .int w ∧ (w = ((hiN O j : Nat) : Int) + 1 ∨ w = ((loN O j : Nat) : Int) - 1) := by
    match i, hx with
    | 0, hx => cases hx; exact ⟨_, rfl, .inr rfl⟩
    | 1, hx => cases hx; exact ⟨_, rfl, .inl rfl⟩
    | i + 2, hx => cases hx
  have eD12 := s12 _ _ eD11
  have er212 := s12 _ _ er211
  -- other
  refine ⟨.ref D, rfl, D, _, 2, .ref r2, rfl, rfl, sqL_of eD12, atI_nat (j := 2) rfl, .int (j : Int), rfl, _, rfl, r2, _, rfl, sqL_of er212, fun p1 np1 => ⟨.int w, rfl, l1000 (by show 1 ≤ 1000; decide), fun p2 np2 => ?_⟩⟩
  have v1 := same_new np1 (o := .lst (cutV (vN ms) none (some (j : Int))))
  have v2 := same_new np2 (o := .lst [.int w])
  refine ⟨p1, p2, _, _, rfl, rfl, v2 _ _ upd_same, upd_same, ?_, fun p3 np3 => ?_⟩
  · rw [cut_take1]
    refine l1000 ?_
    rw [List.length_take]
    show _ + 1 ≤ 1000
    rw [vN_len]
    omega
  have v3 := same_new np3 (o := .lst (cutV (vN ms) none (some (j : Int)) ++ [.int w]))
  have v13 := (v1.trans v2).trans v3
  have eD15 := v13 _ _ eD12
  have er215 := v13 _ _ er212
  change (tSl (rSlL K) (tOp (rIxL K) (tVar 3) (tC (.int 2))) (tPart (tOp rAddI (tVar 10) (tC (.int 1)))) tNoPart) _ _ _
  have ej1 : (j : Int) + 1 = ((j + 1 : Nat) : Int) := by omega
  refine slL_drop (p := r2) (xs := vN ms) (k := j + 1) (fun Q' q' => ⟨.ref D, rfl, D, _, 2, .ref r2, rfl, rfl, sqL_of eD15, atI_nat (j := 2) rfl, q'⟩) (sqL_of er215) (fun Q' q' => ⟨.int (j : Int), rfl, _, 1, rfl, rfl, q'⟩) fun p4 np4 => ?_
  have v4 := same_new np4 (o := .lst ((vN ms).drop (j + 1)))
  refine ⟨p3, p4, _, _, rfl, rfl, v4 _ _ upd_same, upd_same, ?_, fun p5 np5 => ?_⟩
  · rw [cut_take1]
    refine l1000 ?_
    rw [List.length_append, List.length_take, List.length_drop, vN_len]
    show _ + 1 + _ ≤ 1000
    omega
  have v5 := same_new np5 (o := .lst (cutV (vN ms) none (some (j : Int)) ++ [.int w] ++ (vN ms).drop (j + 1)))
  have eo := upd_same (H := (upd (upd (upd (upd H12 p1 (.lst (cutV (vN ms) none (some (j : Int))))) p2 (.lst [.int w])) p3 (.lst (cutV (vN ms) none (some (j : Int)) ++ [.int w]))) p4 (.lst ((vN ms).drop (j + 1))))) (a := p5) (o := .lst (cutV (vN ms) none (some (j : Int)) ++ [.int w] ++ (vN ms).drop (j + 1)))
  have v15 := (v13.trans v4).trans v5
  have eset : cutV (vN ms) none (some (j : Int)) ++ [V.int w] ++ (vN ms).drop (j + 1) = ((intL ms).set j w).map V.int := by
    rw [cut_take1, List.map_set, intL_V, List.set_eq_take_append_cons_drop, if_pos (by rw [vN_len]; omega)]
    simp
  suffices rest : ∀ H', Same H12 H' → H' p5 = some (.lst (((intL ms).set j w).map V.int)) → _ from rest _ v15 (upd_same.trans (by rw [eset]))
  clear v15 eo v5 v4 v13 v3 v2 v1 np1 np2 np3 np4 np5 eD15 er215
  intro H16 v16 eo16
  have elo16 := v16 _ _ (s12 _ _ elo11)
  have fin : ∀ H', Same H16 H' → (∃ y11 y12, [some (V.ref ls), some (.ref lo), some (.ref l2), some (.ref D), some (.int (prodO O O.length)), y5, y6, y7, y8, some (.int (prodO O O.length)), some (.int (j : Int)), some (.int w), some (.ref p5)] = [some (V.ref ls), some (.ref lo), some (.ref l2), some (.ref D), some (.int (prodO O O.length)), y5, y6, y7, y8, some (.int (prodO O O.length)), some (.int (j : Int)), y11, y12]) ∧ Same H11 H' := fun H' s => ⟨⟨_, _, rfl⟩, (s12.trans v16).trans s⟩
  have hol : ((intL ms).set j w).length = O.length := by rw [List.length_set, intL_len, hms]
  refine ⟨_, rfl, 1, _, rfl, rfl, _, rfl, ?_⟩
  by_cases w1 : (1 : Int) ≤ w
  case neg =>
    rw [decide_eq_false w1]
    exact iteF ⟨_, rfl, iteF (iteF (fin H16 (Same.refl _)))⟩
  rw [decide_eq_true w1]
  refine iteT ⟨.ref lo, rfl, lo, _, rfl, .inl (sqL_of elo16), _, _, rfl, rfl, _, rfl, ?_⟩
  rw [vN_len]
  by_cases w2 : w ≤ ((O.length : Nat) : Int)
  case neg =>
    rw [decide_eq_false w2]
    exact iteF (iteF (fin H16 (Same.refl _)))
  rw [decide_eq_true w2]
  have hob : ∀ x ∈ (intL ms).set j w, 1 ≤ x ∧ x ≤ ((O.length : Nat) : Int) := fun x hx => by
    rcases List.mem_or_eq_of_mem_set hx with hx | hx
    · obtain ⟨k, hk, rfl⟩ := List.mem_map.mp hx
      obtain ⟨s, hs, es⟩ := List.getElem_of_mem hk
      have := hmb s k (by rw [List.getElem?_eq_getElem hs, es])
      have lb := lo_bd O s
      have := hi_bd f (show s < O.length by omega)
      omega
    · omega
  refine iteT ⟨.ref lo, rfl, lo, _, rfl, .inl (sqL_of elo16), .ref p5, rfl, _, _, rfl, ?_⟩
  rw [vN_len]
  refine ChkW.ok f1 f2 (.inl (sqL_of eo16)) (by omega) hob fun H17 s17 => ⟨_, rfl, ?_⟩
  cases eg : crowdedL O.length ((intL ms).set j w) with
  | some _ => exact iteF (iteF (fin H17 s17))
  | none =>
    have hF : FullW ((intL ms).set j w) := ⟨by omega, by omega, fun x hx => by rw [hol]; exact hob x hx, by rw [hol]; exact eg⟩
    refine iteT ⟨.ref p5, rfl, _, rfl, ChkF.ok (.inl (sqL_of (s17 _ _ eo16))) hF fun t H18 L nt s18 et hL => ?_⟩
    have elo18 := s18 _ _ (s17 _ _ elo16)
    refine ⟨.ref lo, rfl, lo, _, rfl, .inl ⟨sqL_of elo18, fun u nu => ?_⟩⟩
    refine eqT_of (dp_tupN (sqT_of (same_new nu _ _ et))) (dp_tupN (sqT_of upd_same)) (by decide) ⟨_, rfl, ?_⟩
    have hne : ¬ (PySem.W.Tup.mk (intL L) = PySem.W.Tup.mk (intL O)) := fun z => by
      have z : intL L = intL O := by injection z
      have e : L = O := by rw [← natL_intL L, ← natL_intL O, z]
      subst e
      exact not_lead f hol (fun x hx => by rw [hol]; exact hob x hx) hj (List.getElem?_set_self (by rw [intL_len, hms]; exact hj)) hw (lies_back f hol hF hL)
    rw [decide_eq_false hne]
    exact iteF (fin _ ((s17.trans s18).trans (same_new nu)))

/-! ### the law: who lies where -/
theorem q7 : (0 : Int) < 7 := by decide
theorem q8 : (0 : Int) < 8 := by decide
theorem q40 : (0 : Int) < 40 := by decide
theorem e8 {n : Int} : CDiv n 8 := ⟨by decide, by decide⟩
theorem e7 {n : Int} : CDiv n 7 := ⟨by decide, by decide⟩
theorem qst : (0 : Int) < 2147483646 := by decide
theorem many_40 (c : Int) : ∃ m : Nat, atI [V.int (1 + c % 7), V.int (1 + c / 8 % 40)] (c % 8 / 7) = some (.int m) ∧ 1 ≤ m ∧ m ≤ 40 := by
  have b1 := Int.emod_nonneg c (show (7 : Int) ≠ 0 by decide)
  have b2 := Int.emod_lt_of_pos c q7
  have b3 := Int.emod_nonneg (c / 8) (show (40 : Int) ≠ 0 by decide)
  have b4 := Int.emod_lt_of_pos (c / 8) q40
  have h : c % 8 / 7 = 0 ∨ c % 8 / 7 = 1 := by omega
  rcases h with h | h <;> rw [h]
  · refine ⟨(1 + c % 7).toNat, ?_, by omega, by omega⟩
    have : (((1 + c % 7).toNat : Nat) : Int) = 1 + c % 7 := by omega
    rw [this]
    rfl
  · refine ⟨(1 + c / 8 % 40).toNat, ?_, by omega, by omega⟩
    have : (((1 + c / 8 % 40).toNat : Nat) : Int) = 1 + c / 8 % 40 := by omega
    rw [this]
    rfl
theorem perm_ord {os : List Int} {m : Nat} (hp : os.Perm (upTo 0 m)) (h1 : 1 ≤ m) (h2 : m ≤ 400) : OrdL (os.map Int.toNat) ∧ os.map V.int = vN (os.map Int.toNat) := by
  have hb : ∀ x ∈ os, 0 ≤ x ∧ x < (m : Int) := fun x hx => by
    have := mem_upTo.mp (hp.mem_iff.mp hx)
    omega
  have hl : os.length = m := by rw [hp.length_eq, upTo_len]
  have ev : os.map V.int = vN (os.map Int.toNat) := vN_of fun w hw => (hb w hw).1
  refine ⟨⟨by rw [List.length_map]; omega, by rw [List.length_map]; omega, fun x hx => ?_, ?_⟩, ev⟩
  · obtain ⟨y, hy, rfl⟩ := List.mem_map.mp hx
    have := hb y hy
    rw [List.length_map]
    omega
  · have nd : os.Nodup := hp.nodup_iff.mpr upTo_nodup
    have : ∀ l : List Int, (∀ x ∈ l, 0 ≤ x) → l.Nodup → (l.map Int.toNat).Nodup := by
      intro l
      induction l with
      | nil => intro _ _; exact List.nodup_nil
      | cons x r ih =>
        intro h nd
        rw [List.nodup_cons] at nd
        rw [List.map_cons, List.nodup_cons]
        refine ⟨fun z => ?_, ih (fun y hy => h y (List.mem_cons_of_mem _ hy)) nd.2⟩
        obtain ⟨y, hy, e⟩ := List.mem_map.mp z
        have h1 := h x List.mem_cons_self
        have h2 := h y (List.mem_cons_of_mem _ hy)
        have : y = x := by omega
        exact nd.1 (this ▸ hy)
    exact this os (fun x hx => (hb x hx).1) nd
theorem mapI_inj : ∀ {l m : List Int}, l.map V.int = m.map V.int → l = m
  | [], [], _ => rfl
  | [], _ :: _, h => by cases h
  | _ :: _, [], h => by cases h
  | x :: l, y :: m, h => by
    obtain ⟨h1, h2⟩ := List.cons.inj h
    rw [mapI_inj h2, V.int.inj h1]
/-- what is refused as an order -/
def NoneO (K : PySem.W.Frag) (a : Ad) (x : V) (H0 : Hp) : Prop := ∀ H, Same H0 H → ∀ (E' : XK), (∀ H', Same H H' → E' (.ref a.e_NoOrder) none H') → ∀ R, ChkO K a x H E' R
def NoneW (K : PySem.W.Frag) (a : Ad) (x : V) (H0 : Hp) : Prop := ∀ H, Same H0 H → ∀ (E' : XK), (∀ H', Same H H' → E' (.ref a.e_NoWishes) none H') → ∀ R, ChkF K a x H E' R
theorem NoneO.mono {K : PySem.W.Frag} {a : Ad} {x : V} {H H' : Hp} (h : NoneO K a x H) (s : Same H H') : NoneO K a x H' := fun H2 s2 => h H2 (s.trans s2)
theorem NoneW.mono {K : PySem.W.Frag} {a : Ad} {x : V} {H H' : Hp} (h : NoneW K a x H) (s : Same H H') : NoneW K a x H' := fun H2 s2 => h H2 (s.trans s2)
theorem noneO_ty {K : PySem.W.Frag} {a : Ad} {x : V} {H0 : Hp} {T : String} (h : ∀ H, Same H0 H → TyB K H x T) (h1 : T ≠ "list") (h2 : T ≠ "tuple") : NoneO K a x H0 := fun H s E' e R => .inl ⟨T, h H s, h1, h2, e H (Same.refl H)⟩
theorem noneW_ty {K : PySem.W.Frag} {a : Ad} {x : V} {H0 : Hp} {T : String} (h : ∀ H, Same H0 H → TyB K H x T) (h1 : T ≠ "list") (h2 : T ≠ "tuple") : NoneW K a x H0 := fun H s E' e R => .inl ⟨T, h H s, h1, h2, e H (Same.refl H)⟩
theorem noneO_sq {K : PySem.W.Frag} {a : Ad} {p : Addr} {xs : List V} {H0 : Hp} (h : SqA K H0 p xs) (ty : ∀ H, ∀ x ∈ xs, ∃ Ty, TyB K H x Ty) (h2 : ¬ ∃ O : List Nat, xs = vN O ∧ OrdL O) : NoneO K a (.ref p) H0 := fun H s E' e R => .inr ⟨p, xs, rfl, s.seqA h, ty H, .inl ⟨h2, e H (Same.refl H)⟩⟩
theorem noneW_sq {K : PySem.W.Frag} {a : Ad} {p : Addr} {xs : List V} {H0 : Hp} (h : SqA K H0 p xs) (ty : ∀ H, ∀ x ∈ xs, ∃ Ty, TyB K H x Ty) (h2 : ¬ ∃ ws : List Int, xs = ws.map V.int ∧ FullW ws) : NoneW K a (.ref p) H0 := fun H s E' e R => .inr ⟨p, xs, rfl, s.seqA h, ty H, .inl ⟨h2, e⟩⟩
theorem not_ord {O : List Nat} (h : ¬ OrdL O) : ¬ ∃ O' : List Nat, vN O = vN O' ∧ OrdL O' := fun ⟨O', e, f⟩ => h (vN_inj e ▸ f)
theorem not_full {ws : List Int} (h : ¬ FullW ws) : ¬ ∃ ws' : List Int, ws.map V.int = ws'.map V.int ∧ FullW ws' := fun ⟨O', e, f⟩ => h (mapI_inj e ▸ f)
def sp_law (K : PySem.W.Frag) : Sp := fun vs H Q _ => ∃ (s : Addr) (ns : List Int), vs = [.ref s] ∧ SqL K H s (ns.map V.int) ∧ ns.length ≤ 63 ∧ ∀ H', Q (.bl true) H'
abbrev N_law : List Str := ["_law_script", "_law_k", "_law_cell", "_law_many", "_law_order_here", "_law_state", "_law_bad", "_law_thing"]
def t_law (K : PySem.W.Frag) (a : Ad) : TS :=
  (tSeq (tFor (iRng1 (tCons (tOp rAddI (tC (.int 1)) (tCB rMin2 (tCons (tC (.int 8)) (tCons (tCB (rLenSq K) (tCons (tVar 0) tNil)) tNil)))) tNil)) (gName 1)
    (tSeq (tAsg (tCall (sp_l_cell_at K) [] E0 (tCons (tVar 0) (tCons (tVar 1) tNil))) (gName 2))
    (tSeq (tAsg (tOp (rIxL K) (tLst (tCons (tOp rAddI (tC (.int 1)) (tOp rModI (tVar 2) (tC (.int 7)))) (tCons (tOp rAddI (tC (.int 1)) (tOp rModI (tOp rDivI (tVar 2) (tC (.int 8))) (tC (.int 40)))) tNil))) (tOp rDivI (tOp rModI (tVar 2) (tC (.int 8))) (tC (.int 7)))) (gName 3))
    (tSeq (tAsg (tCall (sp_l_order K) [] E0 (tCons (tVar 0) (tCons (tVar 3) (tCons (tVar 1) tNil)))) (gName 4))
    (tSeq (tAsg (tLst (tCons (tOp rAddI (tC (.int 1)) (tOp rModI (tCall (sp_l_cell_at K) [] E0 (tCons (tVar 0) (tCons (tVar 1) tNil))) (tC (.int 2147483646)))) tNil)) (gName 5))
    (tIfS (tNot (tB (tCall (sp_l_right K) [] E0 (tCons (tVar 5) (tCons (tVar 4) tNil))))) (tRet (tC (.bl false))) tNext))))))
    (tSeq (tAsg (tLst (tCons (tTup tNil) (tCons (tLst tNil) (tCons (tC .non) (tCons (tC (.int 5)) (tCons (tTup (tCons (tC (.int 0)) (tCons (tC (.int 0)) tNil))) (tCons (tTup (tCons (tC (.int 1)) tNil)) (tCons (tTup (tCons (tC (.int 1)) (tCons (tC (.int 2)) tNil))) (tCons (tTup (tCons (tC (.int 0)) (tCons (tC (.bl true)) tNil))) (tCons (tTup (tCons (tC (.int 0)) (tCons (tC (.int 2)) tNil))) (tCons (tLst (tCons (tC (.int 0)) (tCons (tC (.str (Str.ofString "1"))) tNil))) (tCons (tTup (tCons (tC (.int 0)) (tCons (tC (.int 1)) (tCons (tC (.int 1)) tNil)))) (tCons (tDisp [((tC (.int 0)), (tC (.int 0)))]) tNil))))))))))))) (gName 6))
    (tSeq (tFor (iList K (tOp rCat (tVar 6) (tLst (tCons (tTupRg (tRg1 (tC (.int 401)))) tNil)))) (gName 7)
    (tIfS (tOr (tTest (tOp rNe (tCall (sp_l_word K a) [] E0 (tCons (tC (.ref a.f_reaches)) (tCons (tVar 7) tNil))) (tC (.str (Str.ofString "order"))))) (tTest (tOp rNe (tCall (sp_l_word K a) [] E0 (tCons (tC (.ref a.f_rows_to)) (tCons (tVar 7) tNil))) (tC (.str (Str.ofString "order")))))) (tRet (tC (.bl false))) tNext))
    (tRet (tOp (rEqT K) (tLc (iList K (tLst (tCons (tTup (tCons (tC (.int 2)) tNil)) (tCons (tLst tNil) (tCons (tC .non) (tCons (tTup (tCons (tC (.int 2)) (tCons (tC (.int 2)) tNil))) (tCons (tTup (tCons (tC (.int 0)) tNil)) (tCons (tLst (tCons (tC (.int 1)) (tCons (tC (.bl true)) tNil))) tNil)))))))) (gName 7) tYes (tCall (sp_l_word K a) [] E0 (tCons (tC (.ref a.f_lies)) (tCons (tVar 7) tNil))) [7]) (tOp rRep (tLst (tCons (tC (.str (Str.ofString "wishes"))) tNil)) (tC (.int 6))))))))
theorem len_law {K : PySem.W.Frag} {vs : List V} {H : Hp} {Q : VK} {E : XK} (h : sp_law K vs H Q E) : vs.length = 1 := by
  obtain ⟨s, ns, rfl, _⟩ := h
  rfl
theorem ty_non {K : PySem.W.Frag} {H : Hp} : ∃ T, TyB K H .non T := ⟨_, .non⟩
theorem ty_int {K : PySem.W.Frag} {H : Hp} {i : Int} : ∃ T, TyB K H (.int i) T := ⟨_, .int i⟩
theorem ty_bl {K : PySem.W.Frag} {H : Hp} {i : Bool} : ∃ T, TyB K H (.bl i) T := ⟨_, .bl i⟩
theorem ty_str {K : PySem.W.Frag} {H : Hp} {i : Str} : ∃ T, TyB K H (.str i) T := ⟨_, .str i⟩
theorem pu_law {K : PySem.W.Frag} {a : Ad} {vs : List V} {H : Hp} {Q : VK} {E : XK} (h : sp_law K vs H Q E) : t_law K a { nx := fun _ H' => Q .non H', rt := Q } (start N_law vs) H := by
  obtain ⟨s, ns, rfl, hs, hl, q⟩ := h
  refine ⟨.ref s, rfl, s, _, rfl, .inl hs, 8, _, rfl, 1, _, rfl, rfl, _, rfl, ?_⟩
  obtain ⟨N, hN, hN2⟩ : ∃ N : Nat, (1 + (if (((ns.map V.int).length : Nat) : Int) < 8 then (((ns.map V.int).length : Nat) : Int) else 8)).toNat = N ∧ N ≤ 13 := ⟨_, rfl, by split <;> omega⟩
  rw [hN]
  refine ⟨by split <;> omega, by split <;> omega, ?_⟩
  refine for_range (fun i σ H' => (∃ y1 y2 y3 y4 y5, σ = [some (.ref s), y1, y2, y3, y4, y5, none, none]) ∧ Same H H') ⟨⟨none, none, none, none, none, rfl⟩, Same.refl H⟩ ?_ ?_
  · rintro i σ H1 hi ⟨⟨y1, y2, y3, y4, y5, rfl⟩, s1⟩
    refine ⟨.ref s, rfl, .int (0 + (i : Int)), rfl, s, ns, _, rfl, s1.seq hs, by omega, ?_⟩
    generalize cellAt ns (0 + (i : Int)) = c
    refine ⟨.int c, rfl, c, 7, rfl, rfl, q7, 1, _, rfl, rfl, .int c, rfl, c, 8, rfl, rfl, e8, _, 40, rfl, rfl, q40, 1, _, rfl, rfl, l1000 (by show 2 ≤ 1000; decide), fun l0 nl0 => ?_⟩
    obtain ⟨m, em, m1, m2⟩ := many_40 c
    have t0 := same_new nl0 (o := .lst [V.int (1 + c % 7), V.int (1 + c / 8 % 40)])
    refine ⟨.int c, rfl, c, 8, rfl, rfl, q8, _, 7, rfl, rfl, e7, l0, _, _, _, rfl, rfl, sqL_of upd_same, em, ?_⟩
    have s2 := s1.trans t0
    refine ⟨.ref s, rfl, .int m, rfl, .int (0 + (i : Int)), rfl, s, ns, m, _, rfl, s2.seq hs, by omega, by omega, fun lo H3 os nlo t3 eo hp => ?_⟩
    obtain ⟨fO, eO⟩ := perm_ord hp m1 (by omega)
    rw [eO] at eo
    have s3 := s2.trans t3
    refine ⟨.ref s, rfl, .int (0 + (i : Int)), rfl, s, ns, _, rfl, s3.seq hs, by omega, _, 2147483646, rfl, rfl, qst, 1, _, rfl, rfl, l1000 (by show 1 ≤ 1000; decide), fun ls nls => ?_⟩
    have b1 := Int.emod_nonneg (cellAt ns (0 + (i : Int))) (show (2147483646 : Int) ≠ 0 by decide)
    have b2 := Int.emod_lt_of_pos (cellAt ns (0 + (i : Int))) qst
    refine ⟨.ref ls, rfl, .ref lo, rfl, H3, ls, lo, os.map Int.toNat, _, rfl, nls, same_new nls, upd_same, (by show 0 ≤ 1 + cellAt ns (0 + (i : Int)) % 2147483646; omega), (by show 1 + cellAt ns (0 + (i : Int)) % 2147483646 < 2147483647; omega), eo, fO, fun H' s' => ⟨true, rfl, iteF ⟨⟨_, _, _, _, _, rfl⟩, s3.trans s'⟩⟩⟩
  rintro σ H1 ⟨⟨y1, y2, y3, y4, y5, rfl⟩, s1⟩
  refine ⟨Nat.zero_le _, fun p1 n1 => ?_⟩
  have k1 : NoneO K a (.ref p1) (upd H1 p1 (.tup [])) := noneO_sq (.inr (sqT_of upd_same)) (fun H x hx => by cases hx) (not_ord (O := []) fun f => by have := f.1; simp at this)
  generalize (upd H1 p1 (.tup [])) = H2 at k1
  refine ⟨Nat.zero_le _, fun p2 n2 => ?_⟩
  have k2 : NoneO K a (.ref p2) (upd H2 p2 (.lst [])) := noneO_sq (.inl (sqL_of upd_same)) (fun H x hx => by cases hx) (not_ord (O := []) fun f => by have := f.1; simp at this)
  replace k1 := k1.mono (same_new n2 (o := .lst []))
  generalize (upd H2 p2 (.lst [])) = H3 at k1 k2
  clear n1 n2
  refine ⟨l1000 (by show 2 ≤ 1000; decide), fun p3 n3 => ?_⟩
  have k3 : NoneO K a (.ref p3) (upd H3 p3 (.tup [.int 0, .int 0])) := noneO_sq (.inr (sqT_of upd_same)) (fun H => ty_vN (T := [0, 0])) (not_ord (O := [0, 0]) fun f => by have := f.2.2.2; revert this; decide)
  replace k1 := k1.mono (same_new n3 (o := .tup [.int 0, .int 0]))
  replace k2 := k2.mono (same_new n3 (o := .tup [.int 0, .int 0]))
  generalize (upd H3 p3 (.tup [.int 0, .int 0])) = H4 at k1 k2 k3
  refine ⟨l1000 (by show 1 ≤ 1000; decide), fun p4 n4 => ?_⟩
  have k4 : NoneO K a (.ref p4) (upd H4 p4 (.tup [.int 1])) := noneO_sq (.inr (sqT_of upd_same)) (fun H => ty_vN (T := [1])) (not_ord (O := [1]) fun f => by have := f.2.2.1 1 (by simp); simp at this)
  have t4 := same_new n4 (o := .tup [.int 1])
  replace k1 := k1.mono t4
  replace k2 := k2.mono t4
  replace k3 := k3.mono t4
  clear t4
  generalize (upd H4 p4 (.tup [.int 1])) = H5 at k1 k2 k3 k4
  refine ⟨l1000 (by show 2 ≤ 1000; decide), fun p5 n5 => ?_⟩
  have k5 : NoneO K a (.ref p5) (upd H5 p5 (.tup [.int 1, .int 2])) := noneO_sq (.inr (sqT_of upd_same)) (fun H => ty_vN (T := [1, 2])) (not_ord (O := [1, 2]) fun f => by have := f.2.2.1 2 (by simp); simp at this)
  have t5 := same_new n5 (o := .tup [.int 1, .int 2])
  replace k1 := k1.mono t5
  replace k2 := k2.mono t5
  replace k3 := k3.mono t5
  replace k4 := k4.mono t5
  clear t5
  generalize (upd H5 p5 (.tup [.int 1, .int 2])) = H6 at k1 k2 k3 k4 k5
  refine ⟨l1000 (by show 2 ≤ 1000; decide), fun p6 n6 => ?_⟩
  have k6 : NoneO K a (.ref p6) (upd H6 p6 (.tup [.int 0, .bl true])) := noneO_sq (.inr (sqT_of upd_same)) (fun H x hx => by
    simp only [List.mem_cons, List.not_mem_nil, or_false] at hx
    rcases hx with h | h <;> subst h
    · exact ty_int
    · exact ty_bl) (by
    rintro ⟨O, e, _⟩
    match O, e with
    | [x, y], e => cases e)
  have t6 := same_new n6 (o := .tup [.int 0, .bl true])
  replace k1 := k1.mono t6
  replace k2 := k2.mono t6
  replace k3 := k3.mono t6
  replace k4 := k4.mono t6
  replace k5 := k5.mono t6
  clear t6
  generalize (upd H6 p6 (.tup [.int 0, .bl true])) = H7 at k1 k2 k3 k4 k5 k6
  refine ⟨l1000 (by show 2 ≤ 1000; decide), fun p7 n7 => ?_⟩
  have k7 : NoneO K a (.ref p7) (upd H7 p7 (.tup [.int 0, .int 2])) := noneO_sq (.inr (sqT_of upd_same)) (fun H => ty_vN (T := [0, 2])) (not_ord (O := [0, 2]) fun f => by have := f.2.2.1 2 (by simp); simp at this)
  have t7 := same_new n7 (o := .tup [.int 0, .int 2])
  replace k1 := k1.mono t7
  replace k2 := k2.mono t7
  replace k3 := k3.mono t7
  replace k4 := k4.mono t7
  replace k5 := k5.mono t7
  replace k6 := k6.mono t7
  clear t7
  generalize (upd H7 p7 (.tup [.int 0, .int 2])) = H8 at k1 k2 k3 k4 k5 k6 k7
  refine ⟨l1000 (by show 2 ≤ 1000; decide), fun p8 n8 => ?_⟩
  have k8 : NoneO K a (.ref p8) (upd H8 p8 (.lst [.int 0, .str (Str.ofString "1")])) := noneO_sq (.inl (sqL_of upd_same)) (fun H x hx => by
    simp only [List.mem_cons, List.not_mem_nil, or_false] at hx
    rcases hx with h | h <;> subst h
    · exact ty_int
    · exact ty_str) (by
    rintro ⟨O, e, _⟩
    match O, e with
    | [x, y], e => cases e)
  have t8 := same_new n8 (o := .lst [.int 0, .str (Str.ofString "1")])
  replace k1 := k1.mono t8
  replace k2 := k2.mono t8
  replace k3 := k3.mono t8
  replace k4 := k4.mono t8
  replace k5 := k5.mono t8
  replace k6 := k6.mono t8
  replace k7 := k7.mono t8
  clear t8
  generalize (upd H8 p8 (.lst [.int 0, .str (Str.ofString "1")])) = H9 at k1 k2 k3 k4 k5 k6 k7 k8
  refine ⟨l1000 (by show 3 ≤ 1000; decide), fun p9 n9 => ?_⟩
  have k9 : NoneO K a (.ref p9) (upd H9 p9 (.tup [.int 0, .int 1, .int 1])) := noneO_sq (.inr (sqT_of upd_same)) (fun H => ty_vN (T := [0, 1, 1])) (not_ord (O := [0, 1, 1]) fun f => by have := f.2.2.2; revert this; decide)
  have t9 := same_new n9 (o := .tup [.int 0, .int 1, .int 1])
  replace k1 := k1.mono t9
  replace k2 := k2.mono t9
  replace k3 := k3.mono t9
  replace k4 := k4.mono t9
  replace k5 := k5.mono t9
  replace k6 := k6.mono t9
  replace k7 := k7.mono t9
  replace k8 := k8.mono t9
  clear t9
  generalize (upd H9 p9 (.tup [.int 0, .int 1, .int 1])) = H10 at k1 k2 k3 k4 k5 k6 k7 k8 k9
  intro d nd
  refine ⟨upd_same, [(.inl 0, .int 0)], rfl, by decide, ?_⟩
  have td : Same H10 (upd (upd H10 d (.dK [])) d (.dK (mergeK [] [((.inl 0 : Key), V.int 0)]))) := (same_new nd).store nd
  have kd : NoneO K a (.ref d) (upd (upd H10 d (.dK [])) d (.dK (mergeK [] [((.inl 0 : Key), V.int 0)]))) := noneO_ty (T := "dict") (fun H s => .dK (s _ _ upd_same)) (by decide) (by decide)
  replace k1 := k1.mono td
  replace k2 := k2.mono td
  replace k3 := k3.mono td
  replace k4 := k4.mono td
  replace k5 := k5.mono td
  replace k6 := k6.mono td
  replace k7 := k7.mono td
  replace k8 := k8.mono td
  replace k9 := k9.mono td
  clear td
  generalize (upd (upd H10 d (.dK [])) d (.dK (mergeK [] [((.inl 0 : Key), V.int 0)]))) = H11 at k1 k2 k3 k4 k5 k6 k7 k8 k9 kd
  refine ⟨l1000 (by show 12 ≤ 1000; decide), fun la nla => ?_⟩
  have ta := same_new nla (o := .lst [.ref p1, .ref p2, .non, .int 5, .ref p3, .ref p4, .ref p5, .ref p6, .ref p7, .ref p8, .ref p9, .ref d])
  have ela : (upd H11 la (.lst [.ref p1, .ref p2, .non, .int 5, .ref p3, .ref p4, .ref p5, .ref p6, .ref p7, .ref p8, .ref p9, .ref d])) la = some (.lst [.ref p1, .ref p2, .non, .int 5, .ref p3, .ref p4, .ref p5, .ref p6, .ref p7, .ref p8, .ref p9, .ref d]) := upd_same
  have all : ∀ x ∈ [V.ref p1, .ref p2, .non, .int 5, .ref p3, .ref p4, .ref p5, .ref p6, .ref p7, .ref p8, .ref p9, .ref d], NoneO K a x H11 := by
    intro x hx
    simp only [List.mem_cons, List.not_mem_nil, or_false] at hx
    rcases hx with h | h | h | h | h | h | h | h | h | h | h | h <;> subst h
    · exact k1
    · exact k2
    · exact noneO_ty (T := "NoneType") (fun _ _ => .non) (by decide) (by decide)
    · exact noneO_ty (T := "int") (fun _ _ => .int _) (by decide) (by decide)
    · exact k3
    · exact k4
    · exact k5
    · exact k6
    · exact k7
    · exact k8
    · exact k9
    · exact kd
  replace all : ∀ x ∈ [V.ref p1, .ref p2, .non, .int 5, .ref p3, .ref p4, .ref p5, .ref p6, .ref p7, .ref p8, .ref p9, .ref d], NoneO K a x _ := fun x hx => (all x hx).mono ta
  suffices rest : ∀ H', (∀ x ∈ [V.ref p1, .ref p2, .non, .int 5, .ref p3, .ref p4, .ref p5, .ref p6, .ref p7, .ref p8, .ref p9, .ref d], NoneO K a x H') → H' la = some (.lst [.ref p1, .ref p2, .non, .int 5, .ref p3, .ref p4, .ref p5, .ref p6, .ref p7, .ref p8, .ref p9, .ref d]) → _ from rest _ all ela
  clear all ela ta nla k1 k2 k3 k4 k5 k6 k7 k8 k9 kd nd n3 n4 n5 n6 n7 n8 n9
  intro H12 all ela
  -- .. + [tuple(range(401))]
  refine ⟨.ref la, rfl, 401, rfl, ⟨by decide, by decide, by decide, by decide, by decide⟩, fun pt npt => ⟨l1000 (by show 1 ≤ 1000; decide), fun lb nlb => ?_⟩⟩
  have u1 := same_new npt (o := .tup (rgV 0 401))
  have u2 := same_new nlb (o := .lst [.ref pt])
  refine ⟨la, lb, _, _, rfl, rfl, u2 _ _ (u1 _ _ ela), upd_same, l1000 (by show 13 ≤ 1000; decide), fun lc nlc => ?_⟩
  have u3 := same_new nlc (o := .lst ([.ref p1, .ref p2, .non, .int 5, .ref p3, .ref p4, .ref p5, .ref p6, .ref p7, .ref p8, .ref p9, .ref d] ++ [.ref pt]))
  have elc := upd_same (H := (upd (upd H12 pt (.tup (rgV 0 401))) lb (.lst [.ref pt]))) (a := lc) (o := .lst ([.ref p1, .ref p2, .non, .int 5, .ref p3, .ref p4, .ref p5, .ref p6, .ref p7, .ref p8, .ref p9, .ref d] ++ [.ref pt]))
  have ept := u3 _ _ (u2 _ _ (upd_same (H := H12) (a := pt) (o := .tup (rgV 0 401))))
  have hlen : (rgV 0 401).length = 401 := by unfold rgV; simp
  have kt : NoneO K a (.ref pt) _ := noneO_sq (.inr (sqT_of ept)) (fun H x hx => by
    unfold rgV at hx
    obtain ⟨k, _, rfl⟩ := List.mem_map.mp hx
    exact ty_int) (by
    rintro ⟨O, e, f⟩
    have := congrArg List.length e
    rw [hlen, vN_len] at this
    have := f.2.1
    omega)
  have all2 : ∀ x ∈ [V.ref p1, .ref p2, .non, .int 5, .ref p3, .ref p4, .ref p5, .ref p6, .ref p7, .ref p8, .ref p9, .ref d] ++ [V.ref pt], NoneO K a x _ := fun x hx => by
    rcases List.mem_append.mp hx with h | h
    · exact (all x h).mono ((u1.trans u2).trans u3)
    · rw [List.mem_singleton.mp h]
      exact kt
  clear all kt ept u1 u2 u3
  generalize ([V.ref p1, .ref p2, .non, .int 5, .ref p3, .ref p4, .ref p5, .ref p6, .ref p7, .ref p8, .ref p9, .ref d] ++ [V.ref pt]) = xs at elc all2 nlc ⊢
  refine ⟨lc, rfl, ⟨_, sqL_of elc⟩, for_list (K := K) (a := lc) (xs := xs) (fun i σ H' => (∃ y, σ = [some (.ref s), y1, y2, y3, y4, y5, some (.ref la), y]) ∧ Same _ H') ⟨⟨none, rfl⟩, Same.refl _⟩ (fun i σ H' _ p => p.2.seq (sqL_of elc)) ?_ ?_⟩
  · rintro i x σ H5 hx ⟨⟨y, rfl⟩, s5⟩
    have hx := all2 x (List.mem_of_getElem? hx)
    refine ⟨x, rfl, _, _, _, true, rfl, .inr (.inl ⟨rfl, rfl⟩), fun Q' E' e => ⟨_, rfl, hx H5 s5 E' e _⟩, fun H6 s6 => ⟨rfl, _, rfl, ?_⟩⟩
    show (if (!decide (V.str (nmT true) = V.str (Str.ofString "order"))) = true then _ else _)
    rw [decide_eq_true (by rfl)]
    refine iteF ⟨x, rfl, _, _, _, true, rfl, .inr (.inr ⟨rfl, rfl⟩), fun Q' E' e => ⟨_, rfl, hx H6 (s5.trans s6) E' e _⟩, fun H7 s7 => ⟨rfl, _, rfl, ?_⟩⟩
    show (if (!decide (V.str (nmT true) = V.str (Str.ofString "order"))) = true then _ else _)
    rw [decide_eq_true (by rfl)]
    exact iteF ⟨⟨_, rfl⟩, (s5.trans s6).trans s7⟩
  rintro σ H5 ⟨⟨y, rfl⟩, _⟩
  clear all2 elc nlc nlb npt
  -- what is no full row
  refine ⟨l1000 (by show 1 ≤ 1000; decide), fun p1 n1 => ⟨Nat.zero_le _, fun p2 n2 => ⟨l1000 (by show 2 ≤ 1000; decide), fun p3 n3 => ⟨l1000 (by show 1 ≤ 1000; decide), fun p4 n4 => ⟨l1000 (by show 2 ≤ 1000; decide), fun p5 n5 => ⟨l1000 (by show 6 ≤ 1000; decide), fun la nla => ?_⟩⟩⟩⟩⟩⟩
  have u1 := same_new n2 (o := .lst [])
  have u2 := same_new n3 (o := .tup [.int 2, .int 2])
  have u3 := same_new n4 (o := .tup [.int 0])
  have u4 := same_new n5 (o := .lst [.int 1, .bl true])
  have u5 := same_new nla (o := .lst [.ref p1, .ref p2, .non, .ref p3, .ref p4, .ref p5])
  have w1 : NoneW K a (.ref p1) (upd H5 p1 (.tup [.int 2])) := noneW_sq (.inr (sqT_of upd_same)) (fun H => ty_vN (T := [2])) (not_full (ws := [2]) fun f => by have := f.2.2.1 2 (by simp); simp at this)
  have w2 : NoneW K a (.ref p2) _ := noneW_sq (.inl (sqL_of (upd_same (H := (upd H5 p1 (.tup [.int 2]))) (a := p2) (o := .lst [])))) (fun H x hx => by cases hx) (not_full (ws := []) fun f => by have := f.1; simp at this)
  have w3 : NoneW K a (.ref p3) _ := noneW_sq (.inr (sqT_of (upd_same (H := (upd (upd H5 p1 (.tup [.int 2])) p2 (.lst []))) (a := p3) (o := .tup [.int 2, .int 2])))) (fun H => ty_vN (T := [2, 2])) (not_full (ws := [2, 2]) fun f => by have := f.2.2.2; revert this; decide +kernel)
  have w4 : NoneW K a (.ref p4) _ := noneW_sq (.inr (sqT_of (upd_same (H := (upd (upd (upd H5 p1 (.tup [.int 2])) p2 (.lst [])) p3 (.tup [.int 2, .int 2]))) (a := p4) (o := .tup [.int 0])))) (fun H => ty_vN (T := [0])) (not_full (ws := [0]) fun f => by have := f.2.2.1 0 (by simp); simp at this)
  have w5 : NoneW K a (.ref p5) _ := noneW_sq (.inl (sqL_of (upd_same (H := (upd (upd (upd (upd H5 p1 (.tup [.int 2])) p2 (.lst [])) p3 (.tup [.int 2, .int 2])) p4 (.tup [.int 0]))) (a := p5) (o := .lst [.int 1, .bl true])))) (fun H x hx => by
    simp only [List.mem_cons, List.not_mem_nil, or_false] at hx
    rcases hx with h | h <;> subst h
    · exact ty_int
    · exact ty_bl) (by
    rintro ⟨ws, e, _⟩
    match ws, e with
    | [x, y], e => cases e)
  have ela := upd_same (H := (upd (upd (upd (upd (upd H5 p1 (.tup [.int 2])) p2 (.lst [])) p3 (.tup [.int 2, .int 2])) p4 (.tup [.int 0])) p5 (.lst [.int 1, .bl true]))) (a := la) (o := .lst [.ref p1, .ref p2, .non, .ref p3, .ref p4, .ref p5])
  have all : ∀ x ∈ [V.ref p1, .ref p2, .non, .ref p3, .ref p4, .ref p5], NoneW K a x (upd (upd (upd (upd (upd (upd H5 p1 (.tup [.int 2])) p2 (.lst [])) p3 (.tup [.int 2, .int 2])) p4 (.tup [.int 0])) p5 (.lst [.int 1, .bl true])) la (.lst [.ref p1, .ref p2, .non, .ref p3, .ref p4, .ref p5])) := by
    intro x hx
    simp only [List.mem_cons, List.not_mem_nil, or_false] at hx
    rcases hx with h | h | h | h | h | h <;> subst h
    · exact w1.mono ((((u1.trans u2).trans u3).trans u4).trans u5)
    · exact w2.mono (((u2.trans u3).trans u4).trans u5)
    · exact noneW_ty (T := "NoneType") (fun _ _ => .non) (by decide) (by decide)
    · exact w3.mono ((u3.trans u4).trans u5)
    · exact w4.mono (u4.trans u5)
    · exact w5.mono u5
  suffices rest : ∀ H', (∀ x ∈ [V.ref p1, .ref p2, .non, .ref p3, .ref p4, .ref p5], NoneW K a x H') → H' la = some (.lst [.ref p1, .ref p2, .non, .ref p3, .ref p4, .ref p5]) → _ from rest _ all ela
  clear all ela u1 u2 u3 u4 u5 w1 w2 w3 w4 w5 n1 n2 n3 n4 n5 nla
  intro H6 all ela
  refine ⟨la, rfl, ⟨_, sqL_of ela⟩, ?_⟩
  refine lc_pure (walk_list (K := K) (a := la) (xs := [V.ref p1, .ref p2, .non, .ref p3, .ref p4, .ref p5])) (small1000 (by show 6 ≤ 1000; decide)) [V.ref p1, .ref p2, .non, .ref p3, .ref p4, .ref p5] rfl (fun _ => true) (fun _ => V.str (Str.ofString "wishes")) (fun H' s' => sqL_of (s' _ _ ela)) ?_ ?_
  · intro j x v H7 H8 R hx s7 hy k
    obtain ⟨rfl, hv⟩ := hy
    rw [hx] at hv
    cases hv
    refine ⟨rfl, iteT (B := R false .non H8) ⟨x, rfl, _, _, _, false, rfl, .inl ⟨rfl, rfl⟩, fun Q' E' e => ⟨_, rfl, all x (List.mem_of_getElem? hx) _ s7 E' e _⟩, fun H9 s9 => k _ _ s9 fun _ => ?_⟩⟩
    show V.str (nmT false) = _
    rfl
  · intro D H7 nD s7 eD
    refine ⟨l1000 (by show 1 ≤ 1000; decide), fun l1 nl1 => ⟨l1, 6, _, rfl, rfl, upd_same, by decide, by decide, l1000 (by decide), fun l2 nl2 => ?_⟩⟩
    have u1 := same_new nl1 (o := .lst [V.str (Str.ofString "wishes")])
    have u2 := same_new nl2 (o := .lst (List.replicate (6 : Int).toNat [V.str (Str.ofString "wishes")]).flatten)
    have eD2 := u2 _ _ (u1 _ _ eD)
    refine eqT_of (a := List.replicate 6 (Str.ofString "wishes")) (b := List.replicate 6 (Str.ofString "wishes")) (.lst (sqL_of eD2) (.cons (.str _) (.cons (.str _) (.cons (.str _) (.cons (.str _) (.cons (.str _) (.cons (.str _) .nil))))))) (.lst (sqL_of upd_same) (.cons (.str _) (.cons (.str _) (.cons (.str _) (.cons (.str _) (.cons (.str _) (.cons (.str _) .nil))))))) (by decide) ?_
    rw [decide_eq_true rfl]
    exact q _

section
variable {P : Program} {w : World} {K : PySem.W.Frag} {mg : Str → Option Value} {base : Heap} {a : Ad}
def topS (i : Nat) : Stmt := PySem.Challenge.pw_berthrow_k11_whole_who_lies_where.main.body.getD i (.Pass ⟨0, 0, 0, 0⟩)
structure Txt (K : PySem.W.Frag) (mg : Str → Option Value) (a : Ad) : Prop where
  t_0 : True
  b_bool : mg "bool" = none
  b_enumerate : mg "enumerate" = none
  b_int : mg "int" = none
  b_isinstance : mg "isinstance" = none
  b_len : mg "len" = none
  b_list : mg "list" = none
  b_min : mg "min" = none
  b_range : mg "range" = none
  b_set : mg "set" = none
  b_tuple : mg "tuple" = none
  b_type : mg "type" = none
  c_MOST : ∃ u, mg "MOST" = some u ∧ RelV (.int 400) u
  e_BerthError : ExF K mg "BerthError" a.e_BerthError
  e_NoCount : ExF K mg "NoCount" a.e_NoCount
  e_NoOrder : ExF K mg "NoOrder" a.e_NoOrder
  e_NoQuay : ExF K mg "NoQuay" a.e_NoQuay
  e_NoTree : ExF K mg "NoTree" a.e_NoTree
  e_NoWishes : ExF K mg "NoWishes" a.e_NoWishes
  e_TooMany : ExF K mg "TooMany" a.e_TooMany
  g_BerthError : ExG K a.e_BerthError
  g_NoQuay : ExG K a.e_NoQuay
  g_NoWishes : ExG K a.e_NoWishes
  g_TooMany : ExG K a.e_TooMany
  g_NoCount : ExG K a.e_NoCount
  g_NoTree : ExG K a.e_NoTree
  g_NoOrder : ExG K a.e_NoOrder
  s_NoOrder_BerthError : PySem.W.subIn K (.ref a.e_NoOrder) (.ref a.e_BerthError) = some true
  s_NoOrder_NoOrder : PySem.W.subIn K (.ref a.e_NoOrder) (.ref a.e_NoOrder) = some true
  s_NoOrder_NoTree : PySem.W.subIn K (.ref a.e_NoOrder) (.ref a.e_NoTree) = some false
  s_NoOrder_NoWishes : PySem.W.subIn K (.ref a.e_NoOrder) (.ref a.e_NoWishes) = some false
  s_NoOrder_TooMany : PySem.W.subIn K (.ref a.e_NoOrder) (.ref a.e_TooMany) = some false
  s_NoOrder_NoQuay : PySem.W.subIn K (.ref a.e_NoOrder) (.ref a.e_NoQuay) = some false
  s_NoOrder_NoCount : PySem.W.subIn K (.ref a.e_NoOrder) (.ref a.e_NoCount) = some false
  s_NoWishes_BerthError : PySem.W.subIn K (.ref a.e_NoWishes) (.ref a.e_BerthError) = some true
  s_NoWishes_NoOrder : PySem.W.subIn K (.ref a.e_NoWishes) (.ref a.e_NoOrder) = some false
  s_NoWishes_NoTree : PySem.W.subIn K (.ref a.e_NoWishes) (.ref a.e_NoTree) = some false
  s_NoWishes_NoWishes : PySem.W.subIn K (.ref a.e_NoWishes) (.ref a.e_NoWishes) = some true
  s_NoWishes_TooMany : PySem.W.subIn K (.ref a.e_NoWishes) (.ref a.e_TooMany) = some false
  s_NoWishes_NoQuay : PySem.W.subIn K (.ref a.e_NoWishes) (.ref a.e_NoQuay) = some false
  s_NoWishes_NoCount : PySem.W.subIn K (.ref a.e_NoWishes) (.ref a.e_NoCount) = some false
abbrev s_is_number : Stmt := topS 10
theorem sc_is_number : FnScope N_is_number ["thing"] (defScope s_is_number) := ⟨rfl, rfl, rfl, by decide +kernel, rfl, by decide +kernel, by decide +kernel⟩
theorem ok_is_number (D : DF K mg "is_number" s_is_number ["thing"] a.f_is_number) (T : Txt K mg a) : Cb P w K mg base CX0 1 "is_number" a.f_is_number ["thing"] (sp_is_number K a) := by
  obtain ⟨⟨fd, F, bb⟩, gg⟩ := D
  refine ⟨⟨fd, F.ok sc_is_number (fun vs H Q E h => len_is_number h) (fun cdv A outer s H vs Q E hr h => ⟨t_is_number K a, ?_, pu_is_number h⟩), bb⟩, gg, F.kp⟩
  exact (pss_one (ps_ret (pe_cmpR op_isTyB (pe_callTy call_type1 (by rfl) T.b_type (by decide +kernel) (pa_cons (pv 0) pa_nil)) (pe_bltn (by rfl) T.b_int (by decide +kernel) rfl) (nomark _))))

abbrev s_is_from_to : Stmt := topS 11
theorem sc_is_from_to : FnScope N_is_from_to ["low", "high", "thing"] (defScope s_is_from_to) := ⟨rfl, rfl, rfl, by decide +kernel, rfl, by decide +kernel, by decide +kernel⟩
theorem ok_is_from_to (D : DF K mg "is_from_to" s_is_from_to ["low", "high", "thing"] a.f_is_from_to) (T : Txt K mg a) (g_is_number : Cb P w K mg base CX0 1 "is_number" a.f_is_number ["thing"] (sp_is_number K a)) : Cb P w K mg base CX0 2 "is_from_to" a.f_is_from_to ["low", "high", "thing"] (sp_is_from_to K a) := by
  obtain ⟨⟨fd, F, bb⟩, gg⟩ := D
  refine ⟨⟨fd, F.ok sc_is_from_to (fun vs H Q E h => len_is_from_to h) (fun cdv A outer s H vs Q E hr h => ⟨t_is_from_to K a, ?_, pu_is_from_to h⟩), bb⟩, gg, F.kp⟩
  exact (pss_one (ps_ret (pe_and (pe_cb g_is_number (hr.mono (by decide)) (by rfl) pass0 (pa_cons (pv 2) pa_nil)) (pe_one (pe_chain op_le op_le (pv 0) (pv 2) (pv 1))))))

abbrev s_is_row : Stmt := topS 12
theorem sc_is_row : FnScope N_is_row ["thing"] (defScope s_is_row) := ⟨rfl, rfl, rfl, by decide +kernel, rfl, by decide +kernel, by decide +kernel⟩
theorem ok_is_row (D : DF K mg "is_row" s_is_row ["thing"] a.f_is_row) (T : Txt K mg a) : Cb P w K mg base CX0 1 "is_row" a.f_is_row ["thing"] (sp_is_row K a) := by
  obtain ⟨⟨fd, F, bb⟩, gg⟩ := D
  refine ⟨⟨fd, F.ok sc_is_row (fun vs H Q E h => len_is_row h) (fun cdv A outer s H vs Q E hr h => ⟨t_is_row K a, ?_, pu_is_row h⟩), bb⟩, gg, F.kp⟩
  exact (pss_one (ps_ret (pe_or (pe_cmpR op_isTyB (pe_callTy call_type1 (by rfl) T.b_type (by decide +kernel) (pa_cons (pv 0) pa_nil)) (pe_bltn (by rfl) T.b_list (by decide +kernel) rfl) (nomark _)) (pe_one (pe_cmpR op_isTyB (pe_callTy call_type1 (by rfl) T.b_type (by decide +kernel) (pa_cons (pv 0) pa_nil)) (pe_bltn (by rfl) T.b_tuple (by decide +kernel) rfl) (nomark _))))))

abbrev s_check_quay : Stmt := topS 13
theorem sc_check_quay : FnScope N_check_quay ["berths"] (defScope s_check_quay) := ⟨rfl, rfl, rfl, by decide +kernel, rfl, by decide +kernel, by decide +kernel⟩
theorem ok_check_quay (D : DF K mg "check_quay" s_check_quay ["berths"] a.f_check_quay) (T : Txt K mg a) (g_is_from_to : Cb P w K mg base CX0 2 "is_from_to" a.f_is_from_to ["low", "high", "thing"] (sp_is_from_to K a)) : Cb P w K mg base (L2.CX P w) 3 "check_quay" a.f_check_quay ["berths"] (sp_check_quay K a) := by
  obtain ⟨⟨fd, F, bb⟩, gg⟩ := D
  refine ⟨⟨fd, F.okX sc_check_quay (fun vs H Q E h => len_check_quay h) (fun cdv A outer s H vs Q E hr h => ⟨t_check_quay K a E, ?_, pu_check_quay h⟩), bb⟩, gg, F.kp⟩
  exact (pss_one (ps_if (pt_not (pt_val (pe_cb g_is_from_to (hr.mono (by decide)) (by rfl) pass0 (pa_cons pe_int (pa_cons (pe_gl (by rfl) T.c_MOST) (pa_cons (pv 0) pa_nil)))))) (pss_one (ps_raise rfl (takes_of rfl rfl rfl rfl) (pmk_own PySem.F.excBase_ValueError T.e_NoQuay.x T.e_NoQuay.g T.e_NoQuay.k (raises_own T.e_NoQuay.b T.e_NoQuay.t) (by exact rfl)))) pss_nil))

abbrev s_check_wishes : Stmt := topS 14
theorem sc_check_wishes : FnScope N_check_wishes ["berths", "wishes"] (defScope s_check_wishes) := ⟨rfl, rfl, rfl, by decide +kernel, rfl, by decide +kernel, by decide +kernel⟩
theorem ok_check_wishes (D : DF K mg "check_wishes" s_check_wishes ["berths", "wishes"] a.f_check_wishes) (T : Txt K mg a) (g_is_from_to : Cb P w K mg base CX0 2 "is_from_to" a.f_is_from_to ["low", "high", "thing"] (sp_is_from_to K a)) (g_is_row : Cb P w K mg base CX0 1 "is_row" a.f_is_row ["thing"] (sp_is_row K a)) (g_check_quay : Cb P w K mg base (L2.CX P w) 3 "check_quay" a.f_check_quay ["berths"] (sp_check_quay K a)) : Cb P w K mg base (L2.CX P w) 4 "check_wishes" a.f_check_wishes ["berths", "wishes"] (sp_check_wishes K a) := by
  obtain ⟨⟨fd, F, bb⟩, gg⟩ := D
  refine ⟨⟨fd, F.okX sc_check_wishes (fun vs H Q E h => len_check_wishes h) (fun cdv A outer s H vs Q E hr h => ⟨t_check_wishes K a E, ?_, pu_check_wishes h⟩), bb⟩, gg, F.kp⟩
  exact (pss_cons (ps_expr (pe_cb g_check_quay (hr.mono (by decide)) (by rfl) (passes_call (takes_of rfl rfl rfl rfl) (fun _ _ _ _ h => h)) (pa_cons (pv 0) pa_nil)))
    (pss_cons (ps_if (pt_not (pt_val (pe_cb g_is_row (hr.mono (by decide)) (by rfl) pass0 (pa_cons (pv 1) pa_nil)))) (pss_one (ps_raise rfl (takes_of rfl rfl rfl rfl) (pmk_own PySem.F.excBase_ValueError T.e_NoWishes.x T.e_NoWishes.g T.e_NoWishes.k (raises_own T.e_NoWishes.b T.e_NoWishes.t) (by exact rfl)))) pss_nil)
    (pss_cons (ps_if (pt_cmpR op_gt (pe_callB call_len_seq (by rfl) T.b_len (by decide +kernel) (pa_cons (pv 1) pa_nil)) (pe_gl (by rfl) T.c_MOST) (nomark _)) (pss_one (ps_raise rfl (takes_of rfl rfl rfl rfl) (pmk_own PySem.F.excBase_ValueError T.e_NoWishes.x T.e_NoWishes.g T.e_NoWishes.k (raises_own T.e_NoWishes.b T.e_NoWishes.t) (by exact rfl)))) pss_nil)
    (pss_one (ps_for (passes_of rfl) rfl (pi_seq (pv 1)) (pg_name (i := 2) sc_check_wishes.nd rfl (by first | exact Or.inl rfl | exact Or.inr rfl))
    (pss_one (ps_if (pt_not (pt_val (pe_cb g_is_from_to (hr.mono (by decide)) (by rfl) pass0 (pa_cons pe_int (pa_cons (pv 0) (pa_cons (pv 2) pa_nil)))))) (pss_one (ps_raise rfl (takes_of rfl rfl rfl rfl) (pmk_own PySem.F.excBase_ValueError T.e_NoWishes.x T.e_NoWishes.g T.e_NoWishes.k (raises_own T.e_NoWishes.b T.e_NoWishes.t) (by exact rfl)))) pss_nil)))))))

abbrev s_first_free : Stmt := topS 16
theorem sc_first_free : FnScope N_first_free ["held", "wish"] (defScope s_first_free) := ⟨rfl, rfl, rfl, by decide +kernel, rfl, by decide +kernel, by decide +kernel⟩
theorem ok_first_free (D : DF K mg "first_free" s_first_free ["held", "wish"] a.f_first_free) (T : Txt K mg a) : Cb P w K mg base CX0 1 "first_free" a.f_first_free ["held", "wish"] (sp_first_free K a) := by
  obtain ⟨⟨fd, F, bb⟩, gg⟩ := D
  refine ⟨⟨fd, F.ok sc_first_free (fun vs H Q E h => len_first_free h) (fun cdv A outer s H vs Q E hr h => ⟨t_first_free K a, ?_, pu_first_free h⟩), bb⟩, gg, F.kp⟩
  exact (pss_cons (ps_for PassesOwn.never rfl (pi_range2 (by rfl) T.b_range (pa_cons (pv 1) (pa_cons (pe_callB call_len_seq (by rfl) T.b_len (by decide +kernel) (pa_cons (pv 0) pa_nil)) pa_nil))) (pg_name (i := 2) sc_first_free.nd rfl (by first | exact Or.inl rfl | exact Or.inr rfl))
    (pss_one (ps_if (pt_not (pt_val (pe_ix ix_list (pv 0) (pv 2) (fun _ _ => rfl)))) (pss_one (ps_ret (pv 2))) pss_nil)))
    (pss_one (ps_ret pe_non)))

abbrev s_placed : Stmt := topS 17
theorem sc_placed : FnScope N_placed ["berths", "wishes"] (defScope s_placed) := ⟨rfl, rfl, rfl, by decide +kernel, rfl, by decide +kernel, by decide +kernel⟩
theorem ok_placed (D : DF K mg "placed" s_placed ["berths", "wishes"] a.f_placed) (T : Txt K mg a) (g_check_wishes : Cb P w K mg base (L2.CX P w) 4 "check_wishes" a.f_check_wishes ["berths", "wishes"] (sp_check_wishes K a)) (g_first_free : Cb P w K mg base CX0 1 "first_free" a.f_first_free ["held", "wish"] (sp_first_free K a)) : Cb P w K mg base (L2.CX P w) 5 "placed" a.f_placed ["berths", "wishes"] (sp_placed K a) := by
  obtain ⟨⟨fd, F, bb⟩, gg⟩ := D
  refine ⟨⟨fd, F.okX sc_placed (fun vs H Q E h => len_placed h) (fun cdv A outer s H vs Q E hr h => ⟨t_placed K a E, ?_, pu_placed h⟩), bb⟩, gg, F.kp⟩
  exact (pss_cons (ps_expr (pe_cb g_check_wishes (hr.mono (by decide)) (by rfl) (passes_call (takes_of rfl rfl rfl rfl) (fun _ _ _ _ h => h)) (pa_cons (pv 0) (pa_cons (pv 1) pa_nil))))
    (pss_cons (ps_set (i := 2) sc_placed.nd rfl (by first | exact Or.inl rfl | exact Or.inr rfl) (pe_op op_rep (pe_lst (pa_cons pe_bl pa_nil)) (pe_op op_add (pv 0) pe_int)))
    (pss_cons (ps_set (i := 3) sc_placed.nd rfl (by first | exact Or.inl rfl | exact Or.inr rfl) (pe_lst pa_nil))
    (pss_cons (ps_for (passes_of rfl) rfl (pi_seq (pv 1)) (pg_name (i := 4) sc_placed.nd rfl (by first | exact Or.inl rfl | exact Or.inr rfl))
    (pss_cons (ps_set (i := 5) sc_placed.nd rfl (by first | exact Or.inl rfl | exact Or.inr rfl) (pe_cb g_first_free (hr.mono (by decide)) (by rfl) pass0 (pa_cons (pv 2) (pa_cons (pv 4) pa_nil))))
    (pss_cons (ps_if (pt_cmp (pc_notN (pv 5)) rfl) (pss_one (ps_asg pe_bl (pg_sub (pv 2) (pv 5) set_list))) pss_nil)
    (pss_one (ps_expr (pe_bm PySem.F.plainAttrs_list PySem.F.slot_list_append PySem.F.type_list_append mt_append (pv 3) (pa_cons (pv 5) pa_nil)))))))
    (pss_one (ps_ret (pv 3)))))))

abbrev s_crowded : Stmt := topS 19
theorem sc_crowded : FnScope N_crowded ["berths", "wishes"] (defScope s_crowded) := ⟨rfl, rfl, rfl, by decide +kernel, rfl, by decide +kernel, by decide +kernel⟩
theorem ok_crowded (D : DF K mg "crowded" s_crowded ["berths", "wishes"] a.f_crowded) (T : Txt K mg a) (g_check_wishes : Cb P w K mg base (L2.CX P w) 4 "check_wishes" a.f_check_wishes ["berths", "wishes"] (sp_check_wishes K a)) : Cb P w K mg base (L2.CX P w) 5 "crowded" a.f_crowded ["berths", "wishes"] (sp_crowded K a) := by
  obtain ⟨⟨fd, F, bb⟩, gg⟩ := D
  refine ⟨⟨fd, F.okX sc_crowded (fun vs H Q E h => len_crowded h) (fun cdv A outer s H vs Q E hr h => ⟨t_crowded K a E, ?_, pu_crowded h⟩), bb⟩, gg, F.kp⟩
  exact (pss_cons (ps_expr (pe_cb g_check_wishes (hr.mono (by decide)) (by rfl) (passes_call (takes_of rfl rfl rfl rfl) (fun _ _ _ _ h => h)) (pa_cons (pv 0) (pa_cons (pv 1) pa_nil))))
    (pss_cons (ps_set (i := 2) sc_crowded.nd rfl (by first | exact Or.inl rfl | exact Or.inr rfl) (pe_op op_rep (pe_lst (pa_cons pe_int pa_nil)) (pe_op op_add (pv 0) pe_int)))
    (pss_cons (ps_for (passes_of rfl) rfl (pi_seq (pv 1)) (pg_name (i := 3) sc_crowded.nd rfl (by first | exact Or.inl rfl | exact Or.inr rfl))
    (pss_one (ps_augS (pv 2) (pv 3) gt_list pe_int ip_add set_list)))
    (pss_cons (ps_set (i := 4) sc_crowded.nd rfl (by first | exact Or.inl rfl | exact Or.inr rfl) pe_int)
    (pss_cons (ps_for (passes_of rfl) rfl (pi_range3 (by rfl) T.b_range (pa_cons (pv 0) (pa_cons pe_int (pa_cons (pe_un un_neg pe_int) pa_nil)))) (pg_name (i := 5) sc_crowded.nd rfl (by first | exact Or.inl rfl | exact Or.inr rfl))
    (pss_cons (ps_aug (i := 4) sc_crowded.nd rfl (by first | exact Or.inl rfl | exact Or.inr rfl) (pe_ix ix_list (pv 2) (pv 5) (fun _ _ => rfl)) ip_add)
    (pss_one (ps_if (pt_cmpR op_gt (pv 4) (pe_op op_add (pe_op op_sub (pv 0) (pv 5)) pe_int) (nomark _)) (pss_one (ps_ret (pv 5))) pss_nil))))
    (pss_one (ps_ret pe_non)))))))

abbrev s_is_good : Stmt := topS 18
theorem sc_is_good : FnScope N_is_good ["berths", "wishes"] (defScope s_is_good) := ⟨rfl, rfl, rfl, by decide +kernel, rfl, by decide +kernel, by decide +kernel⟩
theorem ok_is_good (D : DF K mg "is_good" s_is_good ["berths", "wishes"] a.f_is_good) (T : Txt K mg a) (g_crowded : Cb P w K mg base (L2.CX P w) 5 "crowded" a.f_crowded ["berths", "wishes"] (sp_crowded K a)) : Cb P w K mg base (L2.CX P w) 6 "is_good" a.f_is_good ["berths", "wishes"] (sp_is_good K a) := by
  obtain ⟨⟨fd, F, bb⟩, gg⟩ := D
  refine ⟨⟨fd, F.okX sc_is_good (fun vs H Q E h => len_is_good h) (fun cdv A outer s H vs Q E hr h => ⟨t_is_good K a E, ?_, pu_is_good h⟩), bb⟩, gg, F.kp⟩
  exact (pss_one (ps_ret (pe_cmp (pc_isN (pe_cb g_crowded (hr.mono (by decide)) (by rfl) (passes_call (takes_of rfl rfl rfl rfl) (fun _ _ _ _ h => h)) (pa_cons (pv 0) (pa_cons (pv 1) pa_nil)))) rfl)))

abbrev s_check_full_row : Stmt := topS 20
theorem sc_check_full_row : FnScope N_check_full_row ["wishes"] (defScope s_check_full_row) := ⟨rfl, rfl, rfl, by decide +kernel, rfl, by decide +kernel, by decide +kernel⟩
theorem ok_check_full_row (D : DF K mg "check_full_row" s_check_full_row ["wishes"] a.f_check_full_row) (T : Txt K mg a) (g_is_row : Cb P w K mg base CX0 1 "is_row" a.f_is_row ["thing"] (sp_is_row K a)) (g_is_good : Cb P w K mg base (L2.CX P w) 6 "is_good" a.f_is_good ["berths", "wishes"] (sp_is_good K a)) : Cb P w K mg base (L2.CX P w) 7 "check_full_row" a.f_check_full_row ["wishes"] (sp_check_full_row K a) := by
  obtain ⟨⟨fd, F, bb⟩, gg⟩ := D
  refine ⟨⟨fd, F.okX sc_check_full_row (fun vs H Q E h => len_check_full_row h) (fun cdv A outer s H vs Q E hr h => ⟨t_check_full_row K a E, ?_, pu_check_full_row h⟩), bb⟩, gg, F.kp⟩
  exact (pss_cons (ps_if (PW.pt (pw_or (pt_not (pt_val (pe_cb g_is_row (hr.mono (by decide)) (by rfl) pass0 (pa_cons (pv 0) pa_nil)))) (pw_or1 (pt_not (pt_chain op_le op_le pe_int (pe_callB call_len_seq (by rfl) T.b_len (by decide +kernel) (pa_cons (pv 0) pa_nil)) (pe_gl (by rfl) T.c_MOST)))))) (pss_one (ps_raise rfl (takes_of rfl rfl rfl rfl) (pmk_own PySem.F.excBase_ValueError T.e_NoWishes.x T.e_NoWishes.g T.e_NoWishes.k (raises_own T.e_NoWishes.b T.e_NoWishes.t) (by exact rfl)))) pss_nil)
    (pss_one (ps_if (pt_not (pt_val (pe_cb g_is_good (hr.mono (by decide)) (by rfl) (passes_call (takes_of rfl rfl rfl rfl) (fun _ _ _ _ h => h)) (pa_cons (pe_callB call_len_seq (by rfl) T.b_len (by decide +kernel) (pa_cons (pv 0) pa_nil)) (pa_cons (pv 0) pa_nil))))) (pss_one (ps_raise rfl (takes_of rfl rfl rfl rfl) (pmk_own PySem.F.excBase_ValueError T.e_NoWishes.x T.e_NoWishes.g T.e_NoWishes.k (raises_own T.e_NoWishes.b T.e_NoWishes.t) (by exact rfl)))) pss_nil)))

abbrev s_lies : Stmt := topS 22
theorem sc_lies : FnScope N_lies ["wishes"] (defScope s_lies) := ⟨rfl, rfl, rfl, by decide +kernel, rfl, by decide +kernel, by decide +kernel⟩
theorem ok_lies (D : DF K mg "lies" s_lies ["wishes"] a.f_lies) (T : Txt K mg a) (g_placed : Cb P w K mg base (L2.CX P w) 5 "placed" a.f_placed ["berths", "wishes"] (sp_placed K a)) (g_check_full_row : Cb P w K mg base (L2.CX P w) 7 "check_full_row" a.f_check_full_row ["wishes"] (sp_check_full_row K a)) : Cb P w K mg base (L2.CX P w) 8 "lies" a.f_lies ["wishes"] (sp_lies K a) := by
  obtain ⟨⟨fd, F, bb⟩, gg⟩ := D
  refine ⟨⟨fd, F.okX sc_lies (fun vs H Q E h => len_lies h) (fun cdv A outer s H vs Q E hr h => ⟨t_lies K a E, ?_, pu_lies h⟩), bb⟩, gg, F.kp⟩
  exact (pss_cons (ps_expr (pe_cb g_check_full_row (hr.mono (by decide)) (by rfl) (passes_call (takes_of rfl rfl rfl rfl) (fun _ _ _ _ h => h)) (pa_cons (pv 0) pa_nil)))
    (pss_cons (ps_set (i := 1) sc_lies.nd rfl (by first | exact Or.inl rfl | exact Or.inr rfl) (pe_op op_rep (pe_lst (pa_cons pe_int pa_nil)) (pe_callB call_len_seq (by rfl) T.b_len (by decide +kernel) (pa_cons (pv 0) pa_nil))))
    (pss_cons (ps_for (passes_of rfl) rfl (pi_enum (by rfl) T.b_enumerate (pa_cons (pe_cb g_placed (hr.mono (by decide)) (by rfl) (passes_call (takes_of rfl rfl rfl rfl) (fun _ _ _ _ h => h)) (pa_cons (pe_callB call_len_seq (by rfl) T.b_len (by decide +kernel) (pa_cons (pv 0) pa_nil)) (pa_cons (pv 0) pa_nil))) pa_nil)) (pg_tup rfl (pgs_cons (pg_name (i := 2) sc_lies.nd rfl (by first | exact Or.inl rfl | exact Or.inr rfl)) (pgs_cons (pg_name (i := 3) sc_lies.nd rfl (by first | exact Or.inl rfl | exact Or.inr rfl)) pgs_nil)))
    (pss_one (ps_asg (pv 2) (pg_sub (pv 1) (pe_op op_sub (pv 3) pe_int) set_list))))
    (pss_one (ps_ret (pe_callTy call_tuple_of (by rfl) T.b_tuple (by decide +kernel) (pa_cons (pv 1) pa_nil)))))))

abbrev s_p_check_order : Stmt := topS 25
theorem sc_p_check_order : FnScope N_p_check_order ["order"] (defScope s_p_check_order) := ⟨rfl, rfl, rfl, by decide +kernel, rfl, by decide +kernel, by decide +kernel⟩
theorem ok_p_check_order (D : DF K mg "_check_order" s_p_check_order ["order"] a.f_p_check_order) (T : Txt K mg a) (g_is_from_to : Cb P w K mg base CX0 2 "is_from_to" a.f_is_from_to ["low", "high", "thing"] (sp_is_from_to K a)) (g_is_row : Cb P w K mg base CX0 1 "is_row" a.f_is_row ["thing"] (sp_is_row K a)) : Cb P w K mg base (L2.CX P w) 3 "_check_order" a.f_p_check_order ["order"] (sp_p_check_order K a) := by
  obtain ⟨⟨fd, F, bb⟩, gg⟩ := D
  refine ⟨⟨fd, F.okX sc_p_check_order (fun vs H Q E h => len_p_check_order h) (fun cdv A outer s H vs Q E hr h => ⟨t_p_check_order K a E, ?_, pu_p_check_order h⟩), bb⟩, gg, F.kp⟩
  exact (pss_cons (ps_if (PW.pt (pw_or (pt_not (pt_val (pe_cb g_is_row (hr.mono (by decide)) (by rfl) pass0 (pa_cons (pv 0) pa_nil)))) (pw_or1 (pt_not (pt_chain op_le op_le pe_int (pe_callB call_len_seq (by rfl) T.b_len (by decide +kernel) (pa_cons (pv 0) pa_nil)) (pe_gl (by rfl) T.c_MOST)))))) (pss_one (ps_raise rfl (takes_of rfl rfl rfl rfl) (pmk_own PySem.F.excBase_ValueError T.e_NoOrder.x T.e_NoOrder.g T.e_NoOrder.k (raises_own T.e_NoOrder.b T.e_NoOrder.t) (by exact rfl)))) pss_nil)
    (pss_cons (ps_for (passes_of rfl) rfl (pi_seq (pv 0)) (pg_name (i := 1) sc_p_check_order.nd rfl (by first | exact Or.inl rfl | exact Or.inr rfl))
    (pss_one (ps_if (pt_not (pt_val (pe_cb g_is_from_to (hr.mono (by decide)) (by rfl) pass0 (pa_cons pe_int (pa_cons (pe_op op_sub (pe_callB call_len_seq (by rfl) T.b_len (by decide +kernel) (pa_cons (pv 0) pa_nil)) pe_int) (pa_cons (pv 1) pa_nil)))))) (pss_one (ps_raise rfl (takes_of rfl rfl rfl rfl) (pmk_own PySem.F.excBase_ValueError T.e_NoOrder.x T.e_NoOrder.g T.e_NoOrder.k (raises_own T.e_NoOrder.b T.e_NoOrder.t) (by exact rfl)))) pss_nil)))
    (pss_one (ps_if (pt_cmpR op_lt (pe_lenSetA rfl (by rfl) T.b_len (by rfl) T.b_set (pv 0)) (pe_callB call_len_seq (by rfl) T.b_len (by decide +kernel) (pa_cons (pv 0) pa_nil)) (nomark _)) (pss_one (ps_raise rfl (takes_of rfl rfl rfl rfl) (pmk_own PySem.F.excBase_ValueError T.e_NoOrder.x T.e_NoOrder.g T.e_NoOrder.k (raises_own T.e_NoOrder.b T.e_NoOrder.t) (by exact rfl)))) pss_nil))))

abbrev s_reaches : Stmt := topS 23
theorem sc_reaches : FnScope N_reaches ["order"] (defScope s_reaches) := ⟨rfl, rfl, rfl, by decide +kernel, rfl, by decide +kernel, by decide +kernel⟩
theorem ok_reaches (D : DF K mg "reaches" s_reaches ["order"] a.f_reaches) (T : Txt K mg a) (g_p_check_order : Cb P w K mg base (L2.CX P w) 3 "_check_order" a.f_p_check_order ["order"] (sp_p_check_order K a)) : Cb P w K mg base (L2.CX P w) 4 "reaches" a.f_reaches ["order"] (sp_reaches K a) := by
  obtain ⟨⟨fd, F, bb⟩, gg⟩ := D
  refine ⟨⟨fd, F.okX sc_reaches (fun vs H Q E h => len_reaches h) (fun cdv A outer s H vs Q E hr h => ⟨t_reaches K a E, ?_, pu_reaches h⟩), bb⟩, gg, F.kp⟩
  exact (pss_cons (ps_expr (pe_cb g_p_check_order (hr.mono (by decide)) (by rfl) (passes_call (takes_of rfl rfl rfl rfl) (fun _ _ _ _ h => h)) (pa_cons (pv 0) pa_nil)))
    (pss_cons (ps_set (i := 1) sc_reaches.nd rfl (by first | exact Or.inl rfl | exact Or.inr rfl) (pe_op op_rep (pe_lst (pa_cons (pe_tup (pa_cons pe_int (pa_cons pe_int pa_nil))) pa_nil)) (pe_callB call_len_seq (by rfl) T.b_len (by decide +kernel) (pa_cons (pv 0) pa_nil))))
    (pss_cons (ps_for (passes_of rfl) rfl (pi_enumS (by rfl) T.b_enumerate (pa_cons (pv 0) pa_nil)) (pg_tup rfl (pgs_cons (pg_name (i := 2) sc_reaches.nd rfl (by first | exact Or.inl rfl | exact Or.inr rfl)) (pgs_cons (pg_name (i := 3) sc_reaches.nd rfl (by first | exact Or.inl rfl | exact Or.inr rfl)) pgs_nil)))
    (pss_cons (ps_set (i := 4) sc_reaches.nd rfl (by first | exact Or.inl rfl | exact Or.inr rfl) (pv 2))
    (pss_cons (ps_while (passes_of rfl) (PW.pt (pw_and (pt_cmpR op_gt (pv 4) pe_int (nomark _)) (pw_and1 (pt_cmpR op_lt (pe_ix ix_seq (pv 0) (pe_op op_sub (pv 4) pe_int) (fun _ _ => rfl)) (pv 3) (nomark _))))) (pss_one (ps_aug (i := 4) sc_reaches.nd rfl (by first | exact Or.inl rfl | exact Or.inr rfl) pe_int ip_sub)))
    (pss_one (ps_asg (pe_tup (pa_cons (pe_op op_add (pv 4) pe_int) (pa_cons (pe_op op_add (pv 2) pe_int) pa_nil))) (pg_sub (pv 1) (pv 3) set_list))))))
    (pss_one (ps_ret (pv 1))))))

abbrev s_rows_to : Stmt := topS 24
theorem sc_rows_to : FnScope N_rows_to ["order"] (defScope s_rows_to) := ⟨rfl, rfl, rfl, by decide +kernel, rfl, by decide +kernel, by decide +kernel⟩
theorem ok_rows_to (D : DF K mg "rows_to" s_rows_to ["order"] a.f_rows_to) (T : Txt K mg a) (g_reaches : Cb P w K mg base (L2.CX P w) 4 "reaches" a.f_reaches ["order"] (sp_reaches K a)) : Cb P w K mg base (L2.CX P w) 5 "rows_to" a.f_rows_to ["order"] (sp_rows_to K a) := by
  obtain ⟨⟨fd, F, bb⟩, gg⟩ := D
  refine ⟨⟨fd, F.okX sc_rows_to (fun vs H Q E h => len_rows_to h) (fun cdv A outer s H vs Q E hr h => ⟨t_rows_to K a E, ?_, pu_rows_to h⟩), bb⟩, gg, F.kp⟩
  exact (pss_cons (ps_set (i := 1) sc_rows_to.nd rfl (by first | exact Or.inl rfl | exact Or.inr rfl) pe_int)
    (pss_cons (ps_for (passes_of rfl) rfl (pi_list (pe_cb g_reaches (hr.mono (by decide)) (by rfl) (passes_call (takes_of rfl rfl rfl rfl) (fun _ _ _ _ h => h)) (pa_cons (pv 0) pa_nil))) (pg_tup rfl (pgs_cons (pg_name (i := 2) sc_rows_to.nd rfl (by first | exact Or.inl rfl | exact Or.inr rfl)) (pgs_cons (pg_name (i := 3) sc_rows_to.nd rfl (by first | exact Or.inl rfl | exact Or.inr rfl)) pgs_nil)))
    (pss_one (ps_set (i := 1) sc_rows_to.nd rfl (by first | exact Or.inl rfl | exact Or.inr rfl) (pe_op op_mul (pv 1) (pe_op op_add (pe_op op_sub (pv 3) (pv 2)) pe_int)))))
    (pss_one (ps_ret (pv 1)))))

abbrev s_l_cell_at : Stmt := topS 27
theorem sc_l_cell_at : FnScope N_l_cell_at ["_law_script", "_law_k"] (defScope s_l_cell_at) := ⟨rfl, rfl, rfl, by decide +kernel, rfl, by decide +kernel, by decide +kernel⟩
theorem ok_l_cell_at (D : DF K mg "_law_cell_at" s_l_cell_at ["_law_script", "_law_k"] a.f_l_cell_at) (T : Txt K mg a) : Cb P w K mg base CX0 1 "_law_cell_at" a.f_l_cell_at ["_law_script", "_law_k"] (sp_l_cell_at K) := by
  obtain ⟨⟨fd, F, bb⟩, gg⟩ := D
  refine ⟨⟨fd, F.ok sc_l_cell_at (fun vs H Q E h => len_l_cell_at h) (fun cdv A outer s H vs Q E hr h => ⟨t_l_cell_at K a, ?_, pu_l_cell_at h⟩), bb⟩, gg, F.kp⟩
  exact (pss_cons (ps_if (pt_cmpR op_lt (pv 1) (pe_callB call_len_seq (by rfl) T.b_len (by decide +kernel) (pa_cons (pv 0) pa_nil)) (nomark _)) (pss_one (ps_ret (pe_ix ix_list (pv 0) (pv 1) (fun _ _ => rfl)))) pss_nil)
    (pss_one (ps_ret pe_int)))

abbrev s_l_mix : Stmt := topS 28
theorem sc_l_mix : FnScope N_l_mix ["_law_state", "_law_cell"] (defScope s_l_mix) := ⟨rfl, rfl, rfl, by decide +kernel, rfl, by decide +kernel, by decide +kernel⟩
theorem ok_l_mix (D : DF K mg "_law_mix" s_l_mix ["_law_state", "_law_cell"] a.f_l_mix) (T : Txt K mg a) : Cb P w K mg base CX0 1 "_law_mix" a.f_l_mix ["_law_state", "_law_cell"] (sp_l_mix K) := by
  obtain ⟨⟨fd, F, bb⟩, gg⟩ := D
  refine ⟨⟨fd, F.ok sc_l_mix (fun vs H Q E h => len_l_mix h) (fun cdv A outer s H vs Q E hr h => ⟨t_l_mix K a, ?_, pu_l_mix h⟩), bb⟩, gg, F.kp⟩
  exact (pss_cons (ps_asg (pe_op op_mod (pe_op op_add (pe_op op_add (pe_op op_mul (pe_ix ix_list (pv 0) pe_int (fun _ _ => rfl)) pe_int) (pe_op op_mul (pv 1) pe_int)) pe_int) pe_int) (pg_sub (pv 0) pe_int set_list))
    (pss_one (ps_ret (pe_op op_fdiv (pe_op op_mod (pe_op op_mul (pe_ix ix_list (pv 0) pe_int (fun _ _ => rfl)) (pe_ix ix_list (pv 0) pe_int (fun _ _ => rfl))) pe_int) pe_int))))

abbrev s_l_whole : Stmt := topS 29
theorem sc_l_whole : FnScope N_l_whole ["_law_found"] (defScope s_l_whole) := ⟨rfl, rfl, rfl, by decide +kernel, rfl, by decide +kernel, by decide +kernel⟩
theorem ok_l_whole (D : DF K mg "_law_whole" s_l_whole ["_law_found"] a.f_l_whole) (T : Txt K mg a) : Cb P w K mg base CX0 1 "_law_whole" a.f_l_whole ["_law_found"] (sp_l_whole K) := by
  obtain ⟨⟨fd, F, bb⟩, gg⟩ := D
  refine ⟨⟨fd, F.ok sc_l_whole (fun vs H Q E h => len_l_whole h) (fun cdv A outer s H vs Q E hr h => ⟨t_l_whole K a, ?_, pu_l_whole h⟩), bb⟩, gg, F.kp⟩
  exact (pss_one (ps_ret (pe_and (pe_callB call_isi (by rfl) T.b_isinstance (by decide +kernel) (pa_cons (pv 0) (pa_cons (pe_bltn (by rfl) T.b_int (by decide +kernel) rfl) pa_nil))) (pe_one (pe_not (pe_callB call_isi (by rfl) T.b_isinstance (by decide +kernel) (pa_cons (pv 0) (pa_cons (pe_bltn (by rfl) T.b_bool (by decide +kernel) rfl) pa_nil))))))))

abbrev s_l_order : Stmt := topS 30
theorem sc_l_order : FnScope N_l_order ["_law_script", "_law_many", "_law_first"] (defScope s_l_order) := ⟨rfl, rfl, rfl, by decide +kernel, rfl, by decide +kernel, by decide +kernel⟩
theorem ok_l_order (D : DF K mg "_law_order" s_l_order ["_law_script", "_law_many", "_law_first"] a.f_l_order) (T : Txt K mg a) (g_l_cell_at : Cb P w K mg base CX0 1 "_law_cell_at" a.f_l_cell_at ["_law_script", "_law_k"] (sp_l_cell_at K)) (g_l_mix : Cb P w K mg base CX0 1 "_law_mix" a.f_l_mix ["_law_state", "_law_cell"] (sp_l_mix K)) : Cb P w K mg base CX0 2 "_law_order" a.f_l_order ["_law_script", "_law_many", "_law_first"] (sp_l_order K) := by
  obtain ⟨⟨fd, F, bb⟩, gg⟩ := D
  refine ⟨⟨fd, F.ok sc_l_order (fun vs H Q E h => len_l_order h) (fun cdv A outer s H vs Q E hr h => ⟨t_l_order K a, ?_, pu_l_order h⟩), bb⟩, gg, F.kp⟩
  exact (pss_cons (ps_set (i := 3) sc_l_order.nd rfl (by first | exact Or.inl rfl | exact Or.inr rfl) (pe_lst (pa_cons (pe_op op_add pe_int (pe_op op_mod (pe_cb g_l_cell_at (hr.mono (by decide)) (by rfl) pass0 (pa_cons (pv 0) (pa_cons (pv 2) pa_nil))) pe_int)) pa_nil)))
    (pss_cons (ps_set (i := 4) sc_l_order.nd rfl (by first | exact Or.inl rfl | exact Or.inr rfl) (pe_listRg rfl (by rfl) T.b_list (prg_1 (by rfl) T.b_range (pv 1))))
    (pss_cons (ps_set (i := 5) sc_l_order.nd rfl (by first | exact Or.inl rfl | exact Or.inr rfl) (pe_lst pa_nil))
    (pss_cons (ps_for PassesOwn.never rfl (pi_range1 (by rfl) T.b_range (pa_cons (pv 1) pa_nil)) (pg_name (i := 6) sc_l_order.nd rfl (by first | exact Or.inl rfl | exact Or.inr rfl))
    (pss_one (ps_expr (pe_bm PySem.F.plainAttrs_list PySem.F.slot_list_append PySem.F.type_list_append mt_append (pv 5) (pa_cons (pe_bm PySem.F.plainAttrs_list PySem.F.slot_list_pop PySem.F.type_list_pop mt_popAt (pv 4) (pa_cons (pe_op op_mod (pe_cb g_l_mix (hr.mono (by decide)) (by rfl) pass0 (pa_cons (pv 3) (pa_cons (pe_cb g_l_cell_at (hr.mono (by decide)) (by rfl) pass0 (pa_cons (pv 0) (pa_cons (pe_op op_add (pe_op op_add (pv 2) pe_int) (pe_op op_mod (pv 6) pe_int)) pa_nil))) pa_nil))) (pe_callB call_len_seq (by rfl) T.b_len (by decide +kernel) (pa_cons (pv 4) pa_nil))) pa_nil)) pa_nil)))))
    (pss_one (ps_ret (pv 5)))))))

abbrev s_l_word : Stmt := topS 31
theorem sc_l_word : FnScope N_l_word ["_law_act", "_law_thing"] (defScope s_l_word) := ⟨rfl, rfl, rfl, by decide +kernel, rfl, by decide +kernel, by decide +kernel⟩
theorem ok_l_word (D : DF K mg "_law_word" s_l_word ["_law_act", "_law_thing"] a.f_l_word) (T : Txt K mg a) (g_lies : Cb P w K mg base (L2.CX P w) 8 "lies" a.f_lies ["wishes"] (sp_lies K a)) (g_reaches : Cb P w K mg base (L2.CX P w) 4 "reaches" a.f_reaches ["order"] (sp_reaches K a)) (g_rows_to : Cb P w K mg base (L2.CX P w) 5 "rows_to" a.f_rows_to ["order"] (sp_rows_to K a)) : Cb P w K mg base CX0 9 "_law_word" a.f_l_word ["_law_act", "_law_thing"] (sp_l_word K a) := by
  obtain ⟨⟨fd, F, bb⟩, gg⟩ := D
  refine ⟨⟨fd, F.ok sc_l_word (fun vs H Q E h => len_l_word h) (fun cdv A outer s H vs Q E hr h => ⟨t_l_word K a, ?_, pu_l_word ⟨exm_of T.g_BerthError T.s_NoOrder_BerthError, T.g_NoOrder.c, kit_ref T.g_NoCount T.s_NoOrder_NoCount, kit_ref T.g_NoTree T.s_NoOrder_NoTree, kit_ref T.g_NoQuay T.s_NoOrder_NoQuay, kit_ref T.g_TooMany T.s_NoOrder_TooMany, kit_ref T.g_NoOrder T.s_NoOrder_NoOrder, kit_ref T.g_NoWishes T.s_NoOrder_NoWishes⟩ ⟨exm_of T.g_BerthError T.s_NoWishes_BerthError, T.g_NoWishes.c, kit_ref T.g_NoCount T.s_NoWishes_NoCount, kit_ref T.g_NoTree T.s_NoWishes_NoTree, kit_ref T.g_NoQuay T.s_NoWishes_NoQuay, kit_ref T.g_TooMany T.s_NoWishes_TooMany, kit_ref T.g_NoOrder T.s_NoWishes_NoOrder, kit_ref T.g_NoWishes T.s_NoWishes_NoWishes⟩ h⟩), bb⟩, gg, F.kp⟩
  exact (pss_cons (ps_set (i := 2) sc_l_word.nd rfl (by first | exact Or.inl rfl | exact Or.inr rfl) pe_non)
    (pss_cons (ps_try_keep (i := 3) (j := 2) (tb := fun W => (tDrop (tCallD 0 (S_ord K a) (WE W) (tCons (tVar 1) tNil)))) rfl rfl rfl sc_l_word.nd rfl rfl ⟨rfl, by decide, .inl T.e_BerthError.g⟩ (fun W pn xe tk _ => (pss_one (ps_expr (pe_callD (kk := 8) (i := 0) (A_ord g_lies g_reaches g_rows_to (by decide) (by decide) (by decide)) (hr.mono (by decide)) (fun s => passAt tk s) (pa_cons (pv 1) pa_nil))))) (fun _ _ _ _ _ _ _ => pss_one (ps_set (i := 2) sc_l_word.nd rfl (.inl rfl) (pv 3))))
    (pss_cons (ps_set (i := 4) sc_l_word.nd rfl (by first | exact Or.inl rfl | exact Or.inr rfl) (pe_lst (pa_cons (pe_callB call_isiE (by rfl) T.b_isinstance (by decide +kernel) (pa_cons (pv 2) (pa_cons (pe_glob (by rfl) T.e_NoCount.g rfl) pa_nil))) (pa_cons (pe_callB call_isiE (by rfl) T.b_isinstance (by decide +kernel) (pa_cons (pv 2) (pa_cons (pe_glob (by rfl) T.e_NoTree.g rfl) pa_nil))) (pa_cons (pe_callB call_isiE (by rfl) T.b_isinstance (by decide +kernel) (pa_cons (pv 2) (pa_cons (pe_glob (by rfl) T.e_NoQuay.g rfl) pa_nil))) pa_nil)))))
    (pss_cons (ps_if (PW.pt (pw_or (pt_cmpR op_in_seq pe_bl (pv 4) (by rfl)) (pw_or (pt_val (pe_callB call_isiE (by rfl) T.b_isinstance (by decide +kernel) (pa_cons (pv 2) (pa_cons (pe_glob (by rfl) T.e_TooMany.g rfl) pa_nil)))) (pw_or1 (pt_cmp (pc_isN (pv 2)) rfl))))) (pss_one (ps_ret pe_str)) pss_nil)
    (pss_one (ps_ret (pe_op op_add_str (pe_ix ix_list (pe_lst (pa_cons pe_str (pa_cons pe_str pa_nil))) (pe_callTy call_int1 (by rfl) T.b_int (by decide +kernel) (pa_cons (pe_callB call_isiE (by rfl) T.b_isinstance (by decide +kernel) (pa_cons (pv 2) (pa_cons (pe_glob (by rfl) T.e_NoOrder.g rfl) pa_nil))) pa_nil)) (fun _ _ => rfl)) (pe_ix ix_list (pe_lst (pa_cons pe_str (pa_cons pe_str pa_nil))) (pe_callTy call_int1 (by rfl) T.b_int (by decide +kernel) (pa_cons (pe_callB call_isiE (by rfl) T.b_isinstance (by decide +kernel) (pa_cons (pv 2) (pa_cons (pe_glob (by rfl) T.e_NoWishes.g rfl) pa_nil))) pa_nil)) (fun _ _ => rfl)))))))))

abbrev s_l_right : Stmt := topS 32
theorem sc_l_right : FnScope N_l_right ["_law_state", "_law_order_here"] (defScope s_l_right) := ⟨rfl, rfl, rfl, by decide +kernel, rfl, by decide +kernel, by decide +kernel⟩
theorem ok_l_right (D : DF K mg "_law_right" s_l_right ["_law_state", "_law_order_here"] a.f_l_right) (T : Txt K mg a) (g_is_good : Cb P w K mg base (L2.CX P w) 6 "is_good" a.f_is_good ["berths", "wishes"] (sp_is_good K a)) (g_lies : Cb P w K mg base (L2.CX P w) 8 "lies" a.f_lies ["wishes"] (sp_lies K a)) (g_reaches : Cb P w K mg base (L2.CX P w) 4 "reaches" a.f_reaches ["order"] (sp_reaches K a)) (g_rows_to : Cb P w K mg base (L2.CX P w) 5 "rows_to" a.f_rows_to ["order"] (sp_rows_to K a)) (g_l_mix : Cb P w K mg base CX0 1 "_law_mix" a.f_l_mix ["_law_state", "_law_cell"] (sp_l_mix K)) (g_l_whole : Cb P w K mg base CX0 1 "_law_whole" a.f_l_whole ["_law_found"] (sp_l_whole K)) : Cb P w K mg base CX0 9 "_law_right" a.f_l_right ["_law_state", "_law_order_here"] (sp_l_right K) := by
  obtain ⟨⟨fd, F, bb⟩, gg⟩ := D
  refine ⟨⟨fd, F.ok sc_l_right (fun vs H Q E h => len_l_right h) (fun cdv A outer s H vs Q E hr h => ⟨t_l_right K a, ?_, pu_l_right h⟩), bb⟩, gg, F.kp⟩
  exact (pss_cons (ps_set (i := 2) sc_l_right.nd rfl (by first | exact Or.inl rfl | exact Or.inr rfl) (pe_cb g_reaches (hr.mono (by decide)) (by rfl) passL (pa_cons (pe_callTy call_list_of (by rfl) T.b_list (by decide +kernel) (pa_cons (pv 1) pa_nil)) pa_nil)))
    (pss_cons (ps_if (PW.pt (pw_or (pt_not (pt_val (pe_callB call_isi (by rfl) T.b_isinstance (by decide +kernel) (pa_cons (pv 2) (pa_cons (pe_bltn (by rfl) T.b_list (by decide +kernel) rfl) pa_nil))))) (pw_or1 (pt_cmpR op_ne (pe_callB call_len_seq (by rfl) T.b_len (by decide +kernel) (pa_cons (pv 2) pa_nil)) (pe_callB call_len_seq (by rfl) T.b_len (by decide +kernel) (pa_cons (pv 1) pa_nil)) (nomark _))))) (pss_one (ps_ret pe_bl)) pss_nil)
    (pss_cons (ps_set (i := 3) sc_l_right.nd rfl (by first | exact Or.inl rfl | exact Or.inr rfl) (pe_lst (pa_cons (pe_lst pa_nil) (pa_cons (pe_lst pa_nil) (pa_cons (pe_lst pa_nil) pa_nil)))))
    (pss_cons (ps_set (i := 4) sc_l_right.nd rfl (by first | exact Or.inl rfl | exact Or.inr rfl) pe_int)
    (pss_cons (ps_for PassesOwn.never rfl (pi_range1 (by rfl) T.b_range (pa_cons (pe_callB call_len_seq (by rfl) T.b_len (by decide +kernel) (pa_cons (pv 1) pa_nil)) pa_nil)) (pg_name (i := 5) sc_l_right.nd rfl (by first | exact Or.inl rfl | exact Or.inr rfl))
    (pss_cons (ps_asg (pe_ix ix_list (pv 2) (pv 5) (fun _ _ => rfl)) (pg_tup rfl (pgs_cons (pg_name (i := 6) sc_l_right.nd rfl (by first | exact Or.inl rfl | exact Or.inr rfl)) (pgs_cons (pg_name (i := 7) sc_l_right.nd rfl (by first | exact Or.inl rfl | exact Or.inr rfl)) pgs_nil))))
    (pss_cons (ps_if (PW.pt (pw_or (pt_not (pt_val (pe_callB call_isi (by rfl) T.b_isinstance (by decide +kernel) (pa_cons (pe_ix ix_list (pv 2) (pv 5) (fun _ _ => rfl)) (pa_cons (pe_bltn (by rfl) T.b_tuple (by decide +kernel) rfl) pa_nil))))) (pw_or (pt_not (pt_chain op_le op_le pe_int (pv 6) (pv 7))) (pw_or1 (pt_cmpR op_ne (pv 7) (pe_op op_add (pe_bm PySem.F.plainAttrs_list PySem.F.slot_list_index PySem.F.type_list_index mt_index (pv 1) (pa_cons (pv 5) pa_nil)) pe_int) (nomark _)))))) (pss_one (ps_ret pe_bl)) pss_nil)
    (pss_cons (ps_set (i := 4) sc_l_right.nd rfl (by first | exact Or.inl rfl | exact Or.inr rfl) (pe_op op_mul (pv 4) (pe_op op_sub (pe_op op_add (pv 7) pe_int) (pv 6))))
    (pss_cons (ps_expr (pe_bm PySem.F.plainAttrs_list PySem.F.slot_list_append PySem.F.type_list_append mt_append (pe_ix ix_list (pv 3) pe_int (fun _ _ => rfl)) (pa_cons (pv 6) pa_nil)))
    (pss_cons (ps_expr (pe_bm PySem.F.plainAttrs_list PySem.F.slot_list_append PySem.F.type_list_append mt_append (pe_ix ix_list (pv 3) pe_int (fun _ _ => rfl)) (pa_cons (pv 7) pa_nil)))
    (pss_one (ps_expr (pe_bm PySem.F.plainAttrs_list PySem.F.slot_list_append PySem.F.type_list_append mt_append (pe_ix ix_list (pv 3) pe_int (fun _ _ => rfl)) (pa_cons (pe_op op_add (pv 6) (pe_op op_mod (pe_cb g_l_mix (hr.mono (by decide)) (by rfl) pass0 (pa_cons (pv 0) (pa_cons (pv 5) pa_nil))) (pe_op op_sub (pe_op op_add (pv 7) pe_int) (pv 6)))) pa_nil))))))))))
    (pss_cons (ps_for PassesOwn.never rfl (pi_list (pv 3)) (pg_name (i := 8) sc_l_right.nd rfl (by first | exact Or.inl rfl | exact Or.inr rfl))
    (pss_one (ps_if (pt_cmpR (op_neT hr.units) (pe_cb g_lies (hr.mono (by decide)) (by rfl) passL (pa_cons (pv 8) pa_nil)) (pe_callTy call_tuple_of (by rfl) T.b_tuple (by decide +kernel) (pa_cons (pv 1) pa_nil)) (nomark _)) (pss_one (ps_ret pe_bl)) pss_nil)))
    (pss_cons (ps_set (i := 9) sc_l_right.nd rfl (by first | exact Or.inl rfl | exact Or.inr rfl) (pe_cb g_rows_to (hr.mono (by decide)) (by rfl) passL (pa_cons (pe_callTy call_tuple_of (by rfl) T.b_tuple (by decide +kernel) (pa_cons (pv 1) pa_nil)) pa_nil)))
    (pss_cons (ps_if (PW.pt (pw_or (pt_not (pt_val (pe_cb g_l_whole (hr.mono (by decide)) (by rfl) pass0 (pa_cons (pv 9) pa_nil)))) (pw_or1 (pt_cmpR op_ne (pv 9) (pv 4) (nomark _))))) (pss_one (ps_ret pe_bl)) pss_nil)
    (pss_cons (ps_set (i := 10) sc_l_right.nd rfl (by first | exact Or.inl rfl | exact Or.inr rfl) (pe_op op_mod (pe_cb g_l_mix (hr.mono (by decide)) (by rfl) pass0 (pa_cons (pv 0) (pa_cons pe_int pa_nil))) (pe_callB call_len_seq (by rfl) T.b_len (by decide +kernel) (pa_cons (pv 1) pa_nil))))
    (pss_cons (ps_for PassesOwn.never rfl (pi_list (pe_lst (pa_cons (pe_op op_sub (pe_ix ix_tup (pe_ix ix_list (pv 2) (pv 10) (fun _ _ => rfl)) pe_int (fun _ _ => rfl)) pe_int) (pa_cons (pe_op op_add (pe_ix ix_tup (pe_ix ix_list (pv 2) (pv 10) (fun _ _ => rfl)) pe_int (fun _ _ => rfl)) pe_int) pa_nil)))) (pg_name (i := 11) sc_l_right.nd rfl (by first | exact Or.inl rfl | exact Or.inr rfl))
    (pss_cons (ps_set (i := 12) sc_l_right.nd rfl (by first | exact Or.inl rfl | exact Or.inr rfl) (pe_op op_cat (pe_op op_cat (pe_slice sl_list (pe_ix ix_list (pv 3) pe_int (fun _ _ => rfl)) po_none (po_some (pv 10))) (pe_lst (pa_cons (pv 11) pa_nil))) (pe_slice sl_list (pe_ix ix_list (pv 3) pe_int (fun _ _ => rfl)) (po_some (pe_op op_add (pv 10) pe_int)) po_none)))
    (pss_one (ps_if (PW.pt (pw_and (pt_chain op_le op_le pe_int (pv 11) (pe_callB call_len_seq (by rfl) T.b_len (by decide +kernel) (pa_cons (pv 1) pa_nil))) (pw_and (pt_val (pe_cb g_is_good (hr.mono (by decide)) (by rfl) passL (pa_cons (pe_callB call_len_seq (by rfl) T.b_len (by decide +kernel) (pa_cons (pv 1) pa_nil)) (pa_cons (pv 12) pa_nil)))) (pw_and1 (pt_cmpR (op_eqT hr.units) (pe_cb g_lies (hr.mono (by decide)) (by rfl) passL (pa_cons (pv 12) pa_nil)) (pe_callTy call_tuple_of (by rfl) T.b_tuple (by decide +kernel) (pa_cons (pv 1) pa_nil)) (nomark _)))))) (pss_one (ps_ret pe_bl)) pss_nil))))
    (pss_one (ps_ret pe_bl))))))))))))

abbrev s_law : Stmt := topS 33
theorem sc_law : FnScope N_law ["_law_script"] (defScope s_law) := ⟨rfl, rfl, rfl, by decide +kernel, rfl, by decide +kernel, by decide +kernel⟩
theorem ok_law {f : Addr} {fd : FuncData} (F : Fun K "law" "law" s_law f fd) (T : Txt K mg a) (g_lies : Cb P w K mg base (L2.CX P w) 8 "lies" a.f_lies ["wishes"] (sp_lies K a)) (g_reaches : Cb P w K mg base (L2.CX P w) 4 "reaches" a.f_reaches ["order"] (sp_reaches K a)) (g_rows_to : Cb P w K mg base (L2.CX P w) 5 "rows_to" a.f_rows_to ["order"] (sp_rows_to K a)) (g_l_cell_at : Cb P w K mg base CX0 1 "_law_cell_at" a.f_l_cell_at ["_law_script", "_law_k"] (sp_l_cell_at K)) (g_l_order : Cb P w K mg base CX0 2 "_law_order" a.f_l_order ["_law_script", "_law_many", "_law_first"] (sp_l_order K)) (g_l_word : Cb P w K mg base CX0 9 "_law_word" a.f_l_word ["_law_act", "_law_thing"] (sp_l_word K a)) (g_l_right : Cb P w K mg base CX0 9 "_law_right" a.f_l_right ["_law_state", "_law_order_here"] (sp_l_right K)) : FnOk P w K mg base CX0 10 f fd ["_law_script"] (sp_law K) := by
  refine F.ok sc_law (fun vs H Q E h => len_law h) (fun cdv A outer s H vs Q E hr h => ⟨t_law K a, ?_, pu_law h⟩)
  exact (pss_cons (ps_for PassesOwn.never rfl (pi_range1 (by rfl) T.b_range (pa_cons (pe_op op_add pe_int (pe_callB (call_min2 rfl) (by rfl) T.b_min (by decide +kernel) (pa_cons pe_int (pa_cons (pe_callB call_len_seq (by rfl) T.b_len (by decide +kernel) (pa_cons (pv 0) pa_nil)) pa_nil)))) pa_nil)) (pg_name (i := 1) sc_law.nd rfl (by first | exact Or.inl rfl | exact Or.inr rfl))
    (pss_cons (ps_set (i := 2) sc_law.nd rfl (by first | exact Or.inl rfl | exact Or.inr rfl) (pe_cb g_l_cell_at (hr.mono (by decide)) (by rfl) pass0 (pa_cons (pv 0) (pa_cons (pv 1) pa_nil))))
    (pss_cons (ps_set (i := 3) sc_law.nd rfl (by first | exact Or.inl rfl | exact Or.inr rfl) (pe_ix ix_list (pe_lst (pa_cons (pe_op op_add pe_int (pe_op op_mod (pv 2) pe_int)) (pa_cons (pe_op op_add pe_int (pe_op op_mod (pe_op op_fdiv (pv 2) pe_int) pe_int)) pa_nil))) (pe_op op_fdiv (pe_op op_mod (pv 2) pe_int) pe_int) (fun _ _ => rfl)))
    (pss_cons (ps_set (i := 4) sc_law.nd rfl (by first | exact Or.inl rfl | exact Or.inr rfl) (pe_cb g_l_order (hr.mono (by decide)) (by rfl) pass0 (pa_cons (pv 0) (pa_cons (pv 3) (pa_cons (pv 1) pa_nil)))))
    (pss_cons (ps_set (i := 5) sc_law.nd rfl (by first | exact Or.inl rfl | exact Or.inr rfl) (pe_lst (pa_cons (pe_op op_add pe_int (pe_op op_mod (pe_cb g_l_cell_at (hr.mono (by decide)) (by rfl) pass0 (pa_cons (pv 0) (pa_cons (pv 1) pa_nil))) pe_int)) pa_nil)))
    (pss_one (ps_if (pt_not (pt_val (pe_cb g_l_right (hr.mono (by decide)) (by rfl) pass0 (pa_cons (pv 5) (pa_cons (pv 4) pa_nil))))) (pss_one (ps_ret pe_bl)) pss_nil)))))))
    (pss_cons (ps_set (i := 6) sc_law.nd rfl (by first | exact Or.inl rfl | exact Or.inr rfl) (pe_lst (pa_cons (pe_tup pa_nil) (pa_cons (pe_lst pa_nil) (pa_cons pe_non (pa_cons pe_int (pa_cons (pe_tup (pa_cons pe_int (pa_cons pe_int pa_nil))) (pa_cons (pe_tup (pa_cons pe_int pa_nil)) (pa_cons (pe_tup (pa_cons pe_int (pa_cons pe_int pa_nil))) (pa_cons (pe_tup (pa_cons pe_int (pa_cons pe_bl pa_nil))) (pa_cons (pe_tup (pa_cons pe_int (pa_cons pe_int pa_nil))) (pa_cons (pe_lst (pa_cons pe_int (pa_cons pe_str pa_nil))) (pa_cons (pe_tup (pa_cons pe_int (pa_cons pe_int (pa_cons pe_int pa_nil)))) (pa_cons (pe_disp (pps_cons pe_int pe_int pps_nil) (by rfl) (by rfl) (fun z => by cases z) (by decide)) pa_nil))))))))))))))
    (pss_cons (ps_for PassesOwn.never rfl (pi_list (pe_op op_cat (pv 6) (pe_lst (pa_cons (pe_tupRg rfl (by rfl) T.b_tuple (prg_1 (by rfl) T.b_range pe_int)) pa_nil)))) (pg_name (i := 7) sc_law.nd rfl (by first | exact Or.inl rfl | exact Or.inr rfl))
    (pss_one (ps_if (PW.pt (pw_or (pt_cmpR op_ne (pe_cb g_l_word (hr.mono (by decide)) (by rfl) pass0 (pa_cons (pe_glob (by rfl) g_reaches.g rfl) (pa_cons (pv 7) pa_nil))) pe_str (nomark _)) (pw_or1 (pt_cmpR op_ne (pe_cb g_l_word (hr.mono (by decide)) (by rfl) pass0 (pa_cons (pe_glob (by rfl) g_rows_to.g rfl) (pa_cons (pv 7) pa_nil))) pe_str (nomark _))))) (pss_one (ps_ret pe_bl)) pss_nil)))
    (pss_one (ps_ret (pe_cmpR (op_eqT hr.units) (pe_lc (own := [("_law_thing", 7)]) rfl sc_law.nd (pi_list (pe_lst (pa_cons (pe_tup (pa_cons pe_int pa_nil)) (pa_cons (pe_lst pa_nil) (pa_cons pe_non (pa_cons (pe_tup (pa_cons pe_int (pa_cons pe_int pa_nil))) (pa_cons (pe_tup (pa_cons pe_int pa_nil)) (pa_cons (pe_lst (pa_cons pe_int (pa_cons pe_bl pa_nil))) pa_nil)))))))) (blkOk_by (N := N_law) (sc := defScope s_law) (by decide +kernel)) (fun _ _ _ _ _ => (pg_name (i := 7) sc_law.nd rfl (by first | exact Or.inl rfl | exact Or.inr rfl))) (fun _ _ _ _ _ => pts_nil) (fun _ _ _ _ _ => (pe_cb g_l_word (hr.mono (by decide)) (by rfl) pass0 (pa_cons (pe_glob (by rfl) g_lies.g rfl) (pa_cons (pv 7) pa_nil))))) (pe_op op_rep (pe_lst (pa_cons pe_str pa_nil)) pe_int) (nomark _)))))))
end
theorem all_mk {P : Program} {w : World} {K : PySem.W.Frag} {h : Heap} {mg : Str → Option Value} {fa : Addr} (X : K.In h) (G : h.Ns mainGlobals mg) (hfa : mg "law" = some (.ref fa))
    {f_is_number f_is_from_to f_is_row f_check_quay f_check_wishes f_first_free f_placed f_crowded f_is_good f_check_full_row f_lies f_p_check_order f_reaches f_rows_to f_l_cell_at f_l_mix f_l_whole f_l_order f_l_word f_l_right f_law e_BerthError e_NoCount e_NoOrder e_NoQuay e_NoTree e_NoWishes e_TooMany : Addr}
    {od_is_number an_is_number od_is_from_to an_is_from_to od_is_row an_is_row od_check_quay an_check_quay od_check_wishes an_check_wishes od_first_free an_first_free od_placed an_placed od_crowded an_crowded od_is_good an_is_good od_check_full_row an_check_full_row od_lies an_lies od_p_check_order an_p_check_order od_reaches an_reaches od_rows_to an_rows_to od_l_cell_at an_l_cell_at od_l_mix an_l_mix od_l_whole an_l_whole od_l_order an_l_order od_l_word an_l_word od_l_right an_l_right od_law an_law : Option Addr}
    {sl_is_number sl_is_from_to sl_is_row sl_check_quay sl_check_wishes sl_first_free sl_placed sl_crowded sl_is_good sl_check_full_row sl_lies sl_p_check_order sl_reaches sl_rows_to sl_l_cell_at sl_l_mix sl_l_whole sl_l_order sl_l_word sl_l_right sl_law : Array (Option Value)}
    {oc_is_number kV_is_number dc_is_number pm_is_number cd_is_number ct_is_number oc_is_from_to kV_is_from_to dc_is_from_to pm_is_from_to cd_is_from_to ct_is_from_to oc_is_row kV_is_row dc_is_row pm_is_row cd_is_row ct_is_row oc_check_quay kV_check_quay dc_check_quay pm_check_quay cd_check_quay ct_check_quay oc_check_wishes kV_check_wishes dc_check_wishes pm_check_wishes cd_check_wishes ct_check_wishes oc_first_free kV_first_free dc_first_free pm_first_free cd_first_free ct_first_free oc_placed kV_placed dc_placed pm_placed cd_placed ct_placed oc_crowded kV_crowded dc_crowded pm_crowded cd_crowded ct_crowded oc_is_good kV_is_good dc_is_good pm_is_good cd_is_good ct_is_good oc_check_full_row kV_check_full_row dc_check_full_row pm_check_full_row cd_check_full_row ct_check_full_row oc_lies kV_lies dc_lies pm_lies cd_lies ct_lies oc_p_check_order kV_p_check_order dc_p_check_order pm_p_check_order cd_p_check_order ct_p_check_order oc_reaches kV_reaches dc_reaches pm_reaches cd_reaches ct_reaches oc_rows_to kV_rows_to dc_rows_to pm_rows_to cd_rows_to ct_rows_to oc_l_cell_at kV_l_cell_at dc_l_cell_at pm_l_cell_at cd_l_cell_at ct_l_cell_at oc_l_mix kV_l_mix dc_l_mix pm_l_mix cd_l_mix ct_l_mix oc_l_whole kV_l_whole dc_l_whole pm_l_whole cd_l_whole ct_l_whole oc_l_order kV_l_order dc_l_order pm_l_order cd_l_order ct_l_order oc_l_word kV_l_word dc_l_word pm_l_word cd_l_word ct_l_word oc_l_right kV_l_right dc_l_right pm_l_right cd_l_right ct_l_right oc_law kV_law dc_law pm_law cd_law ct_law : Value}
    {t_MOST : Tok}
    (a_is_number : PySem.W.nsIn K mainGlobals "is_number" = some (some (.ref f_is_number))) (l_is_number : K.lookup f_is_number = some ⟨oc_is_number, od_is_number, .func (PySem.W.fnOf "is_number" "is_number" (defArgs s_is_number) (defBody s_is_number) (defScope s_is_number) .none kV_is_number dc_is_number pm_is_number an_is_number cd_is_number ct_is_number), sl_is_number⟩) (cI_is_number : PySem.W.codeIn K cd_is_number "is_number" = true) (kI_is_number : PySem.W.keepIn K (.ref f_is_number) = true)
    (a_is_from_to : PySem.W.nsIn K mainGlobals "is_from_to" = some (some (.ref f_is_from_to))) (l_is_from_to : K.lookup f_is_from_to = some ⟨oc_is_from_to, od_is_from_to, .func (PySem.W.fnOf "is_from_to" "is_from_to" (defArgs s_is_from_to) (defBody s_is_from_to) (defScope s_is_from_to) .none kV_is_from_to dc_is_from_to pm_is_from_to an_is_from_to cd_is_from_to ct_is_from_to), sl_is_from_to⟩) (cI_is_from_to : PySem.W.codeIn K cd_is_from_to "is_from_to" = true) (kI_is_from_to : PySem.W.keepIn K (.ref f_is_from_to) = true)
    (a_is_row : PySem.W.nsIn K mainGlobals "is_row" = some (some (.ref f_is_row))) (l_is_row : K.lookup f_is_row = some ⟨oc_is_row, od_is_row, .func (PySem.W.fnOf "is_row" "is_row" (defArgs s_is_row) (defBody s_is_row) (defScope s_is_row) .none kV_is_row dc_is_row pm_is_row an_is_row cd_is_row ct_is_row), sl_is_row⟩) (cI_is_row : PySem.W.codeIn K cd_is_row "is_row" = true) (kI_is_row : PySem.W.keepIn K (.ref f_is_row) = true)
    (a_check_quay : PySem.W.nsIn K mainGlobals "check_quay" = some (some (.ref f_check_quay))) (l_check_quay : K.lookup f_check_quay = some ⟨oc_check_quay, od_check_quay, .func (PySem.W.fnOf "check_quay" "check_quay" (defArgs s_check_quay) (defBody s_check_quay) (defScope s_check_quay) .none kV_check_quay dc_check_quay pm_check_quay an_check_quay cd_check_quay ct_check_quay), sl_check_quay⟩) (cI_check_quay : PySem.W.codeIn K cd_check_quay "check_quay" = true) (kI_check_quay : PySem.W.keepIn K (.ref f_check_quay) = true)
    (a_check_wishes : PySem.W.nsIn K mainGlobals "check_wishes" = some (some (.ref f_check_wishes))) (l_check_wishes : K.lookup f_check_wishes = some ⟨oc_check_wishes, od_check_wishes, .func (PySem.W.fnOf "check_wishes" "check_wishes" (defArgs s_check_wishes) (defBody s_check_wishes) (defScope s_check_wishes) .none kV_check_wishes dc_check_wishes pm_check_wishes an_check_wishes cd_check_wishes ct_check_wishes), sl_check_wishes⟩) (cI_check_wishes : PySem.W.codeIn K cd_check_wishes "check_wishes" = true) (kI_check_wishes : PySem.W.keepIn K (.ref f_check_wishes) = true)
    (a_first_free : PySem.W.nsIn K mainGlobals "first_free" = some (some (.ref f_first_free))) (l_first_free : K.lookup f_first_free = some ⟨oc_first_free, od_first_free, .func (PySem.W.fnOf "first_free" "first_free" (defArgs s_first_free) (defBody s_first_free) (defScope s_first_free) .none kV_first_free dc_first_free pm_first_free an_first_free cd_first_free ct_first_free), sl_first_free⟩) (cI_first_free : PySem.W.codeIn K cd_first_free "first_free" = true) (kI_first_free : PySem.W.keepIn K (.ref f_first_free) = true)
    (a_placed : PySem.W.nsIn K mainGlobals "placed" = some (some (.ref f_placed))) (l_placed : K.lookup f_placed = some ⟨oc_placed, od_placed, .func (PySem.W.fnOf "placed" "placed" (defArgs s_placed) (defBody s_placed) (defScope s_placed) .none kV_placed dc_placed pm_placed an_placed cd_placed ct_placed), sl_placed⟩) (cI_placed : PySem.W.codeIn K cd_placed "placed" = true) (kI_placed : PySem.W.keepIn K (.ref f_placed) = true)
    (a_crowded : PySem.W.nsIn K mainGlobals "crowded" = some (some (.ref f_crowded))) (l_crowded : K.lookup f_crowded = some ⟨oc_crowded, od_crowded, .func (PySem.W.fnOf "crowded" "crowded" (defArgs s_crowded) (defBody s_crowded) (defScope s_crowded) .none kV_crowded dc_crowded pm_crowded an_crowded cd_crowded ct_crowded), sl_crowded⟩) (cI_crowded : PySem.W.codeIn K cd_crowded "crowded" = true) (kI_crowded : PySem.W.keepIn K (.ref f_crowded) = true)
    (a_is_good : PySem.W.nsIn K mainGlobals "is_good" = some (some (.ref f_is_good))) (l_is_good : K.lookup f_is_good = some ⟨oc_is_good, od_is_good, .func (PySem.W.fnOf "is_good" "is_good" (defArgs s_is_good) (defBody s_is_good) (defScope s_is_good) .none kV_is_good dc_is_good pm_is_good an_is_good cd_is_good ct_is_good), sl_is_good⟩) (cI_is_good : PySem.W.codeIn K cd_is_good "is_good" = true) (kI_is_good : PySem.W.keepIn K (.ref f_is_good) = true)
    (a_check_full_row : PySem.W.nsIn K mainGlobals "check_full_row" = some (some (.ref f_check_full_row))) (l_check_full_row : K.lookup f_check_full_row = some ⟨oc_check_full_row, od_check_full_row, .func (PySem.W.fnOf "check_full_row" "check_full_row" (defArgs s_check_full_row) (defBody s_check_full_row) (defScope s_check_full_row) .none kV_check_full_row dc_check_full_row pm_check_full_row an_check_full_row cd_check_full_row ct_check_full_row), sl_check_full_row⟩) (cI_check_full_row : PySem.W.codeIn K cd_check_full_row "check_full_row" = true) (kI_check_full_row : PySem.W.keepIn K (.ref f_check_full_row) = true)
    (a_lies : PySem.W.nsIn K mainGlobals "lies" = some (some (.ref f_lies))) (l_lies : K.lookup f_lies = some ⟨oc_lies, od_lies, .func (PySem.W.fnOf "lies" "lies" (defArgs s_lies) (defBody s_lies) (defScope s_lies) .none kV_lies dc_lies pm_lies an_lies cd_lies ct_lies), sl_lies⟩) (cI_lies : PySem.W.codeIn K cd_lies "lies" = true) (kI_lies : PySem.W.keepIn K (.ref f_lies) = true)
    (a_p_check_order : PySem.W.nsIn K mainGlobals "_check_order" = some (some (.ref f_p_check_order))) (l_p_check_order : K.lookup f_p_check_order = some ⟨oc_p_check_order, od_p_check_order, .func (PySem.W.fnOf "_check_order" "_check_order" (defArgs s_p_check_order) (defBody s_p_check_order) (defScope s_p_check_order) .none kV_p_check_order dc_p_check_order pm_p_check_order an_p_check_order cd_p_check_order ct_p_check_order), sl_p_check_order⟩) (cI_p_check_order : PySem.W.codeIn K cd_p_check_order "_check_order" = true) (kI_p_check_order : PySem.W.keepIn K (.ref f_p_check_order) = true)
    (a_reaches : PySem.W.nsIn K mainGlobals "reaches" = some (some (.ref f_reaches))) (l_reaches : K.lookup f_reaches = some ⟨oc_reaches, od_reaches, .func (PySem.W.fnOf "reaches" "reaches" (defArgs s_reaches) (defBody s_reaches) (defScope s_reaches) .none kV_reaches dc_reaches pm_reaches an_reaches cd_reaches ct_reaches), sl_reaches⟩) (cI_reaches : PySem.W.codeIn K cd_reaches "reaches" = true) (kI_reaches : PySem.W.keepIn K (.ref f_reaches) = true)
    (a_rows_to : PySem.W.nsIn K mainGlobals "rows_to" = some (some (.ref f_rows_to))) (l_rows_to : K.lookup f_rows_to = some ⟨oc_rows_to, od_rows_to, .func (PySem.W.fnOf "rows_to" "rows_to" (defArgs s_rows_to) (defBody s_rows_to) (defScope s_rows_to) .none kV_rows_to dc_rows_to pm_rows_to an_rows_to cd_rows_to ct_rows_to), sl_rows_to⟩) (cI_rows_to : PySem.W.codeIn K cd_rows_to "rows_to" = true) (kI_rows_to : PySem.W.keepIn K (.ref f_rows_to) = true)
    (a_l_cell_at : PySem.W.nsIn K mainGlobals "_law_cell_at" = some (some (.ref f_l_cell_at))) (l_l_cell_at : K.lookup f_l_cell_at = some ⟨oc_l_cell_at, od_l_cell_at, .func (PySem.W.fnOf "_law_cell_at" "_law_cell_at" (defArgs s_l_cell_at) (defBody s_l_cell_at) (defScope s_l_cell_at) .none kV_l_cell_at dc_l_cell_at pm_l_cell_at an_l_cell_at cd_l_cell_at ct_l_cell_at), sl_l_cell_at⟩) (cI_l_cell_at : PySem.W.codeIn K cd_l_cell_at "_law_cell_at" = true) (kI_l_cell_at : PySem.W.keepIn K (.ref f_l_cell_at) = true)
    (a_l_mix : PySem.W.nsIn K mainGlobals "_law_mix" = some (some (.ref f_l_mix))) (l_l_mix : K.lookup f_l_mix = some ⟨oc_l_mix, od_l_mix, .func (PySem.W.fnOf "_law_mix" "_law_mix" (defArgs s_l_mix) (defBody s_l_mix) (defScope s_l_mix) .none kV_l_mix dc_l_mix pm_l_mix an_l_mix cd_l_mix ct_l_mix), sl_l_mix⟩) (cI_l_mix : PySem.W.codeIn K cd_l_mix "_law_mix" = true) (kI_l_mix : PySem.W.keepIn K (.ref f_l_mix) = true)
    (a_l_whole : PySem.W.nsIn K mainGlobals "_law_whole" = some (some (.ref f_l_whole))) (l_l_whole : K.lookup f_l_whole = some ⟨oc_l_whole, od_l_whole, .func (PySem.W.fnOf "_law_whole" "_law_whole" (defArgs s_l_whole) (defBody s_l_whole) (defScope s_l_whole) .none kV_l_whole dc_l_whole pm_l_whole an_l_whole cd_l_whole ct_l_whole), sl_l_whole⟩) (cI_l_whole : PySem.W.codeIn K cd_l_whole "_law_whole" = true) (kI_l_whole : PySem.W.keepIn K (.ref f_l_whole) = true)
    (a_l_order : PySem.W.nsIn K mainGlobals "_law_order" = some (some (.ref f_l_order))) (l_l_order : K.lookup f_l_order = some ⟨oc_l_order, od_l_order, .func (PySem.W.fnOf "_law_order" "_law_order" (defArgs s_l_order) (defBody s_l_order) (defScope s_l_order) .none kV_l_order dc_l_order pm_l_order an_l_order cd_l_order ct_l_order), sl_l_order⟩) (cI_l_order : PySem.W.codeIn K cd_l_order "_law_order" = true) (kI_l_order : PySem.W.keepIn K (.ref f_l_order) = true)
    (a_l_word : PySem.W.nsIn K mainGlobals "_law_word" = some (some (.ref f_l_word))) (l_l_word : K.lookup f_l_word = some ⟨oc_l_word, od_l_word, .func (PySem.W.fnOf "_law_word" "_law_word" (defArgs s_l_word) (defBody s_l_word) (defScope s_l_word) .none kV_l_word dc_l_word pm_l_word an_l_word cd_l_word ct_l_word), sl_l_word⟩) (cI_l_word : PySem.W.codeIn K cd_l_word "_law_word" = true) (kI_l_word : PySem.W.keepIn K (.ref f_l_word) = true)
    (a_l_right : PySem.W.nsIn K mainGlobals "_law_right" = some (some (.ref f_l_right))) (l_l_right : K.lookup f_l_right = some ⟨oc_l_right, od_l_right, .func (PySem.W.fnOf "_law_right" "_law_right" (defArgs s_l_right) (defBody s_l_right) (defScope s_l_right) .none kV_l_right dc_l_right pm_l_right an_l_right cd_l_right ct_l_right), sl_l_right⟩) (cI_l_right : PySem.W.codeIn K cd_l_right "_law_right" = true) (kI_l_right : PySem.W.keepIn K (.ref f_l_right) = true)
    (a_law : PySem.W.nsIn K mainGlobals "law" = some (some (.ref f_law))) (l_law : K.lookup f_law = some ⟨oc_law, od_law, .func (PySem.W.fnOf "law" "law" (defArgs s_law) (defBody s_law) (defScope s_law) .none kV_law dc_law pm_law an_law cd_law ct_law), sl_law⟩) (cI_law : PySem.W.codeIn K cd_law "law" = true) (kI_law : PySem.W.keepIn K (.ref f_law) = true)
    (z_bool : PySem.W.nsIn K mainGlobals "bool" = some none)
    (z_enumerate : PySem.W.nsIn K mainGlobals "enumerate" = some none)
    (z_int : PySem.W.nsIn K mainGlobals "int" = some none)
    (z_isinstance : PySem.W.nsIn K mainGlobals "isinstance" = some none)
    (z_len : PySem.W.nsIn K mainGlobals "len" = some none)
    (z_list : PySem.W.nsIn K mainGlobals "list" = some none)
    (z_min : PySem.W.nsIn K mainGlobals "min" = some none)
    (z_range : PySem.W.nsIn K mainGlobals "range" = some none)
    (z_set : PySem.W.nsIn K mainGlobals "set" = some none)
    (z_tuple : PySem.W.nsIn K mainGlobals "tuple" = some none)
    (z_type : PySem.W.nsIn K mainGlobals "type" = some none)
    (y_MOST : PySem.W.nsIn K mainGlobals "MOST" = some (some (.int 400 t_MOST)))
    (xg_BerthError : PySem.W.nsIn K mainGlobals "BerthError" = some (some (.ref e_BerthError)))
    (xx_BerthError : PySem.W.excIn K e_BerthError [.type "ValueError", .type "Exception", .type "BaseException", .type "object"] "ValueError.__new__" = true)
    (xk_BerthError : PySem.W.keepIn K (.ref e_BerthError) = true)
    (xb_BerthError : PySem.W.subIn K (.ref e_BerthError) (.type "BaseException") = some true)
    (xt_BerthError : PySem.W.typeIn K (.ref e_BerthError) = some (.type "type"))
    (xg_NoCount : PySem.W.nsIn K mainGlobals "NoCount" = some (some (.ref e_NoCount)))
    (xx_NoCount : PySem.W.excIn K e_NoCount [.type "ValueError", .type "Exception", .type "BaseException", .type "object"] "ValueError.__new__" = true)
    (xk_NoCount : PySem.W.keepIn K (.ref e_NoCount) = true)
    (xb_NoCount : PySem.W.subIn K (.ref e_NoCount) (.type "BaseException") = some true)
    (xt_NoCount : PySem.W.typeIn K (.ref e_NoCount) = some (.type "type"))
    (xg_NoOrder : PySem.W.nsIn K mainGlobals "NoOrder" = some (some (.ref e_NoOrder)))
    (xx_NoOrder : PySem.W.excIn K e_NoOrder [.type "ValueError", .type "Exception", .type "BaseException", .type "object"] "ValueError.__new__" = true)
    (xk_NoOrder : PySem.W.keepIn K (.ref e_NoOrder) = true)
    (xb_NoOrder : PySem.W.subIn K (.ref e_NoOrder) (.type "BaseException") = some true)
    (xt_NoOrder : PySem.W.typeIn K (.ref e_NoOrder) = some (.type "type"))
    (xg_NoQuay : PySem.W.nsIn K mainGlobals "NoQuay" = some (some (.ref e_NoQuay)))
    (xx_NoQuay : PySem.W.excIn K e_NoQuay [.type "ValueError", .type "Exception", .type "BaseException", .type "object"] "ValueError.__new__" = true)
    (xk_NoQuay : PySem.W.keepIn K (.ref e_NoQuay) = true)
    (xb_NoQuay : PySem.W.subIn K (.ref e_NoQuay) (.type "BaseException") = some true)
    (xt_NoQuay : PySem.W.typeIn K (.ref e_NoQuay) = some (.type "type"))
    (xg_NoTree : PySem.W.nsIn K mainGlobals "NoTree" = some (some (.ref e_NoTree)))
    (xx_NoTree : PySem.W.excIn K e_NoTree [.type "ValueError", .type "Exception", .type "BaseException", .type "object"] "ValueError.__new__" = true)
    (xk_NoTree : PySem.W.keepIn K (.ref e_NoTree) = true)
    (xb_NoTree : PySem.W.subIn K (.ref e_NoTree) (.type "BaseException") = some true)
    (xt_NoTree : PySem.W.typeIn K (.ref e_NoTree) = some (.type "type"))
    (xg_NoWishes : PySem.W.nsIn K mainGlobals "NoWishes" = some (some (.ref e_NoWishes)))
    (xx_NoWishes : PySem.W.excIn K e_NoWishes [.type "ValueError", .type "Exception", .type "BaseException", .type "object"] "ValueError.__new__" = true)
    (xk_NoWishes : PySem.W.keepIn K (.ref e_NoWishes) = true)
    (xb_NoWishes : PySem.W.subIn K (.ref e_NoWishes) (.type "BaseException") = some true)
    (xt_NoWishes : PySem.W.typeIn K (.ref e_NoWishes) = some (.type "type"))
    (xg_TooMany : PySem.W.nsIn K mainGlobals "TooMany" = some (some (.ref e_TooMany)))
    (xx_TooMany : PySem.W.excIn K e_TooMany [.type "ValueError", .type "Exception", .type "BaseException", .type "object"] "ValueError.__new__" = true)
    (xk_TooMany : PySem.W.keepIn K (.ref e_TooMany) = true)
    (xb_TooMany : PySem.W.subIn K (.ref e_TooMany) (.type "BaseException") = some true)
    (xt_TooMany : PySem.W.typeIn K (.ref e_TooMany) = some (.type "type"))
    (v_hn : PySem.W.specialIn K (.builtin "object.__class__") "__get__" = some (some (.builtin "getset_descriptor.__get__")))
    (v_ht : PySem.W.takesIn K (.builtin "object.__class__") = some true)
    (vhg_BerthError : PySem.W.findIn K (.ref e_BerthError) "__getattribute__" = some (some (.builtin "BaseException.__getattribute__")))
    (vhk_BerthError : PySem.W.findIn K (.ref e_BerthError) "__getattr__" = some none)
    (vhs_BerthError : PySem.W.subIn K (.ref e_BerthError) (.type "BaseException") = some true)
    (vhd_BerthError : PySem.W.hasDictIn K e_BerthError = true)
    (vha_BerthError : PySem.W.findIn K (.ref e_BerthError) "__class__" = some (some (.builtin "object.__class__")))
    (vhm_BerthError : PySem.W.mroIn K e_BerthError (.type "object") = some true)
    (vty_BerthError : PySem.W.typeIn K (.ref e_BerthError) = some (.type "type"))
    (vse_BerthError : PySem.W.subIn K (.ref e_BerthError) (.ref e_BerthError) = some true)
    (vhg_NoQuay : PySem.W.findIn K (.ref e_NoQuay) "__getattribute__" = some (some (.builtin "BaseException.__getattribute__")))
    (vhk_NoQuay : PySem.W.findIn K (.ref e_NoQuay) "__getattr__" = some none)
    (vhs_NoQuay : PySem.W.subIn K (.ref e_NoQuay) (.type "BaseException") = some true)
    (vhd_NoQuay : PySem.W.hasDictIn K e_NoQuay = true)
    (vha_NoQuay : PySem.W.findIn K (.ref e_NoQuay) "__class__" = some (some (.builtin "object.__class__")))
    (vhm_NoQuay : PySem.W.mroIn K e_NoQuay (.type "object") = some true)
    (vty_NoQuay : PySem.W.typeIn K (.ref e_NoQuay) = some (.type "type"))
    (vse_NoQuay : PySem.W.subIn K (.ref e_NoQuay) (.ref e_NoQuay) = some true)
    (vhg_NoWishes : PySem.W.findIn K (.ref e_NoWishes) "__getattribute__" = some (some (.builtin "BaseException.__getattribute__")))
    (vhk_NoWishes : PySem.W.findIn K (.ref e_NoWishes) "__getattr__" = some none)
    (vhs_NoWishes : PySem.W.subIn K (.ref e_NoWishes) (.type "BaseException") = some true)
    (vhd_NoWishes : PySem.W.hasDictIn K e_NoWishes = true)
    (vha_NoWishes : PySem.W.findIn K (.ref e_NoWishes) "__class__" = some (some (.builtin "object.__class__")))
    (vhm_NoWishes : PySem.W.mroIn K e_NoWishes (.type "object") = some true)
    (vty_NoWishes : PySem.W.typeIn K (.ref e_NoWishes) = some (.type "type"))
    (vse_NoWishes : PySem.W.subIn K (.ref e_NoWishes) (.ref e_NoWishes) = some true)
    (vhg_TooMany : PySem.W.findIn K (.ref e_TooMany) "__getattribute__" = some (some (.builtin "BaseException.__getattribute__")))
    (vhk_TooMany : PySem.W.findIn K (.ref e_TooMany) "__getattr__" = some none)
    (vhs_TooMany : PySem.W.subIn K (.ref e_TooMany) (.type "BaseException") = some true)
    (vhd_TooMany : PySem.W.hasDictIn K e_TooMany = true)
    (vha_TooMany : PySem.W.findIn K (.ref e_TooMany) "__class__" = some (some (.builtin "object.__class__")))
    (vhm_TooMany : PySem.W.mroIn K e_TooMany (.type "object") = some true)
    (vty_TooMany : PySem.W.typeIn K (.ref e_TooMany) = some (.type "type"))
    (vse_TooMany : PySem.W.subIn K (.ref e_TooMany) (.ref e_TooMany) = some true)
    (vhg_NoCount : PySem.W.findIn K (.ref e_NoCount) "__getattribute__" = some (some (.builtin "BaseException.__getattribute__")))
    (vhk_NoCount : PySem.W.findIn K (.ref e_NoCount) "__getattr__" = some none)
    (vhs_NoCount : PySem.W.subIn K (.ref e_NoCount) (.type "BaseException") = some true)
    (vhd_NoCount : PySem.W.hasDictIn K e_NoCount = true)
    (vha_NoCount : PySem.W.findIn K (.ref e_NoCount) "__class__" = some (some (.builtin "object.__class__")))
    (vhm_NoCount : PySem.W.mroIn K e_NoCount (.type "object") = some true)
    (vty_NoCount : PySem.W.typeIn K (.ref e_NoCount) = some (.type "type"))
    (vse_NoCount : PySem.W.subIn K (.ref e_NoCount) (.ref e_NoCount) = some true)
    (vhg_NoTree : PySem.W.findIn K (.ref e_NoTree) "__getattribute__" = some (some (.builtin "BaseException.__getattribute__")))
    (vhk_NoTree : PySem.W.findIn K (.ref e_NoTree) "__getattr__" = some none)
    (vhs_NoTree : PySem.W.subIn K (.ref e_NoTree) (.type "BaseException") = some true)
    (vhd_NoTree : PySem.W.hasDictIn K e_NoTree = true)
    (vha_NoTree : PySem.W.findIn K (.ref e_NoTree) "__class__" = some (some (.builtin "object.__class__")))
    (vhm_NoTree : PySem.W.mroIn K e_NoTree (.type "object") = some true)
    (vty_NoTree : PySem.W.typeIn K (.ref e_NoTree) = some (.type "type"))
    (vse_NoTree : PySem.W.subIn K (.ref e_NoTree) (.ref e_NoTree) = some true)
    (vhg_NoOrder : PySem.W.findIn K (.ref e_NoOrder) "__getattribute__" = some (some (.builtin "BaseException.__getattribute__")))
    (vhk_NoOrder : PySem.W.findIn K (.ref e_NoOrder) "__getattr__" = some none)
    (vhs_NoOrder : PySem.W.subIn K (.ref e_NoOrder) (.type "BaseException") = some true)
    (vhd_NoOrder : PySem.W.hasDictIn K e_NoOrder = true)
    (vha_NoOrder : PySem.W.findIn K (.ref e_NoOrder) "__class__" = some (some (.builtin "object.__class__")))
    (vhm_NoOrder : PySem.W.mroIn K e_NoOrder (.type "object") = some true)
    (vty_NoOrder : PySem.W.typeIn K (.ref e_NoOrder) = some (.type "type"))
    (vse_NoOrder : PySem.W.subIn K (.ref e_NoOrder) (.ref e_NoOrder) = some true)
    (w_NoOrder_BerthError : PySem.W.subIn K (.ref e_NoOrder) (.ref e_BerthError) = some true)
    (w_NoOrder_NoOrder : PySem.W.subIn K (.ref e_NoOrder) (.ref e_NoOrder) = some true)
    (w_NoOrder_NoTree : PySem.W.subIn K (.ref e_NoOrder) (.ref e_NoTree) = some false)
    (w_NoOrder_NoWishes : PySem.W.subIn K (.ref e_NoOrder) (.ref e_NoWishes) = some false)
    (w_NoOrder_TooMany : PySem.W.subIn K (.ref e_NoOrder) (.ref e_TooMany) = some false)
    (w_NoOrder_NoQuay : PySem.W.subIn K (.ref e_NoOrder) (.ref e_NoQuay) = some false)
    (w_NoOrder_NoCount : PySem.W.subIn K (.ref e_NoOrder) (.ref e_NoCount) = some false)
    (w_NoWishes_BerthError : PySem.W.subIn K (.ref e_NoWishes) (.ref e_BerthError) = some true)
    (w_NoWishes_NoOrder : PySem.W.subIn K (.ref e_NoWishes) (.ref e_NoOrder) = some false)
    (w_NoWishes_NoTree : PySem.W.subIn K (.ref e_NoWishes) (.ref e_NoTree) = some false)
    (w_NoWishes_NoWishes : PySem.W.subIn K (.ref e_NoWishes) (.ref e_NoWishes) = some true)
    (w_NoWishes_TooMany : PySem.W.subIn K (.ref e_NoWishes) (.ref e_TooMany) = some false)
    (w_NoWishes_NoQuay : PySem.W.subIn K (.ref e_NoWishes) (.ref e_NoQuay) = some false)
    (w_NoWishes_NoCount : PySem.W.subIn K (.ref e_NoWishes) (.ref e_NoCount) = some false)
    : ∃ fd : FuncData, (∀ (s : Shared) (v : Value), BindsTo s fd ⟨[v], []⟩ [("_law_script", v)]) ∧ ∀ base : Heap, K.In base → base.Ns mainGlobals mg → FnOk P w K mg base CX0 10 fa fd ["_law_script"] (sp_law K) := by
  have e := hfa.symm.trans (PySem.W.mg_of X G a_law)
  cases e
  have T : Txt K mg ({ f_is_number := f_is_number, f_is_from_to := f_is_from_to, f_is_row := f_is_row, f_check_quay := f_check_quay, f_check_wishes := f_check_wishes, f_first_free := f_first_free, f_placed := f_placed, f_crowded := f_crowded, f_is_good := f_is_good, f_check_full_row := f_check_full_row, f_lies := f_lies, f_p_check_order := f_p_check_order, f_reaches := f_reaches, f_rows_to := f_rows_to, f_l_cell_at := f_l_cell_at, f_l_mix := f_l_mix, f_l_whole := f_l_whole, f_l_order := f_l_order, f_l_word := f_l_word, f_l_right := f_l_right, e_BerthError := e_BerthError, e_NoCount := e_NoCount, e_NoOrder := e_NoOrder, e_NoQuay := e_NoQuay, e_NoTree := e_NoTree, e_NoWishes := e_NoWishes, e_TooMany := e_TooMany } : Ad) := ⟨trivial,
    PySem.W.mg_none_of X G z_bool,
    PySem.W.mg_none_of X G z_enumerate,
    PySem.W.mg_none_of X G z_int,
    PySem.W.mg_none_of X G z_isinstance,
    PySem.W.mg_none_of X G z_len,
    PySem.W.mg_none_of X G z_list,
    PySem.W.mg_none_of X G z_min,
    PySem.W.mg_none_of X G z_range,
    PySem.W.mg_none_of X G z_set,
    PySem.W.mg_none_of X G z_tuple,
    PySem.W.mg_none_of X G z_type,
    ⟨_, PySem.W.mg_of X G y_MOST, ⟨_, rfl⟩⟩,
    ⟨PySem.W.mg_of X G xg_BerthError, xx_BerthError, xk_BerthError, xb_BerthError, xt_BerthError⟩,
    ⟨PySem.W.mg_of X G xg_NoCount, xx_NoCount, xk_NoCount, xb_NoCount, xt_NoCount⟩,
    ⟨PySem.W.mg_of X G xg_NoOrder, xx_NoOrder, xk_NoOrder, xb_NoOrder, xt_NoOrder⟩,
    ⟨PySem.W.mg_of X G xg_NoQuay, xx_NoQuay, xk_NoQuay, xb_NoQuay, xt_NoQuay⟩,
    ⟨PySem.W.mg_of X G xg_NoTree, xx_NoTree, xk_NoTree, xb_NoTree, xt_NoTree⟩,
    ⟨PySem.W.mg_of X G xg_NoWishes, xx_NoWishes, xk_NoWishes, xb_NoWishes, xt_NoWishes⟩,
    ⟨PySem.W.mg_of X G xg_TooMany, xx_TooMany, xk_TooMany, xb_TooMany, xt_TooMany⟩,
    ⟨⟨vhg_BerthError, vhk_BerthError, vhs_BerthError, vhd_BerthError, vha_BerthError, v_hn, v_ht, vhm_BerthError⟩, vty_BerthError, vse_BerthError⟩,
    ⟨⟨vhg_NoQuay, vhk_NoQuay, vhs_NoQuay, vhd_NoQuay, vha_NoQuay, v_hn, v_ht, vhm_NoQuay⟩, vty_NoQuay, vse_NoQuay⟩,
    ⟨⟨vhg_NoWishes, vhk_NoWishes, vhs_NoWishes, vhd_NoWishes, vha_NoWishes, v_hn, v_ht, vhm_NoWishes⟩, vty_NoWishes, vse_NoWishes⟩,
    ⟨⟨vhg_TooMany, vhk_TooMany, vhs_TooMany, vhd_TooMany, vha_TooMany, v_hn, v_ht, vhm_TooMany⟩, vty_TooMany, vse_TooMany⟩,
    ⟨⟨vhg_NoCount, vhk_NoCount, vhs_NoCount, vhd_NoCount, vha_NoCount, v_hn, v_ht, vhm_NoCount⟩, vty_NoCount, vse_NoCount⟩,
    ⟨⟨vhg_NoTree, vhk_NoTree, vhs_NoTree, vhd_NoTree, vha_NoTree, v_hn, v_ht, vhm_NoTree⟩, vty_NoTree, vse_NoTree⟩,
    ⟨⟨vhg_NoOrder, vhk_NoOrder, vhs_NoOrder, vhd_NoOrder, vha_NoOrder, v_hn, v_ht, vhm_NoOrder⟩, vty_NoOrder, vse_NoOrder⟩,
    w_NoOrder_BerthError,
    w_NoOrder_NoOrder,
    w_NoOrder_NoTree,
    w_NoOrder_NoWishes,
    w_NoOrder_TooMany,
    w_NoOrder_NoQuay,
    w_NoOrder_NoCount,
    w_NoWishes_BerthError,
    w_NoWishes_NoOrder,
    w_NoWishes_NoTree,
    w_NoWishes_NoWishes,
    w_NoWishes_TooMany,
    w_NoWishes_NoQuay,
    w_NoWishes_NoCount⟩
  have D_is_number : DF K mg "is_number" s_is_number ["thing"] f_is_number := df_mk (fun_mk (st := s_is_number) l_is_number cI_is_number kI_is_number) (fun _ _ _ _ _ _ us hl => match us, hl with | [_], _ => rfl) (PySem.W.mg_of X G a_is_number)
  have D_is_from_to : DF K mg "is_from_to" s_is_from_to ["low", "high", "thing"] f_is_from_to := df_mk (fun_mk (st := s_is_from_to) l_is_from_to cI_is_from_to kI_is_from_to) (fun _ _ _ _ _ _ us hl => match us, hl with | [_, _, _], _ => rfl) (PySem.W.mg_of X G a_is_from_to)
  have D_is_row : DF K mg "is_row" s_is_row ["thing"] f_is_row := df_mk (fun_mk (st := s_is_row) l_is_row cI_is_row kI_is_row) (fun _ _ _ _ _ _ us hl => match us, hl with | [_], _ => rfl) (PySem.W.mg_of X G a_is_row)
  have D_check_quay : DF K mg "check_quay" s_check_quay ["berths"] f_check_quay := df_mk (fun_mk (st := s_check_quay) l_check_quay cI_check_quay kI_check_quay) (fun _ _ _ _ _ _ us hl => match us, hl with | [_], _ => rfl) (PySem.W.mg_of X G a_check_quay)
  have D_check_wishes : DF K mg "check_wishes" s_check_wishes ["berths", "wishes"] f_check_wishes := df_mk (fun_mk (st := s_check_wishes) l_check_wishes cI_check_wishes kI_check_wishes) (fun _ _ _ _ _ _ us hl => match us, hl with | [_, _], _ => rfl) (PySem.W.mg_of X G a_check_wishes)
  have D_first_free : DF K mg "first_free" s_first_free ["held", "wish"] f_first_free := df_mk (fun_mk (st := s_first_free) l_first_free cI_first_free kI_first_free) (fun _ _ _ _ _ _ us hl => match us, hl with | [_, _], _ => rfl) (PySem.W.mg_of X G a_first_free)
  have D_placed : DF K mg "placed" s_placed ["berths", "wishes"] f_placed := df_mk (fun_mk (st := s_placed) l_placed cI_placed kI_placed) (fun _ _ _ _ _ _ us hl => match us, hl with | [_, _], _ => rfl) (PySem.W.mg_of X G a_placed)
  have D_crowded : DF K mg "crowded" s_crowded ["berths", "wishes"] f_crowded := df_mk (fun_mk (st := s_crowded) l_crowded cI_crowded kI_crowded) (fun _ _ _ _ _ _ us hl => match us, hl with | [_, _], _ => rfl) (PySem.W.mg_of X G a_crowded)
  have D_is_good : DF K mg "is_good" s_is_good ["berths", "wishes"] f_is_good := df_mk (fun_mk (st := s_is_good) l_is_good cI_is_good kI_is_good) (fun _ _ _ _ _ _ us hl => match us, hl with | [_, _], _ => rfl) (PySem.W.mg_of X G a_is_good)
  have D_check_full_row : DF K mg "check_full_row" s_check_full_row ["wishes"] f_check_full_row := df_mk (fun_mk (st := s_check_full_row) l_check_full_row cI_check_full_row kI_check_full_row) (fun _ _ _ _ _ _ us hl => match us, hl with | [_], _ => rfl) (PySem.W.mg_of X G a_check_full_row)
  have D_lies : DF K mg "lies" s_lies ["wishes"] f_lies := df_mk (fun_mk (st := s_lies) l_lies cI_lies kI_lies) (fun _ _ _ _ _ _ us hl => match us, hl with | [_], _ => rfl) (PySem.W.mg_of X G a_lies)
  have D_p_check_order : DF K mg "_check_order" s_p_check_order ["order"] f_p_check_order := df_mk (fun_mk (st := s_p_check_order) l_p_check_order cI_p_check_order kI_p_check_order) (fun _ _ _ _ _ _ us hl => match us, hl with | [_], _ => rfl) (PySem.W.mg_of X G a_p_check_order)
  have D_reaches : DF K mg "reaches" s_reaches ["order"] f_reaches := df_mk (fun_mk (st := s_reaches) l_reaches cI_reaches kI_reaches) (fun _ _ _ _ _ _ us hl => match us, hl with | [_], _ => rfl) (PySem.W.mg_of X G a_reaches)
  have D_rows_to : DF K mg "rows_to" s_rows_to ["order"] f_rows_to := df_mk (fun_mk (st := s_rows_to) l_rows_to cI_rows_to kI_rows_to) (fun _ _ _ _ _ _ us hl => match us, hl with | [_], _ => rfl) (PySem.W.mg_of X G a_rows_to)
  have D_l_cell_at : DF K mg "_law_cell_at" s_l_cell_at ["_law_script", "_law_k"] f_l_cell_at := df_mk (fun_mk (st := s_l_cell_at) l_l_cell_at cI_l_cell_at kI_l_cell_at) (fun _ _ _ _ _ _ us hl => match us, hl with | [_, _], _ => rfl) (PySem.W.mg_of X G a_l_cell_at)
  have D_l_mix : DF K mg "_law_mix" s_l_mix ["_law_state", "_law_cell"] f_l_mix := df_mk (fun_mk (st := s_l_mix) l_l_mix cI_l_mix kI_l_mix) (fun _ _ _ _ _ _ us hl => match us, hl with | [_, _], _ => rfl) (PySem.W.mg_of X G a_l_mix)
  have D_l_whole : DF K mg "_law_whole" s_l_whole ["_law_found"] f_l_whole := df_mk (fun_mk (st := s_l_whole) l_l_whole cI_l_whole kI_l_whole) (fun _ _ _ _ _ _ us hl => match us, hl with | [_], _ => rfl) (PySem.W.mg_of X G a_l_whole)
  have D_l_order : DF K mg "_law_order" s_l_order ["_law_script", "_law_many", "_law_first"] f_l_order := df_mk (fun_mk (st := s_l_order) l_l_order cI_l_order kI_l_order) (fun _ _ _ _ _ _ us hl => match us, hl with | [_, _, _], _ => rfl) (PySem.W.mg_of X G a_l_order)
  have D_l_word : DF K mg "_law_word" s_l_word ["_law_act", "_law_thing"] f_l_word := df_mk (fun_mk (st := s_l_word) l_l_word cI_l_word kI_l_word) (fun _ _ _ _ _ _ us hl => match us, hl with | [_, _], _ => rfl) (PySem.W.mg_of X G a_l_word)
  have D_l_right : DF K mg "_law_right" s_l_right ["_law_state", "_law_order_here"] f_l_right := df_mk (fun_mk (st := s_l_right) l_l_right cI_l_right kI_l_right) (fun _ _ _ _ _ _ us hl => match us, hl with | [_, _], _ => rfl) (PySem.W.mg_of X G a_l_right)
  refine ⟨PySem.W.fnOf "law" "law" (defArgs s_law) (defBody s_law) (defScope s_law) .none kV_law dc_law pm_law an_law cd_law ct_law, fun s v => .of_eq rfl, fun base _ _ => ?_⟩
  have g_is_number := ok_is_number (P := P) (w := w) (base := base) D_is_number T
  have g_is_from_to := ok_is_from_to (P := P) (w := w) (base := base) D_is_from_to T g_is_number
  have g_is_row := ok_is_row (P := P) (w := w) (base := base) D_is_row T
  have g_check_quay := ok_check_quay (P := P) (w := w) (base := base) D_check_quay T g_is_from_to
  have g_check_wishes := ok_check_wishes (P := P) (w := w) (base := base) D_check_wishes T g_is_from_to g_is_row g_check_quay
  have g_first_free := ok_first_free (P := P) (w := w) (base := base) D_first_free T
  have g_placed := ok_placed (P := P) (w := w) (base := base) D_placed T g_check_wishes g_first_free
  have g_crowded := ok_crowded (P := P) (w := w) (base := base) D_crowded T g_check_wishes
  have g_is_good := ok_is_good (P := P) (w := w) (base := base) D_is_good T g_crowded
  have g_check_full_row := ok_check_full_row (P := P) (w := w) (base := base) D_check_full_row T g_is_row g_is_good
  have g_lies := ok_lies (P := P) (w := w) (base := base) D_lies T g_placed g_check_full_row
  have g_p_check_order := ok_p_check_order (P := P) (w := w) (base := base) D_p_check_order T g_is_from_to g_is_row
  have g_reaches := ok_reaches (P := P) (w := w) (base := base) D_reaches T g_p_check_order
  have g_rows_to := ok_rows_to (P := P) (w := w) (base := base) D_rows_to T g_reaches
  have g_l_cell_at := ok_l_cell_at (P := P) (w := w) (base := base) D_l_cell_at T
  have g_l_mix := ok_l_mix (P := P) (w := w) (base := base) D_l_mix T
  have g_l_whole := ok_l_whole (P := P) (w := w) (base := base) D_l_whole T
  have g_l_order := ok_l_order (P := P) (w := w) (base := base) D_l_order T g_l_cell_at g_l_mix
  have g_l_word := ok_l_word (P := P) (w := w) (base := base) D_l_word T g_lies g_reaches g_rows_to
  have g_l_right := ok_l_right (P := P) (w := w) (base := base) D_l_right T g_is_good g_lies g_reaches g_rows_to g_l_mix g_l_whole
  exact ok_law (fun_mk (st := s_law) l_law cI_law kI_law) T g_lies g_reaches g_rows_to g_l_cell_at g_l_order g_l_word g_l_right
end Br
open PySem PySem.W PyProof.Rows
set_option maxHeartbeats 0 in
theorem PySem.Challenge.cw_berthrow_k11_whole_who_lies_where_holds : PySem.Challenge.rw_berthrow_k11_whole_who_lies_where.Holds := by
  w_on; o_law; k_head; (case hw => w_witness2)
  k_fill
  refine L2.walk_of (l := PySem.Challenge.rw_berthrow_k11_whole_who_lies_where) (n := 63) (k := 10) (x := "_law_script") (CX := fun _ => L2.CX0) (sp := fun w => Br.sp_law _) rfl (by decide) rfl ⟨rfl, by decide, by decide⟩ (fun w h Y => PySem.W.kIn_of Y) ?F (fun _ _ a ns hl _ hS => ⟨a, ns, rfl, hS, hl, fun _ => rfl⟩) (fun _ _ _ _ _ h => h)
  case F =>
    intro w mg fa h KX G hmg
    refine' Br.all_mk KX G hmg ?a_is_number ?l_is_number ?cI_is_number ?kI_is_number ?a_is_from_to ?l_is_from_to ?cI_is_from_to ?kI_is_from_to ?a_is_row ?l_is_row ?cI_is_row ?kI_is_row ?a_check_quay ?l_check_quay ?cI_check_quay ?kI_check_quay ?a_check_wishes ?l_check_wishes ?cI_check_wishes ?kI_check_wishes ?a_first_free ?l_first_free ?cI_first_free ?kI_first_free ?a_placed ?l_placed ?cI_placed ?kI_placed ?a_crowded ?l_crowded ?cI_crowded ?kI_crowded ?a_is_good ?l_is_good ?cI_is_good ?kI_is_good ?a_check_full_row ?l_check_full_row ?cI_check_full_row ?kI_check_full_row ?a_lies ?l_lies ?cI_lies ?kI_lies ?a_p_check_order ?l_p_check_order ?cI_p_check_order ?kI_p_check_order ?a_reaches ?l_reaches ?cI_reaches ?kI_reaches ?a_rows_to ?l_rows_to ?cI_rows_to ?kI_rows_to ?a_l_cell_at ?l_l_cell_at ?cI_l_cell_at ?kI_l_cell_at ?a_l_mix ?l_l_mix ?cI_l_mix ?kI_l_mix ?a_l_whole ?l_l_whole ?cI_l_whole ?kI_l_whole ?a_l_order ?l_l_order ?cI_l_order ?kI_l_order ?a_l_word ?l_l_word ?cI_l_word ?kI_l_word ?a_l_right ?l_l_right ?cI_l_right ?kI_l_right ?a_law ?l_law ?cI_law ?kI_law ?z_bool ?z_enumerate ?z_int ?z_isinstance ?z_len ?z_list ?z_min ?z_range ?z_set ?z_tuple ?z_type ?y_MOST ?xg_BerthError ?xx_BerthError ?xk_BerthError ?xb_BerthError ?xt_BerthError ?xg_NoCount ?xx_NoCount ?xk_NoCount ?xb_NoCount ?xt_NoCount ?xg_NoOrder ?xx_NoOrder ?xk_NoOrder ?xb_NoOrder ?xt_NoOrder ?xg_NoQuay ?xx_NoQuay ?xk_NoQuay ?xb_NoQuay ?xt_NoQuay ?xg_NoTree ?xx_NoTree ?xk_NoTree ?xb_NoTree ?xt_NoTree ?xg_NoWishes ?xx_NoWishes ?xk_NoWishes ?xb_NoWishes ?xt_NoWishes ?xg_TooMany ?xx_TooMany ?xk_TooMany ?xb_TooMany ?xt_TooMany ?v_hn ?v_ht ?vhg_BerthError ?vhk_BerthError ?vhs_BerthError ?vhd_BerthError ?vha_BerthError ?vhm_BerthError ?vty_BerthError ?vse_BerthError ?vhg_NoQuay ?vhk_NoQuay ?vhs_NoQuay ?vhd_NoQuay ?vha_NoQuay ?vhm_NoQuay ?vty_NoQuay ?vse_NoQuay ?vhg_NoWishes ?vhk_NoWishes ?vhs_NoWishes ?vhd_NoWishes ?vha_NoWishes ?vhm_NoWishes ?vty_NoWishes ?vse_NoWishes ?vhg_TooMany ?vhk_TooMany ?vhs_TooMany ?vhd_TooMany ?vha_TooMany ?vhm_TooMany ?vty_TooMany ?vse_TooMany ?vhg_NoCount ?vhk_NoCount ?vhs_NoCount ?vhd_NoCount ?vha_NoCount ?vhm_NoCount ?vty_NoCount ?vse_NoCount ?vhg_NoTree ?vhk_NoTree ?vhs_NoTree ?vhd_NoTree ?vha_NoTree ?vhm_NoTree ?vty_NoTree ?vse_NoTree ?vhg_NoOrder ?vhk_NoOrder ?vhs_NoOrder ?vhd_NoOrder ?vha_NoOrder ?vhm_NoOrder ?vty_NoOrder ?vse_NoOrder ?w_NoOrder_BerthError ?w_NoOrder_NoOrder ?w_NoOrder_NoTree ?w_NoOrder_NoWishes ?w_NoOrder_TooMany ?w_NoOrder_NoQuay ?w_NoOrder_NoCount ?w_NoWishes_BerthError ?w_NoWishes_NoOrder ?w_NoWishes_NoTree ?w_NoWishes_NoWishes ?w_NoWishes_TooMany ?w_NoWishes_NoQuay ?w_NoWishes_NoCount
    (case a_is_number => k_is)
    (case l_is_number => k_is)
    (case cI_is_number => k_is)
    (case kI_is_number => k_is)
    (case a_is_from_to => k_is)
    (case l_is_from_to => k_is)
    (case cI_is_from_to => k_is)
    (case kI_is_from_to => k_is)
    (case a_is_row => k_is)
    (case l_is_row => k_is)
    (case cI_is_row => k_is)
    (case kI_is_row => k_is)
    (case a_check_quay => k_is)
    (case l_check_quay => k_is)
    (case cI_check_quay => k_is)
    (case kI_check_quay => k_is)
    (case a_check_wishes => k_is)
    (case l_check_wishes => k_is)
    (case cI_check_wishes => k_is)
    (case kI_check_wishes => k_is)
    (case a_first_free => k_is)
    (case l_first_free => k_is)
    (case cI_first_free => k_is)
    (case kI_first_free => k_is)
    (case a_placed => k_is)
    (case l_placed => k_is)
    (case cI_placed => k_is)
    (case kI_placed => k_is)
    (case a_crowded => k_is)
    (case l_crowded => k_is)
    (case cI_crowded => k_is)
    (case kI_crowded => k_is)
    (case a_is_good => k_is)
    (case l_is_good => k_is)
    (case cI_is_good => k_is)
    (case kI_is_good => k_is)
    (case a_check_full_row => k_is)
    (case l_check_full_row => k_is)
    (case cI_check_full_row => k_is)
    (case kI_check_full_row => k_is)
    (case a_lies => k_is)
    (case l_lies => k_is)
    (case cI_lies => k_is)
    (case kI_lies => k_is)
    (case a_p_check_order => k_is)
    (case l_p_check_order => k_is)
    (case cI_p_check_order => k_is)
    (case kI_p_check_order => k_is)
    (case a_reaches => k_is)
    (case l_reaches => k_is)
    (case cI_reaches => k_is)
    (case kI_reaches => k_is)
    (case a_rows_to => k_is)
    (case l_rows_to => k_is)
    (case cI_rows_to => k_is)
    (case kI_rows_to => k_is)
    (case a_l_cell_at => k_is)
    (case l_l_cell_at => k_is)
    (case cI_l_cell_at => k_is)
    (case kI_l_cell_at => k_is)
    (case a_l_mix => k_is)
    (case l_l_mix => k_is)
    (case cI_l_mix => k_is)
    (case kI_l_mix => k_is)
    (case a_l_whole => k_is)
    (case l_l_whole => k_is)
    (case cI_l_whole => k_is)
    (case kI_l_whole => k_is)
    (case a_l_order => k_is)
    (case l_l_order => k_is)
    (case cI_l_order => k_is)
    (case kI_l_order => k_is)
    (case a_l_word => k_is)
    (case l_l_word => k_is)
    (case cI_l_word => k_is)
    (case kI_l_word => k_is)
    (case a_l_right => k_is)
    (case l_l_right => k_is)
    (case cI_l_right => k_is)
    (case kI_l_right => k_is)
    (case a_law => k_is)
    (case l_law => k_is)
    (case cI_law => k_is)
    (case kI_law => k_is)
    (case z_bool => k_is)
    (case z_enumerate => k_is)
    (case z_int => k_is)
    (case z_isinstance => k_is)
    (case z_len => k_is)
    (case z_list => k_is)
    (case z_min => k_is)
    (case z_range => k_is)
    (case z_set => k_is)
    (case z_tuple => k_is)
    (case z_type => k_is)
    (case y_MOST => k_is)
    (case xg_BerthError => k_is)
    (case xx_BerthError => k_exc)
    (case xk_BerthError => k_is)
    (case xb_BerthError => k_is)
    (case xt_BerthError => k_is)
    (case xg_NoCount => k_is)
    (case xx_NoCount => k_exc)
    (case xk_NoCount => k_is)
    (case xb_NoCount => k_is)
    (case xt_NoCount => k_is)
    (case xg_NoOrder => k_is)
    (case xx_NoOrder => k_exc)
    (case xk_NoOrder => k_is)
    (case xb_NoOrder => k_is)
    (case xt_NoOrder => k_is)
    (case xg_NoQuay => k_is)
    (case xx_NoQuay => k_exc)
    (case xk_NoQuay => k_is)
    (case xb_NoQuay => k_is)
    (case xt_NoQuay => k_is)
    (case xg_NoTree => k_is)
    (case xx_NoTree => k_exc)
    (case xk_NoTree => k_is)
    (case xb_NoTree => k_is)
    (case xt_NoTree => k_is)
    (case xg_NoWishes => k_is)
    (case xx_NoWishes => k_exc)
    (case xk_NoWishes => k_is)
    (case xb_NoWishes => k_is)
    (case xt_NoWishes => k_is)
    (case xg_TooMany => k_is)
    (case xx_TooMany => k_exc)
    (case xk_TooMany => k_is)
    (case xb_TooMany => k_is)
    (case xt_TooMany => k_is)
    (case v_hn => k_is)
    (case v_ht => k_is)
    (case vhg_BerthError => k_is)
    (case vhk_BerthError => k_is)
    (case vhs_BerthError => k_is)
    (case vhd_BerthError => k_is)
    (case vha_BerthError => k_is)
    (case vhm_BerthError => k_is)
    (case vty_BerthError => k_is)
    (case vse_BerthError => k_is)
    (case vhg_NoQuay => k_is)
    (case vhk_NoQuay => k_is)
    (case vhs_NoQuay => k_is)
    (case vhd_NoQuay => k_is)
    (case vha_NoQuay => k_is)
    (case vhm_NoQuay => k_is)
    (case vty_NoQuay => k_is)
    (case vse_NoQuay => k_is)
    (case vhg_NoWishes => k_is)
    (case vhk_NoWishes => k_is)
    (case vhs_NoWishes => k_is)
    (case vhd_NoWishes => k_is)
    (case vha_NoWishes => k_is)
    (case vhm_NoWishes => k_is)
    (case vty_NoWishes => k_is)
    (case vse_NoWishes => k_is)
    (case vhg_TooMany => k_is)
    (case vhk_TooMany => k_is)
    (case vhs_TooMany => k_is)
    (case vhd_TooMany => k_is)
    (case vha_TooMany => k_is)
    (case vhm_TooMany => k_is)
    (case vty_TooMany => k_is)
    (case vse_TooMany => k_is)
    (case vhg_NoCount => k_is)
    (case vhk_NoCount => k_is)
    (case vhs_NoCount => k_is)
    (case vhd_NoCount => k_is)
    (case vha_NoCount => k_is)
    (case vhm_NoCount => k_is)
    (case vty_NoCount => k_is)
    (case vse_NoCount => k_is)
    (case vhg_NoTree => k_is)
    (case vhk_NoTree => k_is)
    (case vhs_NoTree => k_is)
    (case vhd_NoTree => k_is)
    (case vha_NoTree => k_is)
    (case vhm_NoTree => k_is)
    (case vty_NoTree => k_is)
    (case vse_NoTree => k_is)
    (case vhg_NoOrder => k_is)
    (case vhk_NoOrder => k_is)
    (case vhs_NoOrder => k_is)
    (case vhd_NoOrder => k_is)
    (case vha_NoOrder => k_is)
    (case vhm_NoOrder => k_is)
    (case vty_NoOrder => k_is)
    (case vse_NoOrder => k_is)
    (case w_NoOrder_BerthError => k_is)
    (case w_NoOrder_NoOrder => k_is)
    (case w_NoOrder_NoTree => k_is)
    (case w_NoOrder_NoWishes => k_is)
    (case w_NoOrder_TooMany => k_is)
    (case w_NoOrder_NoQuay => k_is)
    (case w_NoOrder_NoCount => k_is)
    (case w_NoWishes_BerthError => k_is)
    (case w_NoWishes_NoOrder => k_is)
    (case w_NoWishes_NoTree => k_is)
    (case w_NoWishes_NoWishes => k_is)
    (case w_NoWishes_TooMany => k_is)
    (case w_NoWishes_NoQuay => k_is)
    (case w_NoWishes_NoCount => k_is)
