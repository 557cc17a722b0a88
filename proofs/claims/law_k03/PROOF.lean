import PyProof.Rows.All
import Wide.All
import OpenK.AllK
import Wide.FinOn
import HandS.ForMost
import HandS.ForExc
import HandS.More
import HandS.Walk
import HandS.SortInts
import HandS.SetFor
import HandS.Style
import HandS.RevRange
import HandS.TupAny
import HandS.TupMul
import HandS.IsInst
import HandS.Conv
import HandS.ExcIs
import HandS.ExcCtx
import HandS.SortKw
import HandS.Remove
import HandS.TupLe
import HandS.Zip
import HandS.Small
import KE.DatumOrd
import KE.DatumMore
import KE.KSortedM
import KE.KStateDown
import KE.KDictPairs
import PySem.Challenge.RW_berthrow_k03_whole_any_order
set_option Elab.async false
set_option linter.all false
set_option maxRecDepth 100000
set_option maxHeartbeats 4000000
namespace Br
open PySem PySem.Spec PyProof.Rows L2
/-! ### addresses of what the top has made, by name -/
structure Ad where
  f_is_number : Addr := 0
  f_is_from_to : Addr := 0
  f_is_row : Addr := 0
  f_check_quay : Addr := 0
  f_check_wishes : Addr := 0
  f_first_free : Addr := 0
  f_placed : Addr := 0
  f_taken : Addr := 0
  f_gone_on : Addr := 0
  f_is_good : Addr := 0
  f_crowded : Addr := 0
  f_placed_round : Addr := 0
  f_left_over : Addr := 0
  f_turned : Addr := 0
  f_turning : Addr := 0
  f_how_many : Addr := 0
  f_first_row : Addr := 0
  f_last_row : Addr := 0
  f_next_row : Addr := 0
  f_p_check_ships : Addr := 0
  f_l_cell_at : Addr := 0
  f_l_mix : Addr := 0
  f_l_quay : Addr := 0
  f_l_wishes : Addr := 0
  f_l_placed : Addr := 0
  f_l_whole : Addr := 0
  f_l_good : Addr := 0
  f_l_crowded : Addr := 0
  f_l_order : Addr := 0
  f_l_round : Addr := 0
  f_l_refused : Addr := 0
  f_l_due : Addr := 0
  f_l_caught : Addr := 0
  f_l_lowered : Addr := 0
  f_first_free_round : Addr := 0
  f_check_full_row : Addr := 0
  f_tree_of : Addr := 0
  f_wishes_of : Addr := 0
  f_p_check_knots : Addr := 0
  f_lies : Addr := 0
  f_reaches : Addr := 0
  f_rows_to : Addr := 0
  f_p_check_order : Addr := 0
  f_is_name : Addr := 0
  f_written : Addr := 0
  f_read : Addr := 0
  f_p_parts : Addr := 0
  f_p_pair : Addr := 0
  f_p_number : Addr := 0
  f_p_check_name : Addr := 0
  f_l_asked : Addr := 0
  f_l_word : Addr := 0
  f_l_told : Addr := 0
  f_l_odd : Addr := 0
  f_l_no_quay : Addr := 0
  f_l_full : Addr := 0
  f_l_tree : Addr := 0
  f_l_drawn : Addr := 0
  f_l_hangs : Addr := 0
  f_l_right : Addr := 0
  f_l_lying : Addr := 0
  f_l_words : Addr := 0
  f_l_done : Addr := 0
  f_l_stands : Addr := 0
  f_l_nearer : Addr := 0
  f_l_read : Addr := 0
  f_l_text : Addr := 0
  f_l_odd_text : Addr := 0
  f_law : Addr := 0
  e_BerthError : Addr := 0
  e_NoQuay : Addr := 0
  e_NoWishes : Addr := 0
  e_TooMany : Addr := 0
  e_NoCount : Addr := 0
  e_NoTree : Addr := 0
  e_NoOrder : Addr := 0
  e_NoName : Addr := 0
  e_Taken : Addr := 0
  e_NoWish : Addr := 0
  e_NoRoom : Addr := 0
  e_NoShip : Addr := 0
  e_NoText : Addr := 0
/-- a def as it stands behind the top -/
structure DF (K : PySem.W.Frag) (mg : Str → Option Value) (x : Str) (st : Stmt) (ps : List Str) (f : Addr) : Prop where
  ex : ∃ fd, Fun K x x st f fd ∧ Binds K fd ps []
  g : mg x = some (.ref f)
/-- a def that keeps its promise, ready to be called by its name -/
structure Cb (P : Program) (w : World) (K : PySem.W.Frag) (mg : Str → Option Value) (base : Heap) (CX : CXT) (k : Nat) (x : Str) (f : Addr) (ps : List Str) (sp : Sp) : Prop where
  ex : ∃ fd, FnOk P w K mg base CX k f fd ps sp ∧ Binds K fd ps []
  g : mg x = some (.ref f)
  kp : PySem.W.keepIn K (.ref f) = true
/-- an own exception's class -/
structure ExF (K : PySem.W.Frag) (mg : Str → Option Value) (x : Str) (c : Addr) : Prop where
  g : mg x = some (.ref c)
  x : PySem.W.excIn K c [.type "ValueError", .type "Exception", .type "BaseException", .type "object"] "ValueError.__new__" = true
  k : PySem.W.keepIn K (.ref c) = true
  b : PySem.W.subIn K (.ref c) (.type "BaseException") = some true
  t : PySem.W.typeIn K (.ref c) = some (.type "type")
theorem df_mk {K : PySem.W.Frag} {mg : Str → Option Value} {x : Str} {st : Stmt} {ps : List Str} {f : Addr} {fd : FuncData} (F : Fun K x x st f fd)
    (h : ∀ (kV doc pm : Value) (an : Option Addr) (cdv ct : Value) (us : List Value), us.length = ps.length → bindArgs (PySem.W.fnOf x x (defArgs st) (defBody st) (defScope st) .none kV doc pm an cdv ct) ⟨us, []⟩ = pure (ps.zip us)) (g : mg x = some (.ref f)) : DF K mg x st ps f :=
  ⟨⟨fd, F, F.binds h⟩, g⟩
/-! ### readings by short names -/
def rAddI : R2 := rI0 fun i j => .int (i + j)
def rSubI : R2 := rI0 fun i j => .int (i - j)
def rMulI : R2 := rI CMul fun i j => .int (i * j)
def rModI : R2 := rI (fun _ j => 0 < j) fun i j => .int (i % j)
def rDivI : R2 := rI CDiv fun i j => .int (i / j)
def rPowI : R2 := rI CPow fun i j => .int (i ^ j.toNat)
def rLtI : R2 := rI0 fun i j => .bl (decide (i < j))
def rLeI : R2 := rI0 fun i j => .bl (decide (i ≤ j))
def rGtI : R2 := rI0 fun i j => .bl (decide (j < i))
def rGeI : R2 := rI0 fun i j => .bl (decide (j ≤ i))
def rIsTyB : R2 := fun x y H Q => ∃ a b, x = .ty a ∧ y = .ty b ∧ Q (.bl (decide (a = b))) H
def rIsB1 : R2 := fun x y H Q => ∃ a b, x = .bl a ∧ y = .bl b ∧ Q (.bl (decide (a = b))) H
def rLenSq (K : PySem.W.Frag) : List V → Hp → VK → Prop := fun xs H Q => ∃ p ys, xs = [.ref p] ∧ (SqL K H p ys ∨ SqT K H p ys) ∧ Q (.int ys.length) H
def rMin2 : List V → Hp → VK → Prop := fun xs H Q => ∃ i j, xs = [.int i, .int j] ∧ Q (.int (if j < i then j else i)) H
def rMax2 : List V → Hp → VK → Prop := fun xs H Q => ∃ i j, xs = [.int i, .int j] ∧ Q (.int (if j > i then j else i)) H
def rInt1 : List V → Hp → VK → Prop := fun xs H Q => (∃ i, xs = [.int i] ∧ Q (.int i) H) ∨ ∃ k, xs = [.bl k] ∧ Q (.int (if k then 1 else 0)) H
def rListOf (K : PySem.W.Frag) : List V → Hp → VK → Prop := fun xs H Q => ∃ p ys, xs = [.ref p] ∧ (SqL K H p ys ∨ SqT K H p ys) ∧ ∀ l, H l = none → Q (.ref l) (upd H l (.lst ys))
def rTupleOf (K : PySem.W.Frag) : List V → Hp → VK → Prop := fun xs H Q => ∃ p ys, xs = [.ref p] ∧ ((SqL K H p ys ∧ ∀ l, H l = none → Q (.ref l) (upd H l (.tup ys))) ∨ (SqT K H p ys ∧ Q (.ref p) H))
def ipAdd : TIp := ipI fun i j => i + j
def ipSub : TIp := ipI fun i j => i - j
def tTru (K : PySem.W.Frag) (te : TE) : TT := fun σ H Q => te σ H fun x H' => ∃ k, TruV K x H' k ∧ Q k H'
def tRaise (c : Addr) (E : XK) : TS := fun _ _ H => E (.ref c) none H
def iSeq (K : PySem.W.Frag) (tl : TE) : TI := fun σ H R => iList K tl σ H R ∨ iTup K tl σ H R
def SqA (K : PySem.W.Frag) (H : Hp) (a : Addr) (xs : List V) : Prop := SqL K H a xs ∨ SqT K H a xs
theorem item_of0 {ns : List Int} {i : Nat} {y : V} (hi : (ns.map V.int)[i]? = some y) : ∃ z, ns[i]? = some z ∧ y = V.int z := by
  rw [List.getElem?_map] at hi
  cases e : ns[i]? with
  | none => rw [e] at hi; cases hi
  | some z => rw [e] at hi; exact ⟨z, rfl, (Option.some.inj hi).symm⟩
/-! ### rules -/
section
variable {X : Cx}
theorem pe_gl {x : Str} {v : V} {pos : Pos} (hg : Gl X x) (h : ∃ u, X.mg x = some u ∧ RelV v u) (hd : (x == ("__debug__" : Str)) = false := by decide) : PE X (.Name x pos) (tC v) := by
  obtain ⟨u, hm, r⟩ := h
  exact pe_glob hg hm r hd
theorem pe_cb {CX : CXT} {k : Nat} {f : Addr} {ps : List Str} {sp : Sp} {E : XK} {x : Str} {p pos : Pos} {e : Expr} {es : List Expr} {t : TA} (G : Cb X.prog X.w X.K X.mg X.base CX k x f ps sp) (hr : Room k X.A) (hg : Gl X x) (hx : Passes CX X E) (ha : PA X (e :: es) t)
    (hdb : (x == ("__debug__" : Str)) = false := by decide) (he : starEach (e :: es) X.env = (false, eval e X.env) :: starEach es X.env := by rfl) (hpl : (backTo pos (starEach es X.env)).any (·.1) = false := by rfl) :
    PE X (.Call (.Name x p) (e :: es) [] pos) (tCall sp [] E t) := by
  obtain ⟨⟨fd, F, b⟩, g, kp⟩ := G
  exact pe_call F hr hg g kp b .nil hx ha hdb he hpl
theorem pe_cbS {CX : CXT} {k : Nat} {f : Addr} {ps : List Str} {sp : Sp} {E : L2.St → XK} {x : Str} {p pos : Pos} {e : Expr} {es : List Expr} {t : TA} (G : Cb X.prog X.w X.K X.mg X.base CX k x f ps sp) (hr : Room k X.A) (hg : Gl X x) (hx : ∀ σ, PassesAt CX X σ (E σ)) (ha : PA X (e :: es) t)
    (hdb : (x == ("__debug__" : Str)) = false := by decide) (he : starEach (e :: es) X.env = (false, eval e X.env) :: starEach es X.env := by rfl) (hpl : (backTo pos (starEach es X.env)).any (·.1) = false := by rfl) :
    PE X (.Call (.Name x p) (e :: es) [] pos) (tCallS sp E t) := by
  obtain ⟨⟨fd, F, b⟩, g, kp⟩ := G
  exact pe_callS F hr hg g kp b hx ha hdb he hpl
theorem pi_seq {tg l : Expr} {tl : TE} (hl : PE X l tl) : PI X tg l (iSeq X.K tl) :=
  ⟨fun pins s σ H R I h => h.elim (fun h => (pi_list hl).run pins s σ H R I h) (fun h => (pi_tup hl).run pins s σ H R I h)⟩
/-- xs[i], by values: for xs[i] += e -/
theorem gt_list : PGet X (rIxL X.K) := by
  intro pins s σ H x y v u Q I rx ry h
  obtain ⟨p, xs, i, z, rfl, rfl, hq, he, q⟩ := h
  cases rx
  obtain ⟨t, rfl⟩ := ry
  obtain ⟨its, r, pl, hz⟩ := I.list hq
  obtain ⟨j, h1, h2, h3, h4, h5⟩ := atI_get he
  obtain ⟨w, ew, rw'⟩ := r.get h2
  have hl := r.length
  have hn := line63
  have fin : EP X pins σ Q w s := ⟨z, H, I, rw', q⟩
  by_cases h0 : 0 ≤ i
  · have hj : i.toNat = j := by
      rw [seqIndex_of h0 h5] at h1
      exact Option.some.inj h1
    exact wpAny_getItem_list pl.isList h0 (by omega) (by rw [hj]; simpa using ew) fin
  · have hj : (i + (its.toArray.size : Int)).toNat = j := by
      rw [seqIndex_neg (by omega) h4] at h1
      rw [List.size_toArray, ← hl]
      exact Option.some.inj h1
    exact wpAny_getItem_list_neg pl.isList (by omega) (by rw [List.size_toArray] <;> omega) (by omega) (by rw [hj]; simpa using ew) fin
/-! ### min(xs, default=d), xs a list of whole numbers -/
theorem minOf_int : ∀ (ys : List Int) (y : Int), PySem.W.minOf y ys ∈ y :: ys ∧ ∀ z ∈ y :: ys, PySem.W.minOf y ys ≤ z
  | [], y => ⟨List.mem_singleton.mpr rfl, fun z hz => by rw [List.mem_singleton.mp hz]; exact Int.le_refl _⟩
  | x :: r, y => by
    have e : PySem.W.minOf y (x :: r) = PySem.W.minOf (if x < y then x else y) r := by
      show PySem.W.minOf (if (decide (x < y)) = true then x else y) r = _
      by_cases h : x < y <;> simp [h]
    obtain ⟨h1, h2⟩ := minOf_int r (if x < y then x else y)
    rw [e]
    refine ⟨?_, fun z hz => ?_⟩
    · rcases List.mem_cons.mp h1 with k | k
      · rw [k]
        by_cases h : x < y <;> simp [h]
      · simp [k]
    · have hc := h2 _ (List.mem_cons_self)
      rcases List.mem_cons.mp hz with k | k
      · subst k
        by_cases h : x < z
        · rw [if_pos h] at hc ⊢
          omega
        · rw [if_neg h] at hc ⊢
          exact hc
      · rcases List.mem_cons.mp k with k | k
        · subst k
          by_cases h : z < y
          · rw [if_pos h] at hc ⊢
            exact hc
          · rw [if_neg h] at hc ⊢
            omega
        · exact h2 z (List.mem_cons_of_mem _ k)
def rMinD (K : PySem.W.Frag) : List V → List V → Hp → VK → Prop := fun vs zs H Q => ∃ (p : Addr) (d : V) (ns : List Int), vs = [.ref p] ∧ zs = [d] ∧ SqL K H p (ns.map V.int) ∧
  (ns = [] → Q d H) ∧ ∀ m, m ∈ ns → (∀ y ∈ ns, m ≤ y) → Q (.int m) H
def tMinD (K : PySem.W.Frag) (ta td : TE) : TE := tCKw (rMinD K) (tCons ta tNil) (tCons td tNil)
theorem dp_ints {K : PySem.W.Frag} {H : Hp} : ∀ ns : List Int, DpAll K H (ns.map V.int) (ns.map PyData.int)
  | [] => .nil
  | n :: r => .cons (.int n) (dp_ints r)
theorem cr_minD (hc : X.calm = true) (hu : X.A.units + 64 < cLine) : CallRK X (.builtin "min") [Str.ofString "default"] (rMinD X.K) := by
  intro pins s σ H vs zs us ws Q I r rz h
  obtain ⟨p, d, ns, rfl, rfl, hs, q0, q1⟩ := h
  obtain ⟨w, rfl, rw'⟩ := vals1 rz
  obtain ⟨its, rv, hl, _⟩ := I.list hs
  rw [Vals.ref1 r]
  obtain ⟨as, ra⟩ := Dp.readsAll I (ns.map PyData.int) _ its (dp_ints ns) rv
  have HA : PySem.W.HoldAll s.heap its.toArray.toList ns := ⟨as, ra⟩
  refine PySem.W.min_list_datum_default (I.ok.hd hc) hl.isList HA (by show X.A.units + 1 + PySem.W.Datum.depth Int < cLine; have e : PySem.W.Datum.depth Int = 0 := rfl; rw [e]; omega) (fun e h' tk hk => ⟨d, H, I.kept hk, rw', q0 e⟩) fun y ys i v h' tk e hi hv hk => ?_
  subst e
  obtain ⟨as2, r2⟩ := hv
  have hi' : its[i]? = some v := by simpa using hi
  have hlen := rv.length
  have hlt : i < ((y :: ys).map V.int).length := by rw [hlen]; exact (List.getElem?_eq_some_iff.mp hi').1
  obtain ⟨u, hu1, hu2⟩ := rv.get (List.getElem?_eq_getElem hlt)
  rw [hi'] at hu1
  cases hu1
  obtain ⟨z, hz, ez⟩ := item_of0 (List.getElem?_eq_getElem hlt)
  rw [ez] at hu2
  obtain ⟨t, rfl⟩ := hu2
  have em : PySem.W.minOf y ys = z := by
    have r2' : Reads h' (.int z t) (.int (PySem.W.minOf y ys)) as2 := r2
    cases r2'
    rfl
  obtain ⟨m1, m2⟩ := minOf_int ys y
  rw [em] at m1 m2
  exact ⟨.int z, H, I.kept hk, ⟨_, rfl⟩, q1 z m1 m2⟩
theorem pe_minD {p pos kpos : Pos} {e d : Expr} {ta td : TE} (hc : X.calm = true) (hu : X.A.units + 64 < cLine) (hg : Gl X "min") (hm : X.mg "min" = none) (ha : PE X e ta) (hd : PE X d td)
    (he : backTo pos (starEach (e :: []) X.env) = (false, eval e X.env) :: backTo pos (starEach [] X.env) := by rfl) (hse : starEach (e :: []) X.env = (false, eval e X.env) :: starEach [] X.env := by rfl) (hpl : (backTo pos (starEach (e :: []) X.env)).any (·.1) = false := by rfl)
    (hall : (backToKw pos (keywordEach [⟨some (Str.ofString "default"), d, kpos⟩] X.env)).all (·.1.isSome) = true := by rfl) (hnone : (backToKw pos (keywordEach [⟨some (Str.ofString "default"), d, kpos⟩] X.env)).any (·.1.isNone) = false := by rfl)
    (hks : (backToKw pos (keywordEach [⟨some (Str.ofString "default"), d, kpos⟩] X.env)).filterMap (·.1) = [Str.ofString "default"] := by rfl) :
    PE X (.Call (.Name "min" p) [e] [⟨some (Str.ofString "default"), d, kpos⟩] pos) (tMinD X.K ta td) :=
  pe_callBK (cr_minD hc hu) hg hm (by decide +kernel) (pa_cons ha pa_nil hse) (pk_cons hd pk_nil) (by decide) (by decide) he hpl hall hnone hks
end
/-! ### == and != of data -/
def rEqT (K : PySem.W.Frag) : R2 := fun x y H Q => ∃ (α : Type) (_ : DecidableEq α) (_ : PySem.W.Datum α) (a b : α), Dp K H x (PySem.W.Datum.toD a) ∧ Dp K H y (PySem.W.Datum.toD b) ∧ PySem.W.Datum.depth α ≤ 64 ∧ Q (.bl (decide (a = b))) H
def rNeT (K : PySem.W.Frag) : R2 := fun x y H Q => ∃ (α : Type) (_ : DecidableEq α) (_ : PySem.W.Datum α) (a b : α), Dp K H x (PySem.W.Datum.toD a) ∧ Dp K H y (PySem.W.Datum.toD b) ∧ PySem.W.Datum.depth α ≤ 64 ∧ Q (.bl (decide (a ≠ b))) H
section
variable {X : Cx}
theorem op_eqT (hu : X.A.units + 64 < cLine) : OpR X (compareOp .Eq) (rEqT X.K) := by
  intro pins s σ H x y v u Q I rx ry h
  obtain ⟨α, d1, d2, a, b, ha, hb, hd, q⟩ := h
  exact PySem.W.eq_datum (Dp.reads I _ x v ha rx) (Dp.reads I _ y u hb ry) (by omega) ⟨.bl _, H, I, rfl, q⟩
theorem op_neT (hu : X.A.units + 64 < cLine) : OpR X (compareOp .NotEq) (rNeT X.K) := by
  intro pins s σ H x y v u Q I rx ry h
  obtain ⟨α, d1, d2, a, b, ha, hb, hd, q⟩ := h
  exact PySem.W.ne_datum (Dp.reads I _ x v ha rx) (Dp.reads I _ y u hb ry) (by omega) ⟨.bl _, H, I, rfl, q⟩
end
theorem eqT_of {K : PySem.W.Frag} {x y : V} {H : Hp} {Q : VK} {α : Type} [DecidableEq α] [PySem.W.Datum α] {a b : α} (ha : Dp K H x (PySem.W.Datum.toD a)) (hb : Dp K H y (PySem.W.Datum.toD b)) (hd : PySem.W.Datum.depth α ≤ 64) (q : Q (.bl (decide (a = b))) H) : rEqT K x y H Q := ⟨α, _, _, a, b, ha, hb, hd, q⟩
theorem neT_of {K : PySem.W.Frag} {x y : V} {H : Hp} {Q : VK} {α : Type} [DecidableEq α] [PySem.W.Datum α] {a b : α} (ha : Dp K H x (PySem.W.Datum.toD a)) (hb : Dp K H y (PySem.W.Datum.toD b)) (hd : PySem.W.Datum.depth α ≤ 64) (q : Q (.bl (decide (a ≠ b))) H) : rNeT K x y H Q := ⟨α, _, _, a, b, ha, hb, hd, q⟩
theorem ho_ints {K : PySem.W.Frag} {H : Hp} {p : Addr} {ns : List Int} (h : SqL K H p (ns.map V.int)) : Dp K H (.ref p) (PySem.W.Datum.toD ns) := .lst h (dp_ints ns)
/-! ### heaps -/
theorem same_new {H : Hp} {p : Addr} {o : HO} (h : H p = none) : Same H (upd H p o) := fun b x e => by
  rw [upd_ne (ne_of_none e h)]
  exact e
/-- what stood ahead of an object's making stands behind a store into it -/
theorem _root_.L2.Same.store {H H' : Hp} {p : Addr} {o : HO} (s : Same H H') (h : H p = none) : Same H (upd H' p o) := fun b x e => by
  rw [upd_ne (ne_of_none e h)]
  exact s b x e
theorem _root_.L2.Same.seqT {K : PySem.W.Frag} {H H' : Hp} {a : Addr} {xs : List V} (e : Same H H') (h : SqT K H a xs) : SqT K H' a xs := by
  rcases h with (h | ⟨o, h⟩) | h
  · exact .inl (.inl (e _ _ h))
  · exact .inl (.inr ⟨o, e _ _ h⟩)
  · exact .inr h
theorem _root_.L2.Same.seqA {K : PySem.W.Frag} {H H' : Hp} {a : Addr} {xs : List V} (e : Same H H') (h : SqA K H a xs) : SqA K H' a xs := h.elim (fun h => .inl (e.seq h)) (fun h => .inr (e.seqT h))
theorem sqL_of {K : PySem.W.Frag} {H : Hp} {a : Addr} {xs : List V} (h : H a = some (.lst xs)) : SqL K H a xs := .inl (.inl h)
theorem sqT_of {K : PySem.W.Frag} {H : Hp} {a : Addr} {xs : List V} (h : H a = some (.tup xs)) : SqT K H a xs := .inl (.inl h)
/-! ### loops and comprehensions in short -/
theorem for_seq {K : PySem.W.Frag} {a : Addr} {xs : List V} {tl : TE} {g : TG} {tb : TS} {D : Ends} {σ : L2.St} {H0 H : Hp} (ht : ∀ Q : VK, Q (.ref a) H → tl σ H Q) (hA : SqA K H0 a xs) (Pv : Nat → L2.St → Hp → Prop) (h0 : Pv 0 σ H) (hl : ∀ i σ H', Pv i σ H' → Same H0 H')
    (hs : ∀ i x σ H, xs[i]? = some x → Pv i σ H → g x σ H fun σ2 H2 => tb { D with nx := Pv (i + 1), ct := Pv (i + 1), bk := D.nx } σ2 H2) (hd : ∀ σ H, Pv xs.length σ H → D.nx σ H) : tFor (iSeq K tl) g tb D σ H := by
  rcases hA with h | h
  · exact .inl (ht _ ⟨a, rfl, ⟨_, (hl _ _ _ h0).seq h⟩, for_list (K := K) (a := a) Pv h0 (fun i σ H' _ p => (hl i σ H' p).seq h) hs hd⟩)
  · exact .inr (ht _ ⟨a, rfl, ⟨_, (hl _ _ _ h0).seqT h⟩, for_tup (K := K) (a := a) Pv h0 (fun i σ H' _ p => (hl i σ H' p).seqT h) hs hd⟩)
theorem take_more {α : Type} : ∀ {l : List α} {i : Nat} {x : α}, l[i]? = some x → l.take (i + 1) = l.take i ++ [x] := fun {l i x} h => by
  rw [List.take_add_one, h]
  rfl
theorem item_of {ns : List Int} {i : Nat} {y : V} (hi : (ns.map V.int)[i]? = some y) : ∃ z, ns[i]? = some z ∧ y = V.int z := by
  rw [List.getElem?_map] at hi
  cases e : ns[i]? with
  | none => rw [e] at hi; cases hi
  | some z => rw [e] at hi; exact ⟨z, rfl, (Option.some.inj hi).symm⟩
/-- a comprehension over anything that gives n values it 0, it 1 .. and leaves what is tracked; p the test, f the element -/
theorem lc_pure {J : It} {n : Nat} {G : Hp → Prop} {tt : TT} {te : TE} {g : TG} {vs : List Nat} {σ : L2.St} {H1 : Hp} {Qd : Addr → Hp → Prop} {Y : Nat → Hp → V → Hp → Prop} {α : Type} (w : Walk J n G Y) (hn : n < sizeLine) (xs : List α) (hx : xs.length = n) (p : α → Bool) (f : α → V) (hG : ∀ H', Same H1 H' → G H')
    (hs : ∀ i (x : α) (v : V) (H H' : Hp) (R : Bool → V → Hp → Prop), xs[i]? = some x → Same H1 H → Y i H v H' → (∀ y H'', Same H H'' → (p x = true → y = f x) → R (p x) y H'') →
      g v (wipe σ vs) H' fun σ2 H2 => wipe σ2 vs = wipe σ vs ∧ tt σ2 H2 fun b H3 => if b = true then te σ2 H3 fun y H4 => R true y H4 else R false .non H3)
    (hQ : ∀ D H', H1 D = none → Same H1 H' → H' D = some (.lst ((xs.filter p).map f)) → Qd D H') :
    ∀ D, H1 D = none → ∃ W : Nat → Nat → Hp → Prop, (∃ m, W 0 m (upd H1 D (.lst []))) ∧ ∀ i m H, W i m H →
      (J.stop i H ∧ Qd D H) ∨ (J.go i H ∧ ∃ Nx : Hp → Prop, (∀ H', Nx H' → ∃ m', m' < m ∧ W (i + 1) m' H') ∧ ∀ x H', J.yld i H x H' → g x (wipe σ vs) H' fun σ2 H2 => wipe σ2 vs = wipe σ vs ∧ tt σ2 H2 fun b H3 =>
        if b = true then te σ2 H3 fun y H4 => ∃ acc, H4 D = some (.lst acc) ∧ acc.length < sizeLine ∧ Nx (upd H4 D (.lst (acc ++ [y]))) else Nx H3) := by
  intro D hD
  refine lc_it w (fun i H => Same H1 H ∧ H D = some (.lst (((xs.take i).filter p).map f))) ⟨same_new hD, upd_same⟩ (fun i H _ h => hG H h.1) ?_ ?_
  · intro i v H H' hi ⟨s, e⟩ y
    have hi' : i < xs.length := by omega
    have hx' : xs[i]? = some xs[i] := List.getElem?_eq_getElem hi'
    have fin := hs i xs[i] v H H' (fun b y H4 => if b = true then ∃ acc, H4 D = some (.lst acc) ∧ acc.length < sizeLine ∧ (Same H1 (upd H4 D (.lst (acc ++ [y]))) ∧ (upd H4 D (.lst (acc ++ [y]))) D = some (.lst (((xs.take (i + 1)).filter p).map f))) else Same H1 H4 ∧ H4 D = some (.lst (((xs.take (i + 1)).filter p).map f))) hx' s y ?_
    · exact fin
    · intro y H4 s4 hy
      have e4 := s4 _ _ e
      rw [take_more hx', List.filter_append, List.map_append]
      cases hp : p xs[i] with
      | true =>
        rw [if_pos rfl]
        refine ⟨_, e4, ?_, (s.trans s4).store hD, ?_⟩
        · rw [List.length_map]
          refine Nat.lt_of_le_of_lt (List.length_filter_le _ _) (Nat.lt_of_le_of_lt (List.length_take_le _ _) ?_)
          omega
        · rw [upd_same, hy hp]
          simp [List.filter, hp]
      | false =>
        rw [if_neg Bool.false_ne_true]
        refine ⟨s.trans s4, ?_⟩
        rw [e4]
        simp [List.filter, hp]
  · intro H ⟨s, e⟩
    rw [← hx, List.take_length] at e
    exact hQ D H hD s e

/-! ### what is a number, a quay, wishes -/
def isInt : V → Bool
  | .int _ => true
  | _ => false
def inB (lo hi : Int) : V → Bool
  | .int i => decide (lo ≤ i) && decide (i ≤ hi)
  | _ => false
def goodW (n : Nat) (xs : List V) : Bool := decide (xs.length ≤ 400) && xs.all (inB 1 n)
/-- what a check of a quay and of wishes for it comes to: R behind a good one -/
def ChkQ (K : PySem.W.Frag) (a : Ad) (b : V) (H : Hp) (E : XK) (R : Nat → Prop) : Prop := ∃ T, TyB K H b T ∧ ((inB 1 400 b = false ∧ E (.ref a.e_NoQuay) none H) ∨ ∃ n : Nat, b = .int n ∧ 1 ≤ n ∧ n ≤ 400 ∧ R n)
def ChkW (K : PySem.W.Frag) (a : Ad) (b w : V) (H : Hp) (E : XK) (R : Nat → List Int → Addr → Prop) : Prop := ChkQ K a b H E fun n =>
  (∃ T, TyB K H w T ∧ T ≠ "list" ∧ T ≠ "tuple" ∧ E (.ref a.e_NoWishes) none H) ∨
  ∃ p xs, w = .ref p ∧ SqA K H p xs ∧ (∀ x ∈ xs, ∃ T, TyB K H x T) ∧ ((goodW n xs = false ∧ E (.ref a.e_NoWishes) none H) ∨
    ∃ ws : List Int, xs = ws.map V.int ∧ ws.length ≤ 400 ∧ (∀ x ∈ ws, 1 ≤ x ∧ x ≤ n) ∧ R n ws p)
theorem ChkQ.imp {K : PySem.W.Frag} {a : Ad} {b : V} {H : Hp} {E : XK} {R R' : Nat → Prop} (h : ChkQ K a b H E R) (k : ∀ n : Nat, b = .int n → 1 ≤ n → n ≤ 400 → R n → R' n) : ChkQ K a b H E R' := by
  obtain ⟨T, ty, h | ⟨n, e, h1, h2, r⟩⟩ := h
  · exact ⟨T, ty, .inl h⟩
  · exact ⟨T, ty, .inr ⟨n, e, h1, h2, k n e h1 h2 r⟩⟩
theorem ChkW.imp {K : PySem.W.Frag} {a : Ad} {b w : V} {H : Hp} {E : XK} {R R' : Nat → List Int → Addr → Prop} (h : ChkW K a b w H E R)
    (k : ∀ (n : Nat) (ws : List Int) (p : Addr), b = .int n → w = .ref p → 1 ≤ n → n ≤ 400 → SqA K H p (ws.map V.int) → ws.length ≤ 400 → (∀ x ∈ ws, 1 ≤ x ∧ x ≤ n) → R n ws p → R' n ws p) : ChkW K a b w H E R' := by
  refine ChkQ.imp h fun n e h1 h2 r => ?_
  rcases r with r | ⟨p, xs, ew, hs, ht, r | ⟨ws, ex, hl, hb, r⟩⟩
  · exact .inl r
  · exact .inr ⟨p, xs, ew, hs, ht, .inl r⟩
  · exact .inr ⟨p, xs, ew, hs, ht, .inr ⟨ws, ex, hl, hb, k n ws p e ew h1 h2 (ex ▸ hs) hl hb r⟩⟩
/-- a check that is passed -/
theorem ChkQ.ok {K : PySem.W.Frag} {a : Ad} {H : Hp} {E : XK} {R : Nat → Prop} {n : Nat} (h1 : 1 ≤ n) (h2 : n ≤ 400) (r : R n) : ChkQ K a (.int n) H E R := ⟨_, .int _, .inr ⟨n, rfl, h1, h2, r⟩⟩
theorem ChkW.ok {K : PySem.W.Frag} {a : Ad} {H : Hp} {E : XK} {R : Nat → List Int → Addr → Prop} {n : Nat} {ws : List Int} {p : Addr} (h1 : 1 ≤ n) (h2 : n ≤ 400) (hs : SqA K H p (ws.map V.int)) (hl : ws.length ≤ 400) (hb : ∀ x ∈ ws, 1 ≤ x ∧ x ≤ n) (r : R n ws p) : ChkW K a (.int n) (.ref p) H E R :=
  ChkQ.ok h1 h2 (.inr ⟨p, _, rfl, hs, fun x hx => by
    obtain ⟨i, _, rfl⟩ := List.mem_map.mp hx
    exact ⟨_, .int i⟩, .inr ⟨ws, rfl, hl, hb, r⟩⟩)
theorem goodW_ints {n : Nat} {ws : List Int} : goodW n (ws.map V.int) = true ↔ ws.length ≤ 400 ∧ ∀ x ∈ ws, 1 ≤ x ∧ x ≤ n := by
  unfold goodW
  simp [inB]
theorem inB_int {lo hi : Int} {v : V} (h : inB lo hi v = true) : ∃ i, v = .int i ∧ lo ≤ i ∧ i ≤ hi := by
  cases v with
  | int i =>
    simp only [inB, Bool.and_eq_true, decide_eq_true_eq] at h
    exact ⟨i, rfl, h⟩
  | _ => cases h
theorem goodW_of {n : Nat} {xs : List V} (h : goodW n xs = true) : ∃ ws : List Int, xs = ws.map V.int ∧ ws.length ≤ 400 ∧ ∀ x ∈ ws, 1 ≤ x ∧ x ≤ n := by
  unfold goodW at h
  simp only [Bool.and_eq_true, decide_eq_true_eq, List.all_eq_true] at h
  obtain ⟨h1, h2⟩ := h
  have e : ∃ ws : List Int, xs = ws.map V.int := by
    clear h1
    induction xs with
    | nil => exact ⟨[], rfl⟩
    | cons x r ih =>
      obtain ⟨ws, e⟩ := ih fun y hy => h2 y (List.mem_cons_of_mem _ hy)
      obtain ⟨i, ei, _⟩ := inB_int (h2 x List.mem_cons_self)
      exact ⟨i :: ws, by rw [ei, e]; rfl⟩
  obtain ⟨ws, rfl⟩ := e
  refine ⟨ws, rfl, by simpa using h1, fun x hx => ?_⟩
  obtain ⟨i, ei, h3, h4⟩ := inB_int (h2 (.int x) (List.mem_map_of_mem hx))
  cases ei
  exact ⟨h3, h4⟩
theorem tyb_int {K : PySem.W.Frag} {H : Hp} {x : V} {T : String} (h : TyB K H x T) : decide (T = "int") = isInt x := by
  cases h <;> first | rfl | decide
theorem tyb_ref {K : PySem.W.Frag} {H : Hp} {x : V} {T : String} (h : TyB K H x T) (e : T = "list" ∨ T = "tuple") : ∃ p xs, x = .ref p ∧ SqA K H p xs := by
  cases h with
  | lst h => exact ⟨_, _, rfl, .inl h⟩
  | tup h => exact ⟨_, _, rfl, .inr h⟩
  | non => rcases e with e | e <;> exact absurd e (by decide)
  | bl => rcases e with e | e <;> exact absurd e (by decide)
  | int => rcases e with e | e <;> exact absurd e (by decide)
  | str => rcases e with e | e <;> exact absurd e (by decide)
  | byt => rcases e with e | e <;> exact absurd e (by decide)
  | dK => rcases e with e | e <;> exact absurd e (by decide)
theorem SqA.ty {K : PySem.W.Frag} {H : Hp} {p : Addr} {xs : List V} (h : SqA K H p xs) : ∃ T, TyB K H (.ref p) T ∧ (decide (T = "list") || decide (T = "tuple")) = true := by
  rcases h with h | h
  · exact ⟨_, .lst h, by decide⟩
  · exact ⟨_, .tup h, by decide⟩
/-! is_number, is_from_to, is_row -/
def sp_is_number (K : PySem.W.Frag) (a : Ad) : Sp := fun vs H Q _ => ∃ x T, vs = [x] ∧ TyB K H x T ∧ Q (.bl (isInt x)) H
abbrev N_is_number : List Str := ["thing"]
def t_is_number (K : PySem.W.Frag) (a : Ad) : TS :=
  (tRet (tOp rIsTyB (tCB (rTyp K) (tCons (tVar 0) tNil)) (tC (.ty "int"))))
theorem len_is_number {K : PySem.W.Frag} {a : Ad} {vs : List V} {H : Hp} {Q : VK} {E : XK} (h : sp_is_number K a vs H Q E) : vs.length = 1 := by
  obtain ⟨x, T, rfl, _⟩ := h
  rfl
theorem pu_is_number {K : PySem.W.Frag} {a : Ad} {vs : List V} {H : Hp} {Q : VK} {E : XK} (h : sp_is_number K a vs H Q E) : t_is_number K a { nx := fun _ H' => Q .non H', rt := Q } (start N_is_number vs) H := by
  obtain ⟨x, T, rfl, ty, q⟩ := h
  refine ⟨x, rfl, x, T, rfl, ty, _, _, rfl, rfl, ?_⟩
  rw [tyb_int ty]
  exact q
def sp_is_from_to (K : PySem.W.Frag) (a : Ad) : Sp := fun vs H Q _ => ∃ lo hi x T, vs = [.int lo, .int hi, x] ∧ TyB K H x T ∧ Q (.bl (inB lo hi x)) H
abbrev N_is_from_to : List Str := ["low", "high", "thing"]
def t_is_from_to (K : PySem.W.Frag) (a : Ad) : TS :=
  (tRet (tAndV (tCall (sp_is_number K a) [] E0 (tCons (tVar 2) tNil)) (tChain rLeI rLeI (tVar 0) (tVar 2) (tVar 1))))
theorem len_is_from_to {K : PySem.W.Frag} {a : Ad} {vs : List V} {H : Hp} {Q : VK} {E : XK} (h : sp_is_from_to K a vs H Q E) : vs.length = 3 := by
  obtain ⟨lo, hi, x, T, rfl, _⟩ := h
  rfl
theorem pu_is_from_to {K : PySem.W.Frag} {a : Ad} {vs : List V} {H : Hp} {Q : VK} {E : XK} (h : sp_is_from_to K a vs H Q E) : t_is_from_to K a { nx := fun _ H' => Q .non H', rt := Q } (start N_is_from_to vs) H := by
  obtain ⟨lo, hi, x, T, rfl, ty, q⟩ := h
  refine ⟨x, rfl, x, T, rfl, ty, isInt x, rfl, ?_⟩
  cases x with
  | int i =>
    refine iteT ⟨_, rfl, _, rfl, lo, i, rfl, rfl, _, rfl, ?_⟩
    by_cases h1 : lo ≤ i
    · rw [decide_eq_true h1]
      refine iteT ⟨_, rfl, i, hi, rfl, rfl, ?_⟩
      have e : inB lo hi (.int i) = decide (i ≤ hi) := by simp [inB, h1]
      rw [e] at q
      exact q
    · rw [decide_eq_false h1]
      have e : inB lo hi (.int i) = false := by simp [inB, h1]
      rw [e] at q
      exact iteF q
  | _ => exact iteF q
def sp_is_row (K : PySem.W.Frag) (a : Ad) : Sp := fun vs H Q _ => ∃ x T, vs = [x] ∧ TyB K H x T ∧ Q (.bl (decide (T = "list") || decide (T = "tuple"))) H
abbrev N_is_row : List Str := ["thing"]
def t_is_row (K : PySem.W.Frag) (a : Ad) : TS :=
  (tRet (tOrV (tOp rIsTyB (tCB (rTyp K) (tCons (tVar 0) tNil)) (tC (.ty "list"))) (tOp rIsTyB (tCB (rTyp K) (tCons (tVar 0) tNil)) (tC (.ty "tuple")))))
theorem len_is_row {K : PySem.W.Frag} {a : Ad} {vs : List V} {H : Hp} {Q : VK} {E : XK} (h : sp_is_row K a vs H Q E) : vs.length = 1 := by
  obtain ⟨x, T, rfl, _⟩ := h
  rfl
theorem pu_is_row {K : PySem.W.Frag} {a : Ad} {vs : List V} {H : Hp} {Q : VK} {E : XK} (h : sp_is_row K a vs H Q E) : t_is_row K a { nx := fun _ H' => Q .non H', rt := Q } (start N_is_row vs) H := by
  obtain ⟨x, T, rfl, ty, q⟩ := h
  refine ⟨x, rfl, x, T, rfl, ty, _, _, rfl, rfl, _, rfl, ?_⟩
  by_cases h1 : T = "list"
  · rw [decide_eq_true h1] at q ⊢
    exact iteT q
  · rw [decide_eq_false h1] at q ⊢
    exact iteF ⟨x, rfl, x, T, rfl, ty, _, _, rfl, rfl, q⟩
/-! check_quay, check_wishes -/
def sp_check_quay (K : PySem.W.Frag) (a : Ad) : Sp := fun vs H Q E => ∃ b, vs = [b] ∧ ChkQ K a b H E fun _ => Q .non H
abbrev N_check_quay : List Str := ["berths"]
def t_check_quay (K : PySem.W.Frag) (a : Ad) (E : XK) : TS :=
  (tIfS (tNot (tB (tCall (sp_is_from_to K a) [] E0 (tCons (tC (.int 1)) (tCons (tC (.int 400)) (tCons (tVar 0) tNil)))))) (tRaise a.e_NoQuay E) tNext)
theorem len_check_quay {K : PySem.W.Frag} {a : Ad} {vs : List V} {H : Hp} {Q : VK} {E : XK} (h : sp_check_quay K a vs H Q E) : vs.length = 1 := by
  obtain ⟨b, rfl, _⟩ := h
  rfl
theorem pu_check_quay {K : PySem.W.Frag} {a : Ad} {vs : List V} {H : Hp} {Q : VK} {E : XK} (h : sp_check_quay K a vs H Q E) : t_check_quay K a E { nx := fun _ H' => Q .non H', rt := Q } (start N_check_quay vs) H := by
  obtain ⟨b, rfl, T, ty, h⟩ := h
  refine ⟨b, rfl, 1, 400, b, T, rfl, ty, inB 1 400 b, rfl, ?_⟩
  rcases h with ⟨e, q⟩ | ⟨n, rfl, h1, h2, q⟩
  · rw [e]
    exact iteT q
  · have e : inB 1 400 (.int n) = true := by simp [inB]; omega
    rw [e]
    exact iteF q
def sp_check_wishes (K : PySem.W.Frag) (a : Ad) : Sp := fun vs H Q E => ∃ b w, vs = [b, w] ∧ ChkW K a b w H E fun _ _ _ => Q .non H
abbrev N_check_wishes : List Str := ["berths", "wishes", "wish"]
def t_check_wishes (K : PySem.W.Frag) (a : Ad) (E : XK) : TS :=
  (tSeq (tDrop (tCall (sp_check_quay K a) [] E (tCons (tVar 0) tNil)))
    (tSeq (tIfS (tNot (tB (tCall (sp_is_row K a) [] E0 (tCons (tVar 1) tNil)))) (tRaise a.e_NoWishes E) tNext)
    (tSeq (tIfS (tTest (tOp rGtI (tCB (rLenSq K) (tCons (tVar 1) tNil)) (tC (.int 400)))) (tRaise a.e_NoWishes E) tNext)
    (tFor (iSeq K (tVar 1)) (gName 2)
    (tIfS (tNot (tB (tCall (sp_is_from_to K a) [] E0 (tCons (tC (.int 1)) (tCons (tVar 0) (tCons (tVar 2) tNil)))))) (tRaise a.e_NoWishes E) tNext)))))
theorem len_check_wishes {K : PySem.W.Frag} {a : Ad} {vs : List V} {H : Hp} {Q : VK} {E : XK} (h : sp_check_wishes K a vs H Q E) : vs.length = 2 := by
  obtain ⟨b, w, rfl, _⟩ := h
  rfl
theorem pu_check_wishes {K : PySem.W.Frag} {a : Ad} {vs : List V} {H : Hp} {Q : VK} {E : XK} (h : sp_check_wishes K a vs H Q E) : t_check_wishes K a E { nx := fun _ H' => Q .non H', rt := Q } (start N_check_wishes vs) H := by
  obtain ⟨b, w, rfl, h⟩ := h
  refine ⟨b, rfl, b, rfl, ChkQ.imp h fun n e h1 h2 r => ?_⟩
  rcases r with ⟨T, ty, n1, n2, q⟩ | ⟨p, xs, rfl, hs, ht, r⟩
  · refine ⟨w, rfl, w, T, rfl, ty, _, rfl, ?_⟩
    rw [decide_eq_false n1, decide_eq_false n2]
    exact iteT q
  · obtain ⟨T, ty, eT⟩ := hs.ty
    refine ⟨.ref p, rfl, .ref p, T, rfl, ty, _, rfl, ?_⟩
    rw [eT]
    refine iteF ⟨.ref p, rfl, p, xs, rfl, hs, _, _, rfl, rfl, _, rfl, ?_⟩
    have done : (goodW n xs = false → E (.ref a.e_NoWishes) none H) ∧ (goodW n xs = true → Q .non H) := by
      rcases r with ⟨g, q⟩ | ⟨ws, ex, hl, hb, q⟩
      · exact ⟨fun _ => q, fun g' => by rw [g] at g'; cases g'⟩
      · have g : goodW n xs = true := by rw [ex]; exact goodW_ints.mpr ⟨hl, hb⟩
        exact ⟨fun g' => (by rw [g] at g'; cases g'), fun _ => q⟩
    by_cases hl : xs.length ≤ 400
    · rw [decide_eq_false (show ¬ ((400 : Int) < (xs.length : Int)) by omega)]
      refine iteF (for_seq (K := K) (H0 := H) (fun Q q => ⟨.ref p, rfl, q⟩) hs (fun i σ H' => H' = H ∧ (xs.take i).all (inB 1 n) = true ∧ ∃ y, σ = [some b, some (.ref p), y]) ⟨rfl, rfl, none, rfl⟩ (fun i σ H' e => by rw [e.1]; exact Same.refl H) ?_ ?_)
      · rintro i x σ H' hx ⟨rfl, ha, y, rfl⟩
        obtain ⟨T, ty⟩ := ht x (List.mem_of_getElem? hx)
        refine ⟨b, rfl, x, rfl, 1, n, x, T, by rw [e] <;> rfl, ty, inB 1 n x, rfl, ?_⟩
        cases g : inB 1 n x with
        | true => exact iteF ⟨rfl, by rw [take_more hx, List.all_append, ha]; simp [g], some x, rfl⟩
        | false =>
          refine iteT (done.1 ?_)
          unfold goodW
          have : xs.all (inB 1 n) = false := by
            cases z : xs.all (inB 1 n) with
            | false => rfl
            | true =>
              rw [List.all_eq_true] at z
              rw [z x (List.mem_of_getElem? hx)] at g
              cases g
          rw [this, Bool.and_false]
      · rintro σ H' ⟨rfl, ha, y, rfl⟩
        rw [List.take_length] at ha
        refine done.2 ?_
        unfold goodW
        rw [ha, decide_eq_true hl]
        rfl
    · rw [decide_eq_true (show (400 : Int) < (xs.length : Int) by omega)]
      refine iteT (done.1 ?_)
      unfold goodW
      rw [decide_eq_false hl]
      rfl

/-! ### the straight quay: the mathematics of laying -/
/-- the first free one of k berths from w on -/
def ffr (occ : Int → Bool) : Nat → Int → Option Int
  | 0, _ => none
  | k + 1, w => if occ w = true then ffr occ k (w + 1) else some w
def ffree (n : Nat) (occ : Int → Bool) (w : Int) : Option Int := ffr occ ((n : Int) + 1 - w).toNat w
def setO (occ : Int → Bool) (b : Int) : Int → Bool := fun x => decide (x = b) || occ x
def pstep (n : Nat) (s : (Int → Bool) × List (Option Int)) (w : Int) : (Int → Bool) × List (Option Int) :=
  match ffree n s.1 w with
  | none => (s.1, s.2 ++ [none])
  | some b => (setO s.1 b, s.2 ++ [some b])
def prun (n : Nat) (ws : List Int) : (Int → Bool) × List (Option Int) := ws.foldl (pstep n) (fun _ => false, [])
def placedL (n : Nat) (ws : List Int) : List (Option Int) := (prun n ws).2
def vO : Option Int → V
  | none => .non
  | some b => .int b
def heldL (n : Nat) (occ : Int → Bool) : List V := (List.range (n + 1)).map fun (i : Nat) => V.bl (occ (i : Int))
theorem ffr_spec {occ : Int → Bool} : ∀ (k : Nat) (w : Int), (∀ b, ffr occ k w = some b → w ≤ b ∧ b < w + k ∧ occ b = false ∧ ∀ x, w ≤ x → x < b → occ x = true) ∧ (ffr occ k w = none → ∀ x, w ≤ x → x < w + k → occ x = true)
  | 0, w => ⟨fun b h => (by cases h), fun _ x h1 h2 => by omega⟩
  | k + 1, w => by
    obtain ⟨i1, i2⟩ := ffr_spec (occ := occ) k (w + 1)
    unfold ffr
    cases e : occ w with
    | true =>
      rw [if_pos rfl]
      refine ⟨fun b h => ?_, fun h x h1 h2 => ?_⟩
      · obtain ⟨j1, j2, j3, j4⟩ := i1 b h
        refine ⟨by omega, by omega, j3, fun x h1 h2 => ?_⟩
        by_cases z : x = w
        · rw [z]; exact e
        · exact j4 x (by omega) h2
      · by_cases z : x = w
        · rw [z]; exact e
        · exact i2 h x (by omega) (by omega)
    | false =>
      rw [if_neg Bool.false_ne_true]
      refine ⟨fun b h => ?_, fun h => (by cases h)⟩
      cases h
      exact ⟨Int.le_refl _, by omega, e, fun x h1 h2 => by omega⟩
theorem ffree_some {n : Nat} {occ : Int → Bool} {w b : Int} (h : ffree n occ w = some b) : w ≤ b ∧ b ≤ n ∧ occ b = false ∧ ∀ x, w ≤ x → x < b → occ x = true := by
  obtain ⟨h1, h2, h3, h4⟩ := (ffr_spec _ _).1 b h
  exact ⟨h1, by omega, h3, h4⟩
theorem ffree_none {n : Nat} {occ : Int → Bool} {w : Int} (h : ffree n occ w = none) : ∀ x, w ≤ x → x ≤ n → occ x = true := fun x h1 h2 => (ffr_spec _ _).2 h x h1 (by omega)
theorem prun_more {n : Nat} {ws : List Int} {i : Nat} {w : Int} (h : ws[i]? = some w) : prun n (ws.take (i + 1)) = pstep n (prun n (ws.take i)) w := by
  unfold prun
  rw [take_more h, List.foldl_append]
  rfl
theorem prun_snoc {n : Nat} {ws : List Int} {w : Int} : prun n (ws ++ [w]) = pstep n (prun n ws) w := by
  unfold prun
  rw [List.foldl_append]
  rfl
theorem pstep_len {n : Nat} {s : (Int → Bool) × List (Option Int)} {w : Int} : (pstep n s w).2.length = s.2.length + 1 := by
  unfold pstep
  cases ffree n s.1 w <;> simp
theorem snoc_ind {α : Type} {p : List α → Prop} (h0 : p []) (h1 : ∀ l x, p l → p (l ++ [x])) : ∀ l, p l := fun l => by
  have : ∀ n, ∀ l : List α, l.length = n → p l := by
    intro n
    induction n with
    | zero => intro l h; rw [List.length_eq_zero_iff.mp h]; exact h0
    | succ n ih =>
      intro l h
      have hne : l ≠ [] := fun z => by rw [z] at h; cases h
      rw [← List.dropLast_concat_getLast hne]
      exact h1 _ _ (ih _ (by rw [List.length_dropLast, h]; rfl))
  exact this _ l rfl
theorem prun_len {n : Nat} : ∀ ws : List Int, (prun n ws).2.length = ws.length := snoc_ind rfl fun ws w ih => by
  rw [prun_snoc, pstep_len, ih]
  simp
theorem placedL_len {n : Nat} {ws : List Int} : (placedL n ws).length = ws.length := prun_len ws
theorem heldL_at {n : Nat} {occ : Int → Bool} {i : Nat} (h : i ≤ n) : (heldL n occ)[i]? = some (.bl (occ (i : Int))) := by
  unfold heldL
  rw [List.getElem?_map, List.getElem?_range (by omega)]
  rfl
theorem heldL_len {n : Nat} {occ : Int → Bool} : (heldL n occ).length = n + 1 := by simp [heldL]
theorem heldL_set {n : Nat} {occ : Int → Bool} {b : Int} (h0 : 0 ≤ b) (h : b ≤ n) : (heldL n occ).set b.toNat (.bl true) = heldL n (setO occ b) := by
  apply List.ext_getElem?
  intro i
  by_cases hi : i ≤ n
  · rw [heldL_at hi]
    by_cases e : i = b.toNat
    · subst e
      rw [List.getElem?_set_self (by rw [heldL_len]; omega)]
      have : ((b.toNat : Nat) : Int) = b := by omega
      simp [setO, this]
    · rw [List.getElem?_set_ne (Ne.symm e), heldL_at hi]
      have : ¬ ((i : Nat) : Int) = b := by omega
      simp [setO, this]
  · rw [List.getElem?_eq_none (show ((heldL n occ).set b.toNat (V.bl true)).length ≤ i by rw [List.length_set, heldL_len]; omega), List.getElem?_eq_none (show (heldL n (setO occ b)).length ≤ i by rw [heldL_len]; omega)]
theorem heldL_new {n : Nat} : (List.replicate (n + 1) [V.bl false]).flatten = heldL n (fun _ => false) := by
  apply List.ext_getElem?
  intro i
  have e : (List.replicate (n + 1) [V.bl false]).flatten = List.replicate (n + 1) (V.bl false) := by
    generalize n + 1 = m
    induction m with
    | zero => rfl
    | succ m ih => rw [List.replicate_succ, List.replicate_succ, List.flatten_cons, ih]; rfl
  rw [e]
  by_cases hi : i ≤ n
  · rw [heldL_at hi, List.getElem?_replicate_of_lt (by omega)]
  · rw [List.getElem?_eq_none (show (List.replicate (n + 1) (V.bl false)).length ≤ i by rw [List.length_replicate]; omega), List.getElem?_eq_none (show (heldL n fun _ => false).length ≤ i by rw [heldL_len]; omega)]
theorem l1000 {n : Nat} (h : n ≤ 1000) : n ≤ sizeLine := Nat.le_of_lt (small1000 h)
/-! ### first_free -/
def sp_first_free (K : PySem.W.Frag) (a : Ad) : Sp := fun vs H Q _ => ∃ (h : Addr) (n : Nat) (occ : Int → Bool) (w : Int), vs = [.ref h, .int w] ∧ SqL K H h (heldL n occ) ∧ n ≤ 900 ∧ 0 ≤ w ∧ w ≤ 1000 ∧ Q (vO (ffree n occ w)) H
abbrev N_first_free : List Str := ["held", "wish", "berth"]
def t_first_free (K : PySem.W.Frag) (a : Ad) : TS :=
  (tSeq (tFor (iRng2 (tCons (tVar 1) (tCons (tCB (rLenSq K) (tCons (tVar 0) tNil)) tNil))) (gName 2)
    (tIfS (tNot (tB (tOp (rIxL K) (tVar 0) (tVar 2)))) (tRet (tVar 2)) tNext))
    (tRet (tC .non)))
theorem len_first_free {K : PySem.W.Frag} {a : Ad} {vs : List V} {H : Hp} {Q : VK} {E : XK} (h : sp_first_free K a vs H Q E) : vs.length = 2 := by
  obtain ⟨h, n, occ, w, rfl, _⟩ := h
  rfl
theorem pu_first_free {K : PySem.W.Frag} {a : Ad} {vs : List V} {H : Hp} {Q : VK} {E : XK} (h : sp_first_free K a vs H Q E) : t_first_free K a { nx := fun _ H' => Q .non H', rt := Q } (start N_first_free vs) H := by
  obtain ⟨h, n, occ, w, rfl, hs, hn, h0, hw, q⟩ := h
  refine ⟨.int w, rfl, .ref h, rfl, h, _, rfl, .inl hs, w, ((heldL n occ).length : Nat), rfl, ?_, ?_⟩
  · rw [heldL_len]
    omega
  rw [heldL_len]
  have en : (((n + 1 : Nat) : Int) - w).toNat = ((n : Int) + 1 - w).toNat := by omega
  rw [en]
  refine for_range (fun i σ H' => H' = H ∧ ffree n occ w = ffr occ (((n : Int) + 1 - w).toNat - i) (w + i) ∧ ∃ y, σ = [some (.ref h), some (.int w), y]) ⟨rfl, by simp [ffree], none, rfl⟩ ?_ ?_
  · rintro i σ H' hi ⟨rfl, e, y, rfl⟩
    have hx : (heldL n occ)[(w + i).toNat]? = some (.bl (occ (w + i))) := by
      rw [heldL_at (by omega)]
      have : (((w + i).toNat : Nat) : Int) = w + i := by omega
      rw [this]
    refine ⟨.ref h, rfl, .int (w + i), rfl, h, _, _, .bl (occ (w + i)), rfl, rfl, hs, at_of (by omega) hx, occ (w + i), rfl, ?_⟩
    have e2 : ((n : Int) + 1 - w).toNat - i = (((n : Int) + 1 - w).toNat - (i + 1)) + 1 := by omega
    rw [e2] at e
    unfold ffr at e
    cases o : occ (w + i) with
    | true =>
      rw [o, if_pos rfl] at e
      refine iteF ⟨rfl, ?_, some (.int (w + i)), rfl⟩
      rw [e]
      congr 1
      omega
    | false =>
      rw [o, if_neg Bool.false_ne_true] at e
      refine iteT ⟨.int (w + i), rfl, ?_⟩
      rw [e] at q
      exact q
  · rintro σ H' ⟨rfl, e, y, rfl⟩
    rw [Nat.sub_self] at e
    rw [e] at q
    exact q
/-! ### placed -/
def sp_placed (K : PySem.W.Frag) (a : Ad) : Sp := fun vs H Q E => ∃ b w, vs = [b, w] ∧ ChkW K a b w H E fun n ws _ => ∀ (l : Addr) (H' : Hp), H l = none → Same H H' → H' l = some (.lst ((placedL n ws).map vO)) → Q (.ref l) H'
abbrev N_placed : List Str := ["berths", "wishes", "held", "found", "wish", "berth"]
def t_placed (K : PySem.W.Frag) (a : Ad) (E : XK) : TS :=
  (tSeq (tDrop (tCall (sp_check_wishes K a) [] E (tCons (tVar 0) (tCons (tVar 1) tNil))))
    (tSeq (tAsg (tOp rRep (tLst (tCons (tC (.bl false)) tNil)) (tOp rAddI (tVar 0) (tC (.int 1)))) (gName 2))
    (tSeq (tAsg (tLst tNil) (gName 3))
    (tSeq (tFor (iSeq K (tVar 1)) (gName 4)
    (tSeq (tAsg (tCall (sp_first_free K a) [] E0 (tCons (tVar 2) (tCons (tVar 4) tNil))) (gName 5))
    (tSeq (tIfS (tB (tNotN (tVar 5))) (tAsg (tC (.bl true)) (gSub (tVar 2) (tVar 5) rSetL)) tNext)
    (tDrop (tBM K "list" rAppend (tVar 3) (tCons (tVar 5) tNil))))))
    (tRet (tVar 3))))))
theorem len_placed {K : PySem.W.Frag} {a : Ad} {vs : List V} {H : Hp} {Q : VK} {E : XK} (h : sp_placed K a vs H Q E) : vs.length = 2 := by
  obtain ⟨b, w, rfl, _⟩ := h
  rfl
theorem pu_placed {K : PySem.W.Frag} {a : Ad} {vs : List V} {H : Hp} {Q : VK} {E : XK} (h : sp_placed K a vs H Q E) : t_placed K a E { nx := fun _ H' => Q .non H', rt := Q } (start N_placed vs) H := by
  obtain ⟨b, w, rfl, h⟩ := h
  refine ⟨b, rfl, w, rfl, b, w, rfl, ChkW.imp h fun n ws p eb ew h1 h2 hs hl hb q => ?_⟩
  subst eb
  subst ew
  -- held = [False] * (berths + 1)
  refine ⟨by decide, fun l0 nl0 => ⟨.int n, rfl, n, 1, rfl, rfl, l0, _, _, rfl, rfl, upd_same, by omega, by omega, ?_, fun l1 nl1 => ?_⟩⟩
  · refine l1000 ?_
    show 1 * _ ≤ _
    omega
  have e1 : ((n : Int) + 1).toNat = n + 1 := by omega
  rw [e1, heldL_new]
  have s0 : Same H (upd H l0 (.lst [.bl false])) := same_new nl0
  have n1 : H l1 = none := s0.free nl1
  have s1 := s0.store n1 (o := .lst (heldL n fun _ => false))
  -- found = []
  refine ⟨Nat.zero_le _, fun l2 nl2 => ?_⟩
  have n2 : H l2 = none := s1.free nl2
  have hne : l1 ≠ l2 := ne_of_none upd_same nl2
  refine for_seq (K := K) (H0 := H) (fun Q q => ⟨.ref p, rfl, q⟩) hs (fun i σ H' => (∃ y z, σ = [some (.int n), some (.ref p), some (.ref l1), some (.ref l2), y, z]) ∧ Same H H' ∧ H' l1 = some (.lst (heldL n (prun n (ws.take i)).1)) ∧ H' l2 = some (.lst ((prun n (ws.take i)).2.map vO))) ⟨⟨none, none, rfl⟩, s1.store n2, by rw [upd_ne hne]; exact upd_same, upd_same⟩ (fun i σ H' h => h.2.1) ?_ ?_
  · rintro i x σ H' hx ⟨⟨y, z, rfl⟩, s, eh, ef⟩
    obtain ⟨w, hw, rfl⟩ := item_of hx
    have bw := hb w (List.mem_of_getElem? hw)
    refine ⟨.ref l1, rfl, .int w, rfl, l1, n, _, w, rfl, .inl (.inl eh), by omega, by omega, by omega, ?_⟩
    have step := prun_more (n := n) hw
    have fl : (prun n (ws.take i)).2.length < sizeLine := by
      rw [prun_len, List.length_take]
      exact small1000 (by omega)
    cases e : ffree n (prun n (ws.take i)).1 w with
    | none =>
      have step' : prun n (ws.take (i + 1)) = ((prun n (ws.take i)).1, (prun n (ws.take i)).2 ++ [none]) := by rw [step]; simp only [pstep, e]
      refine ⟨.non, rfl, false, rfl, iteF ⟨.ref l2, rfl, .inl ⟨rfl, _, .inl (.inl ef)⟩, .non, rfl, l2, _, _, rfl, rfl, ef, by rw [List.length_map]; exact fl, ?_⟩⟩
      refine ⟨⟨_, _, rfl⟩, s.store n2, ?_, ?_⟩
      · rw [upd_ne hne, step']
        exact eh
      · rw [upd_same, step', List.map_append]
        rfl
    | some b =>
      have step' : prun n (ws.take (i + 1)) = (setO (prun n (ws.take i)).1 b, (prun n (ws.take i)).2 ++ [some b]) := by rw [step]; simp only [pstep, e]
      obtain ⟨b1, b2, _⟩ := ffree_some e
      refine ⟨.int b, rfl, true, rfl, iteT ⟨.ref l1, rfl, .int b, rfl, l1, _, b, b.toNat, rfl, rfl, eh, ?_, ?_⟩⟩
      · unfold ixN
        rw [if_pos (by omega), heldL_len, if_pos (by omega)]
      rw [heldL_set (by omega) b2]
      have ef' : (upd H' l1 (.lst (heldL n (setO (prun n (ws.take i)).1 b)))) l2 = some (.lst ((prun n (ws.take i)).2.map vO)) := by rw [upd_ne hne.symm]; exact ef
      refine ⟨.ref l2, rfl, .inl ⟨rfl, _, .inl (.inl ef')⟩, .int b, rfl, l2, _, _, rfl, rfl, ef', by rw [List.length_map]; exact fl, ?_⟩
      refine ⟨⟨_, _, rfl⟩, (s.store n1).store n2, ?_, ?_⟩
      · rw [upd_ne hne, upd_same, step']
      · rw [upd_same, step', List.map_append]
        rfl
  · rintro σ H' ⟨⟨y, z, rfl⟩, s, eh, ef⟩
    rw [List.length_map, List.take_length] at ef
    exact ⟨.ref l2, rfl, q l2 H' n2 s ef⟩

/-! ### taken, gone_on -/
def somes (l : List (Option Int)) : List Int := l.filterMap id
def sortI (l : List Int) : List Int := l.mergeSort fun x y => decide (x ≤ y)
theorem sortI_perm (l : List Int) : (sortI l).Perm l := List.mergeSort_perm l _
theorem sortI_sorted (l : List Int) : (sortI l).Pairwise (· ≤ ·) := by
  have h := List.pairwise_mergeSort (le := fun (x y : Int) => decide (x ≤ y)) (fun a b c h1 h2 => by simp only [decide_eq_true_eq] at *; omega) (fun a b => by simp only [Bool.or_eq_true, decide_eq_true_eq]; omega) l
  exact List.Pairwise.imp (fun h => of_decide_eq_true h) h
theorem sortI_uniq {l l' : List Int} (hp : l'.Perm l) (hs : l'.Pairwise (· ≤ ·)) : l' = sortI l := PySem.W.ksm_same (hp.trans (sortI_perm l).symm) hs (sortI_sorted l)
def takenL (n : Nat) (ws : List Int) : List Int := sortI (somes (placedL n ws))
/-- of each ship that lies, how far behind its wish -/
def goneL (ws : List Int) (bs : List (Option Int)) : List Int := (ws.zip bs).filterMap fun p => p.2.map fun b => b - p.1
theorem filter_some : ∀ l : List (Option Int), (l.filter Option.isSome).map vO = (somes l).map V.int
  | [] => rfl
  | none :: l => filter_some l
  | some b :: l => congrArg (V.int b :: ·) (filter_some l)
theorem vO_not (o : Option Int) : (!decide (vO o = .non)) = o.isSome := by
  cases o <;> rfl
def sp_taken (K : PySem.W.Frag) (a : Ad) : Sp := fun vs H Q E => ∃ b w, vs = [b, w] ∧ ChkW K a b w H E fun n ws _ => ∀ (l : Addr) (H' : Hp), H l = none → Same H H' → H' l = some (.lst ((takenL n ws).map V.int)) → Q (.ref l) H'
abbrev N_taken : List Str := ["berths", "wishes", "berth"]
def t_taken (K : PySem.W.Frag) (a : Ad) (E : XK) : TS :=
  (tRet (tCB (rSortedI K) (tCons (tLc (iList K (tCall (sp_placed K a) [] E (tCons (tVar 0) (tCons (tVar 1) tNil)))) (gName 2) (tB (tNotN (tVar 2))) (tVar 2) [2]) tNil)))
theorem len_taken {K : PySem.W.Frag} {a : Ad} {vs : List V} {H : Hp} {Q : VK} {E : XK} (h : sp_taken K a vs H Q E) : vs.length = 2 := by
  obtain ⟨b, w, rfl, _⟩ := h
  rfl
theorem pu_taken {K : PySem.W.Frag} {a : Ad} {vs : List V} {H : Hp} {Q : VK} {E : XK} (h : sp_taken K a vs H Q E) : t_taken K a E { nx := fun _ H' => Q .non H', rt := Q } (start N_taken vs) H := by
  obtain ⟨b, w, rfl, h⟩ := h
  refine ⟨b, rfl, w, rfl, b, w, rfl, ChkW.imp h fun n ws p eb ew h1 h2 hs hl hb q => ?_⟩
  intro l H1 nl s el
  have sl : (placedL n ws).length < sizeLine := by rw [placedL_len]; exact small1000 (by omega)
  refine ⟨l, rfl, ⟨_, sqL_of el⟩, lc_pure (walk_list (K := K) (a := l) (xs := (placedL n ws).map vO)) (by rw [List.length_map]; exact sl) (placedL n ws) (by rw [List.length_map]) Option.isSome vO (fun H' s' => s'.seq (sqL_of el)) ?_ ?_⟩
  · intro i x v H2 H3 R hx s2 hy k
    obtain ⟨rfl, hv⟩ := hy
    rw [List.getElem?_map, hx] at hv
    cases hv
    refine ⟨rfl, vO x, rfl, x.isSome, by rw [vO_not], ?_⟩
    have kk := k (vO x) _ (Same.refl _) fun _ => rfl
    cases e : x.isSome with
    | true =>
      rw [e] at kk
      exact iteT ⟨vO x, rfl, kk⟩
    | false =>
      refine iteF ?_
      have kk := k .non _ (Same.refl _) fun z => by rw [e] at z; cases z
      rw [e] at kk
      exact kk
  · intro D H2 nD s2 eD
    rw [filter_some] at eD
    refine ⟨D, _, rfl, sqL_of eD, fun ns' p' hp hs' np => ?_⟩
    rw [sortI_uniq hp hs']
    have s3 := s.trans s2
    exact q p' _ (s3.free np) (s3.trans (same_new np)) upd_same
def sp_gone_on (K : PySem.W.Frag) (a : Ad) : Sp := fun vs H Q E => ∃ b w, vs = [b, w] ∧ ChkW K a b w H E fun n ws p => SqL K H p (ws.map V.int) ∧ ∀ (H' : Hp), Same H H' → Q (.int (goneL ws (placedL n ws)).sum) H'
abbrev N_gone_on : List Str := ["berths", "wishes", "found", "wish", "berth"]
def t_gone_on (K : PySem.W.Frag) (a : Ad) (E : XK) : TS :=
  (tSeq (tAsg (tCall (sp_placed K a) [] E (tCons (tVar 0) (tCons (tVar 1) tNil))) (gName 2))
    (tRet (tCB (rSum K) (tCons (tLc (iZip K (tCons (tVar 1) (tCons (tVar 2) tNil))) (gTup K 2 (gCons (gName 3) (gCons (gName 4) gNil))) (tB (tNotN (tVar 4))) (tOp rSubI (tVar 4) (tVar 3)) [3, 4]) tNil))))
theorem len_gone_on {K : PySem.W.Frag} {a : Ad} {vs : List V} {H : Hp} {Q : VK} {E : XK} (h : sp_gone_on K a vs H Q E) : vs.length = 2 := by
  obtain ⟨b, w, rfl, _⟩ := h
  rfl
theorem zip_gone : ∀ (ws : List Int) (bs : List (Option Int)), ((ws.zip bs).filter fun p => p.2.isSome).map (fun p => V.int ((p.2.getD 0) - p.1)) = (goneL ws bs).map V.int
  | [], _ => by simp [goneL]
  | _ :: _, [] => by simp [goneL]
  | w :: ws, none :: bs => by
    have ih := zip_gone ws bs
    simp only [List.zip_cons_cons, goneL] at ih ⊢
    simpa using ih
  | w :: ws, some b :: bs => by
    have ih := zip_gone ws bs
    simp only [List.zip_cons_cons, goneL] at ih ⊢
    simpa using ih
theorem zip_at {ws : List Int} {bs : List (Option Int)} {i : Nat} {x : Int × Option Int} (h : (ws.zip bs)[i]? = some x) : ws[i]? = some x.1 ∧ bs[i]? = some x.2 := by
  rw [List.getElem?_zip_eq_some] at h
  exact h
theorem pu_gone_on {K : PySem.W.Frag} {a : Ad} {vs : List V} {H : Hp} {Q : VK} {E : XK} (h : sp_gone_on K a vs H Q E) : t_gone_on K a E { nx := fun _ H' => Q .non H', rt := Q } (start N_gone_on vs) H := by
  obtain ⟨b, w, rfl, h⟩ := h
  refine ⟨b, rfl, w, rfl, b, w, rfl, ChkW.imp h fun n ws p eb ew h1 h2 hs hl hb q => ?_⟩
  obtain ⟨hL, q⟩ := q
  intro l H1 nl s el
  have sl : (placedL n ws).length < sizeLine := by rw [placedL_len]; exact small1000 (by omega)
  have hz : min (ws.map V.int).length ((placedL n ws).map vO).length = ws.length := by
    rw [List.length_map, List.length_map, placedL_len]
    exact Nat.min_self _
  refine ⟨w, rfl, .ref l, rfl, p, l, _, _, by rw [ew], s.seq hL, sqL_of el, lc_pure (walk_zip (K := K) (a := p) (b := l) (xs := ws.map V.int) (ys := (placedL n ws).map vO) rfl) (by rw [hz]; exact small1000 (by omega)) (ws.zip (placedL n ws)) (by rw [hz, List.length_zip, placedL_len]; exact Nat.min_self _) (fun x => x.2.isSome) (fun x => V.int ((x.2.getD 0) - x.1)) (fun H' s' => ⟨(s.trans s').seq hL, s'.seq (sqL_of el)⟩) ?_ ?_⟩
  · intro i x v H2 H3 R hx s2 hy k
    obtain ⟨T, u1, u2, rfl, nT, rfl, e1, e2⟩ := hy
    obtain ⟨x1, x2⟩ := zip_at hx
    replace e1 : (ws.map V.int)[i]? = some u1 := e1
    replace e2 : ((placedL n ws).map vO)[i]? = some u2 := e2
    rw [List.getElem?_map, x1] at e1
    rw [List.getElem?_map, x2] at e2
    cases e1
    cases e2
    refine ⟨T, _, rfl, sqT_of upd_same, rfl, _, _, rfl, _, _, rfl, rfl, rfl, vO x.2, rfl, x.2.isSome, by rw [vO_not], ?_⟩
    obtain ⟨xa, xb⟩ := x
    cases xb with
    | some y =>
      exact iteT ⟨.int y, rfl, .int xa, rfl, y, xa, rfl, rfl, k (.int (y - xa)) _ (same_new nT) fun _ => rfl⟩
    | none =>
      exact iteF (k .non _ (same_new nT) fun z => by cases z)
  · intro D H2 nD s2 eD
    rw [zip_gone] at eD
    exact ⟨D, _, rfl, sqL_of eD, q H2 (s.trans s2)⟩

/-! ### good wishes: counting -/
theorem sub_len : ∀ {l1 l2 : List Int}, l1.Nodup → (∀ x ∈ l1, x ∈ l2) → l1.length ≤ l2.length
  | [], _, _, _ => Nat.zero_le _
  | x :: r, l2, nd, h => by
    obtain ⟨n1, n2⟩ := List.nodup_cons.mp nd
    have hx := h x List.mem_cons_self
    have ih := sub_len (l1 := r) (l2 := l2.erase x) n2 fun y hy => by
      have ne : y ≠ x := fun e => n1 (e ▸ hy)
      exact (List.mem_erase_of_ne ne).mpr (h y (List.mem_cons_of_mem _ hy))
    have e := List.length_erase_of_mem hx
    have p : 0 < l2.length := List.length_pos_of_mem hx
    rw [List.length_cons]
    omega
def upTo (lo : Int) (k : Nat) : List Int := (List.range k).map fun (i : Nat) => lo + (i : Int)
theorem mem_upTo {lo x : Int} {k : Nat} : x ∈ upTo lo k ↔ lo ≤ x ∧ x < lo + k := by
  unfold upTo
  simp only [List.mem_map, List.mem_range]
  constructor
  · rintro ⟨i, hi, rfl⟩
    omega
  · rintro ⟨h1, h2⟩
    exact ⟨(x - lo).toNat, by omega, by omega⟩
theorem upTo_len {lo : Int} {k : Nat} : (upTo lo k).length = k := by simp [upTo]
theorem upTo_nodup {lo : Int} {k : Nat} : (upTo lo k).Nodup := by
  unfold upTo
  exact (List.pairwise_map.mpr (List.Pairwise.imp (fun h => by omega) List.pairwise_lt_range))
theorem len_le_of {l : List Int} {lo : Int} {k : Nat} (nd : l.Nodup) (h : ∀ x ∈ l, lo ≤ x ∧ x < lo + k) : l.length ≤ k := by
  have := sub_len nd fun x hx => mem_upTo.mpr (h x hx)
  rw [upTo_len] at this
  exact this
theorem le_len_of {l : List Int} {lo : Int} {k : Nat} (h : ∀ x, lo ≤ x → x < lo + k → x ∈ l) : k ≤ l.length := by
  have := sub_len (upTo_nodup (lo := lo) (k := k)) fun x hx => by
    obtain ⟨h1, h2⟩ := mem_upTo.mp hx
    exact h x h1 h2
  rw [upTo_len] at this
  exact this
/-- how many of them are b or more -/
def cntGe (l : List Int) (b : Int) : Nat := (l.filter fun w => decide (b ≤ w)).length
theorem cntGe_snoc (l : List Int) (w b : Int) : cntGe (l ++ [w]) b = cntGe l b + if b ≤ w then 1 else 0 := by
  unfold cntGe
  rw [List.filter_append, List.length_append]
  by_cases h : b ≤ w <;> simp [List.filter, h]
theorem cntGe_le (l : List Int) (b : Int) : cntGe l b ≤ l.length := List.length_filter_le _ _
theorem cntGe_perm {l l' : List Int} (h : l.Perm l') (b : Int) : cntGe l b = cntGe l' b := (h.filter _).length_eq
theorem somes_snoc (l : List (Option Int)) (o : Option Int) : somes (l ++ [o]) = somes l ++ o.toList := by
  unfold somes
  rw [List.filterMap_append]
  cases o <;> rfl
/-- what holds behind ships that came -/
structure Lay (n : Nat) (ws : List Int) : Prop where
  occ : ∀ x, (prun n ws).1 x = true ↔ x ∈ somes (placedL n ws)
  nd : (somes (placedL n ws)).Nodup
  bd : ∀ x ∈ somes (placedL n ws), 1 ≤ x ∧ x ≤ n
  few : ∀ b, (b ≤ 1 ∨ (prun n ws).1 (b - 1) = false) → cntGe (somes (placedL n ws)) b ≤ cntGe ws b
  many : none ∉ placedL n ws → ∀ b, cntGe ws b ≤ cntGe (somes (placedL n ws)) b
  crowd : none ∈ placedL n ws → ∃ b : Int, 1 ≤ b ∧ b ≤ n ∧ (n : Int) - b + 1 < cntGe ws b
theorem placedL_snoc {n : Nat} {ws : List Int} {w : Int} : placedL n (ws ++ [w]) = placedL n ws ++ [ffree n (prun n ws).1 w] := by
  unfold placedL
  rw [prun_snoc]
  unfold pstep
  cases ffree n (prun n ws).1 w <;> rfl
theorem occ_snoc {n : Nat} {ws : List Int} {w : Int} : (prun n (ws ++ [w])).1 = match ffree n (prun n ws).1 w with | none => (prun n ws).1 | some b => setO (prun n ws).1 b := by
  rw [prun_snoc]
  unfold pstep
  cases ffree n (prun n ws).1 w <;> rfl
/-- the least one from which on all are held -/
theorem least_full {occ : Int → Bool} : ∀ (k : Nat), (∀ x, (k : Int) + 1 ≤ x → x ≤ k + 1 → occ x = true) → ∀ m : Int, (∀ x, (k : Int) + 1 ≤ x → x ≤ m → occ x = true) → ∃ b : Int, 1 ≤ b ∧ b ≤ k + 1 ∧ (∀ x, b ≤ x → x ≤ m → occ x = true) ∧ (b ≤ 1 ∨ occ (b - 1) = false)
  | 0, _, m, h => ⟨1, by omega, by omega, fun x h1 h2 => h x (by omega) h2, .inl (by omega)⟩
  | k + 1, h0, m, h => by
    cases e : occ ((k : Int) + 1) with
    | false => exact ⟨(k : Int) + 1 + 1, by omega, by omega, fun x h1 h2 => h x (by omega) h2, .inr (by rw [show (k : Int) + 1 + 1 - 1 = (k : Int) + 1 by omega]; exact e)⟩
    | true =>
      obtain ⟨b, b1, b2, b3, b4⟩ := least_full (occ := occ) k (fun x h1 h2 => by rw [show x = (k : Int) + 1 by omega]; exact e) m fun x h1 h2 => by
        by_cases z : x = (k : Int) + 1
        · rw [z]; exact e
        · exact h x (by omega) h2
      exact ⟨b, b1, by omega, b3, b4⟩
theorem lay (n : Nat) : ∀ ws : List Int, (∀ w ∈ ws, 1 ≤ w ∧ w ≤ n) → Lay n ws := snoc_ind (fun _ => ⟨fun x => by simp [prun, placedL, somes], List.nodup_nil, fun x hx => (by cases hx), fun b _ => Nat.zero_le _, fun _ b => Nat.le_refl _, fun h => (by cases h)⟩) fun ws w ih hb => by
  have hw := hb w (List.mem_append_right _ (List.mem_singleton.mpr rfl))
  obtain ⟨i1, i2, i3, i4, i5, i6⟩ := ih fun x hx => hb x (List.mem_append_left _ hx)
  cases e : ffree n (prun n ws).1 w with
  | none =>
    have es : somes (placedL n (ws ++ [w])) = somes (placedL n ws) := by rw [placedL_snoc, e, somes_snoc]; simp
    have eo : (prun n (ws ++ [w])).1 = (prun n ws).1 := by rw [occ_snoc, e]
    have full := ffree_none e
    refine ⟨fun x => by rw [eo, es]; exact i1 x, by rw [es]; exact i2, by rw [es]; exact i3, fun b h => ?_, fun h => ?_, fun _ => ?_⟩
    · rw [es, cntGe_snoc]
      rw [eo] at h
      have := i4 b h
      omega
    · rw [placedL_snoc, e] at h
      exact absurd (List.mem_append_right _ (List.mem_singleton.mpr rfl)) h
    · obtain ⟨b, b1, b2, b3, b4⟩ := least_full (occ := (prun n ws).1) (w - 1).toNat (fun x h1 h2 => full x (by omega) (by omega)) n fun x h1 h2 => full x (by omega) h2
      have c1 := i4 b b4
      have c2 : ((n : Int) - b + 1).toNat ≤ cntGe (somes (placedL n ws)) b := le_len_of (lo := b) fun x h1 h2 => List.mem_filter.mpr ⟨(i1 x).mp (b3 x h1 (by omega)), by simpa using h1⟩
      refine ⟨b, b1, by omega, ?_⟩
      rw [cntGe_snoc, if_pos (by omega)]
      omega
  | some x =>
    have es : somes (placedL n (ws ++ [w])) = somes (placedL n ws) ++ [x] := by rw [placedL_snoc, e, somes_snoc]; rfl
    have eo : (prun n (ws ++ [w])).1 = setO (prun n ws).1 x := by rw [occ_snoc, e]
    obtain ⟨x1, x2, x3, x4⟩ := ffree_some e
    have hn : x ∉ somes (placedL n ws) := fun z => by
      rw [(i1 x).mpr z] at x3
      cases x3
    refine ⟨fun y => ?_, ?_, ?_, fun b h => ?_, fun h b => ?_, fun h => ?_⟩
    · rw [eo, es, List.mem_append, List.mem_singleton, ← i1 y]
      unfold setO
      by_cases z : y = x <;> simp [z]
    · rw [es, List.nodup_append]
      exact ⟨i2, by simp, fun a ha b hb => by rw [List.mem_singleton.mp hb]; exact fun z => hn (z ▸ ha)⟩
    · intro y hy
      rw [es] at hy
      rcases List.mem_append.mp hy with k | k
      · exact i3 y k
      · rw [List.mem_singleton.mp k]
        omega
    · rw [es, cntGe_snoc, cntGe_snoc]
      have h' : b ≤ 1 ∨ (prun n ws).1 (b - 1) = false := by
        rcases h with h | h
        · exact .inl h
        · rw [eo] at h
          unfold setO at h
          exact .inr (Bool.or_eq_false_iff.mp h).2
      have := i4 b h'
      by_cases hbx : b ≤ x
      · have hbw : b ≤ w := by
          by_cases z : b ≤ w
          · exact z
          · rcases h' with h' | h'
            · omega
            · rw [x4 (b - 1) (by omega) (by omega)] at h'
              cases h'
        rw [if_pos hbx, if_pos hbw]
        omega
      · rw [if_neg hbx]
        omega
    · have h' : none ∉ placedL n ws := fun z => h (by rw [placedL_snoc]; exact List.mem_append_left _ z)
      have := i5 h' b
      rw [es, cntGe_snoc, cntGe_snoc]
      by_cases z : b ≤ w
      · rw [if_pos z, if_pos (by omega)]
        omega
      · rw [if_neg z]
        omega
    · rw [placedL_snoc, e] at h
      rcases List.mem_append.mp h with k | k
      · obtain ⟨b, b1, b2, b3⟩ := i6 k
        refine ⟨b, b1, b2, ?_⟩
        rw [cntGe_snoc]
        omega
      · simp at k
/-- the last berth from which on more wish -/
def downTo (n : Nat) : List Int := (List.range n).map fun (i : Nat) => (n : Int) - (i : Int)
def crowdedL (n : Nat) (ws : List Int) : Option Int := (downTo n).find? fun b => decide ((n : Int) - b + 1 < (cntGe ws b : Int))
theorem mem_downTo {n : Nat} {x : Int} : x ∈ downTo n ↔ 1 ≤ x ∧ x ≤ n := by
  unfold downTo
  simp only [List.mem_map, List.mem_range]
  constructor
  · rintro ⟨i, hi, rfl⟩
    omega
  · rintro ⟨h1, h2⟩
    exact ⟨(n - x).toNat, by omega, by omega⟩
theorem crowded_none {n : Nat} {ws : List Int} : crowdedL n ws = none ↔ ∀ b : Int, 1 ≤ b → b ≤ n → (cntGe ws b : Int) ≤ n - b + 1 := by
  unfold crowdedL
  rw [List.find?_eq_none]
  simp only [decide_eq_true_eq, Int.not_lt]
  exact ⟨fun h b b1 b2 => h b (mem_downTo.mpr ⟨b1, b2⟩), fun h b hb => h b (mem_downTo.mp hb).1 (mem_downTo.mp hb).2⟩
theorem good_iff {n : Nat} {ws : List Int} (hb : ∀ w ∈ ws, 1 ≤ w ∧ w ≤ n) : crowdedL n ws = none ↔ none ∉ placedL n ws := by
  have L := lay n ws hb
  rw [crowded_none]
  constructor
  · intro h z
    obtain ⟨b, b1, b2, b3⟩ := L.crowd z
    have := h b b1 b2
    omega
  · intro h b b1 b2
    have h1 := L.many h b
    have h2 : cntGe (somes (placedL n ws)) b ≤ ((n : Int) - b + 1).toNat := len_le_of (lo := b) (L.nd.filter _) fun x hx => by
      obtain ⟨k1, k2⟩ := List.mem_filter.mp hx
      have := L.bd x k1
      have k3 : b ≤ x := by simpa using k2
      omega
    omega
/-! in rising order -/
theorem sorted_cut {b : Int} : ∀ {o : List Int}, o.Pairwise (· ≤ ·) → o = o.filter (fun w => !decide (b ≤ w)) ++ o.filter (fun w => decide (b ≤ w))
  | [], _ => rfl
  | x :: r, h => by
    obtain ⟨h1, h2⟩ := List.pairwise_cons.mp h
    by_cases z : b ≤ x
    · have e1 : r.filter (fun w => !decide (b ≤ w)) = [] := List.filter_eq_nil_iff.mpr fun y hy => by
        have := h1 y hy
        simp only [Bool.not_eq_true', decide_eq_false_iff_not]
        omega
      have e2 : r.filter (fun w => decide (b ≤ w)) = r := List.filter_eq_self.mpr fun y hy => by
        have := h1 y hy
        simp only [decide_eq_true_eq]
        omega
      simp [List.filter_cons, z, e1, e2]
    · have ih := sorted_cut (b := b) h2
      simp only [List.filter_cons, z, decide_false, Bool.not_false, if_true, Bool.false_eq_true, if_false, List.cons_append]
      rw [← ih]
def goodS (n : Nat) (o : List Int) : Bool := (List.range o.length).all fun (i : Nat) => decide (o.getD i 0 ≤ (n : Int) - o.length + i + 1)
theorem goodS_iff {n : Nat} {ws : List Int} (hb : ∀ w ∈ ws, 1 ≤ w ∧ w ≤ n) : goodS n (sortI ws) = true ↔ crowdedL n ws = none := by
  have hp := sortI_perm ws
  have hs := sortI_sorted ws
  rw [crowded_none]
  unfold goodS
  simp only [List.all_eq_true, List.mem_range, decide_eq_true_eq]
  generalize hO : sortI ws = o at hp hs
  have hbo : ∀ w ∈ o, 1 ≤ w ∧ w ≤ n := fun w hw => hb w (hp.mem_iff.mp hw)
  constructor
  · intro h b b1 b2
    rw [← cntGe_perm hp b]
    have cut := sorted_cut (b := b) hs
    by_cases z : cntGe o b = 0
    · rw [z]
      omega
    · have hlen : (o.filter (fun w => !decide (b ≤ w))).length + cntGe o b = o.length := by
        unfold cntGe
        rw [← List.length_append, ← cut]
      have hi : (o.filter (fun w => !decide (b ≤ w))).length < o.length := by omega
      have h1 := h _ hi
      have e : o.getD (o.filter (fun w => !decide (b ≤ w))).length 0 = o[(o.filter (fun w => !decide (b ≤ w))).length] := by simp [List.getD_eq_getElem?_getD, List.getElem?_eq_getElem hi]
      rw [e] at h1
      have hm : o[(o.filter (fun w => !decide (b ≤ w))).length] ∈ o.filter (fun w => decide (b ≤ w)) := by
        have e2 : o[(o.filter (fun w => !decide (b ≤ w))).length]? = (o.filter (fun w => decide (b ≤ w)))[0]? := by
          conv => lhs; arg 1; rw [cut]
          rw [List.getElem?_append_right (Nat.le_refl _), Nat.sub_self]
        rw [List.getElem?_eq_getElem hi] at e2
        exact List.mem_of_getElem? e2.symm
      have h2 : b ≤ o[(o.filter (fun w => !decide (b ≤ w))).length] := by simpa using (List.mem_filter.mp hm).2
      omega
  · intro h i hi
    have e : o.getD i 0 = o[i] := by simp [List.getD_eq_getElem?_getD, List.getElem?_eq_getElem hi]
    rw [e]
    have hbi := hbo o[i] (List.getElem_mem hi)
    have h1 := h o[i] hbi.1 hbi.2
    rw [← cntGe_perm hp] at h1
    have h2 : o.length - i ≤ cntGe o o[i] := by
      have e3 : (o.drop i).filter (fun w => decide (o[i] ≤ w)) = o.drop i := List.filter_eq_self.mpr fun y hy => by
        obtain ⟨j, hj, ej⟩ := List.getElem_of_mem hy
        rw [List.getElem_drop] at ej
        simp only [decide_eq_true_eq]
        rw [← ej]
        by_cases z : j = 0
        · subst z
          simp
        · exact List.pairwise_iff_getElem.mp hs i (i + j) hi (by rw [List.length_drop] at hj; omega) (by omega)
      have e4 : (o.filter (fun w => decide (o[i] ≤ w))).length = ((o.take i).filter (fun w => decide (o[i] ≤ w))).length + ((o.drop i).filter (fun w => decide (o[i] ≤ w))).length := by
        rw [← List.length_append, ← List.filter_append, List.take_append_drop]
      unfold cntGe
      rw [e4, e3, List.length_drop]
      omega
    omega

/-! ### any order of the same ships -/
theorem ffree_is {n : Nat} {occ : Int → Bool} {w b : Int} (h1 : w ≤ b) (h2 : b ≤ n) (h3 : occ b = false) (h4 : ∀ x, w ≤ x → x < b → occ x = true) : ffree n occ w = some b := by
  cases e : ffree n occ w with
  | none =>
    rw [ffree_none e b h1 h2] at h3
    cases h3
  | some c =>
    obtain ⟨c1, c2, c3, c4⟩ := ffree_some e
    congr 1
    by_cases z : c < b
    · rw [h4 c c1 z] at c3
      cases c3
    · by_cases z2 : b < c
      · rw [c4 b h1 z2] at h3
        cases h3
      · omega
theorem ffree_non {n : Nat} {occ : Int → Bool} {w : Int} (h : ∀ x, w ≤ x → x ≤ n → occ x = true) : ffree n occ w = none := by
  cases e : ffree n occ w with
  | none => rfl
  | some c =>
    obtain ⟨c1, c2, c3, c4⟩ := ffree_some e
    rw [h c c1 c2] at c3
    cases c3
def stp (n : Nat) (occ : Int → Bool) (w : Int) : Int → Bool := match ffree n occ w with
  | none => occ
  | some b => setO occ b
theorem stp_none {n : Nat} {occ : Int → Bool} {w : Int} (h : ffree n occ w = none) : stp n occ w = occ := by simp only [stp, h]
theorem stp_some {n : Nat} {occ : Int → Bool} {w b : Int} (h : ffree n occ w = some b) : stp n occ w = setO occ b := by simp only [stp, h]
theorem setO_comm (occ : Int → Bool) (x y : Int) : setO (setO occ x) y = setO (setO occ y) x := by
  funext z
  unfold setO
  cases decide (z = x) <;> cases decide (z = y) <;> rfl
theorem setO_mono {occ : Int → Bool} {x y : Int} (h : occ y = true) : setO occ x y = true := by
  unfold setO
  rw [h, Bool.or_true]
theorem setO_ne {occ : Int → Bool} {x y : Int} (h : y ≠ x) : setO occ x y = occ y := by
  unfold setO
  rw [decide_eq_false h, Bool.false_or]
theorem setO_self {occ : Int → Bool} {x : Int} : setO occ x x = true := by simp [setO]
theorem stp_comm_le {n : Nat} {occ : Int → Bool} {w1 w2 : Int} (h : w1 ≤ w2) : stp n (stp n occ w1) w2 = stp n (stp n occ w2) w1 := by
  cases eb : ffree n occ w2 with
  | none =>
    have fb := ffree_none eb
    rw [stp_none eb]
    cases ea : ffree n occ w1 with
    | none => rw [stp_none ea, stp_none eb]
    | some x =>
      rw [stp_some ea]
      exact stp_none (ffree_non fun y h1 h2 => setO_mono (fb y h1 h2))
  | some y =>
    obtain ⟨y1, y2, y3, y4⟩ := ffree_some eb
    rw [stp_some eb]
    cases ea : ffree n occ w1 with
    | none =>
      rw [ffree_none ea y (by omega) y2] at y3
      cases y3
    | some x =>
      obtain ⟨x1, x2, x3, x4⟩ := ffree_some ea
      rw [stp_some ea]
      by_cases z : x = y
      · subst z
        have hocc : ∀ u, w1 ≤ u → u ≤ x → setO occ x u = true := fun u h1 h2 => by
          by_cases q : u = x
          · rw [q]; exact setO_self
          · exact setO_mono (x4 u h1 (by omega))
        cases ec : ffree n (setO occ x) w2 with
        | none =>
          have fc := ffree_none ec
          rw [stp_none ec]
          refine (stp_none (ffree_non fun u h1 h2 => ?_)).symm
          by_cases q : u ≤ x
          · exact hocc u h1 q
          · exact fc u (by omega) h2
        | some z =>
          obtain ⟨z1, z2, z3, z4⟩ := ffree_some ec
          have hz : x < z := by
            by_cases q : x < z
            · exact q
            · rw [hocc z (by omega) (by omega)] at z3
              cases z3
          rw [stp_some ec]
          refine (stp_some (ffree_is (by omega) z2 z3 fun u h1 h2 => ?_)).symm
          by_cases q : u ≤ x
          · exact hocc u h1 q
          · exact z4 u (by omega) h2
      · have hx : x < y := by
          by_cases q : x < y
          · exact q
          · rw [x4 y (by omega) (by omega)] at y3
            cases y3
        have e1 : stp n (setO occ x) w2 = setO (setO occ x) y := stp_some (ffree_is y1 y2 (by rw [setO_ne (Ne.symm z)]; exact y3) fun u h1 h2 => setO_mono (y4 u h1 h2))
        have e2 : stp n (setO occ y) w1 = setO (setO occ y) x := stp_some (ffree_is x1 x2 (by rw [setO_ne z]; exact x3) fun u h1 h2 => setO_mono (x4 u h1 h2))
        rw [e1, e2, setO_comm]
theorem stp_comm {n : Nat} {occ : Int → Bool} {w1 w2 : Int} : stp n (stp n occ w1) w2 = stp n (stp n occ w2) w1 := by
  by_cases h : w1 ≤ w2
  · exact stp_comm_le h
  · exact (stp_comm_le (by omega)).symm
theorem occ_fold {n : Nat} : ∀ ws : List Int, (prun n ws).1 = ws.foldl (stp n) (fun _ => false) := snoc_ind rfl fun ws w ih => by
  rw [occ_snoc, List.foldl_append, ← ih]
  rfl
theorem occ_perm {n : Nat} {ws ws' : List Int} (h : ws.Perm ws') : (prun n ws).1 = (prun n ws').1 := by
  rw [occ_fold, occ_fold]
  exact h.foldl_eq' (fun x _ y _ z => stp_comm) _
theorem somes_perm {n : Nat} {ws ws' : List Int} (h : ws.Perm ws') (hb : ∀ w ∈ ws, 1 ≤ w ∧ w ≤ n) : (somes (placedL n ws)).Perm (somes (placedL n ws')) := by
  have L := lay n ws hb
  have L' := lay n ws' fun w hw => hb w (h.mem_iff.mpr hw)
  refine (List.perm_ext_iff_of_nodup L.nd L'.nd).mpr fun x => ?_
  rw [← L.occ, ← L'.occ, occ_perm h]
theorem sortI_perm_eq {l l' : List Int} (h : l.Perm l') : sortI l = sortI l' := sortI_uniq ((sortI_perm l).trans h) (sortI_sorted l)
theorem taken_perm {n : Nat} {ws ws' : List Int} (h : ws.Perm ws') (hb : ∀ w ∈ ws, 1 ≤ w ∧ w ≤ n) : takenL n ws = takenL n ws' := sortI_perm_eq (somes_perm h hb)
theorem crowded_perm {n : Nat} {ws ws' : List Int} (h : ws.Perm ws') : crowdedL n ws = crowdedL n ws' := by
  unfold crowdedL
  congr 1
  funext b
  rw [cntGe_perm h]
theorem away_len : ∀ os : List (Option Int), (os.filter Option.isNone).length + (somes os).length = os.length
  | [] => rfl
  | none :: os => by
    have := away_len os
    simp only [List.filter_cons, Option.isNone_none, if_true, List.length_cons]
    show (os.filter Option.isNone).length + 1 + (somes os).length = os.length + 1
    omega
  | some b :: os => by
    have := away_len os
    show (os.filter Option.isNone).length + ((somes os).length + 1) = os.length + 1
    omega
theorem sum_perm {l l' : List Int} (h : l.Perm l') : l.sum = l'.sum := by
  induction h with
  | nil => rfl
  | cons x _ ih => rw [List.sum_cons, List.sum_cons, ih]
  | swap x y l =>
    simp only [List.sum_cons]
    omega
  | trans _ _ h1 h2 => exact h1.trans h2
/-- the wishes of those that lie -/
def lieL (ws : List Int) (os : List (Option Int)) : List Int := ((ws.zip os).filter fun p => p.2.isSome).map (·.1)
theorem lieL_snoc {ws : List Int} {os : List (Option Int)} {w : Int} {o : Option Int} (h : ws.length = os.length) : lieL (ws ++ [w]) (os ++ [o]) = lieL ws os ++ (if o.isSome = true then [w] else []) := by
  unfold lieL
  rw [List.zip_append h, List.filter_append, List.map_append]
  cases o <;> rfl
theorem gone_sum : ∀ (ws : List Int) (os : List (Option Int)), ws.length = os.length → (goneL ws os).sum = (somes os).sum - (lieL ws os).sum
  | [], [], _ => rfl
  | w :: ws, none :: os, h => gone_sum ws os (Nat.succ.inj h)
  | w :: ws, some b :: os, h => by
    have ih := gone_sum ws os (Nat.succ.inj h)
    show ((b - w) :: goneL ws os).sum = (b :: somes os).sum - (w :: lieL ws os).sum
    rw [List.sum_cons, List.sum_cons, List.sum_cons, ih]
    omega
theorem lie_all : ∀ (ws : List Int) (os : List (Option Int)), ws.length = os.length → none ∉ os → lieL ws os = ws
  | [], [], _, _ => rfl
  | w :: ws, none :: os, _, h => absurd List.mem_cons_self h
  | w :: ws, some b :: os, h, hn => by
    have ih := lie_all ws os (Nat.succ.inj h) fun z => hn (List.mem_cons_of_mem _ z)
    show w :: lieL ws os = w :: ws
    rw [ih]
theorem lie_run {n : Nat} : ∀ ws : List Int, prun n (lieL ws (placedL n ws)) = ((prun n ws).1, (placedL n ws).filter Option.isSome) := snoc_ind rfl fun ws w ih => by
  rw [placedL_snoc, lieL_snoc (placedL_len).symm, List.filter_append, occ_snoc]
  cases e : ffree n (prun n ws).1 w with
  | none =>
    simp only [Option.isSome_none, Bool.false_eq_true, if_false, List.append_nil]
    rw [ih]
    simp [List.filter]
  | some b =>
    simp only [Option.isSome_some, if_true]
    rw [prun_snoc, ih]
    unfold pstep
    simp only [e]
    simp [List.filter]
theorem lie_placed {n : Nat} {ws : List Int} : placedL n (lieL ws (placedL n ws)) = (placedL n ws).filter Option.isSome := by
  have := lie_run (n := n) ws
  unfold placedL at this ⊢
  rw [this]
theorem somes_filter (os : List (Option Int)) : somes (os.filter Option.isSome) = somes os := by
  induction os with
  | nil => rfl
  | cons o os ih => cases o with
    | none => exact ih
    | some b => exact congrArg (b :: ·) ih
theorem none_filter_some {os : List (Option Int)} : none ∉ os.filter Option.isSome := fun z => by
  have := (List.mem_filter.mp z).2
  cases this
theorem mem_lie {ws : List Int} {os : List (Option Int)} {x : Int} (h : x ∈ lieL ws os) : x ∈ ws := by
  unfold lieL at h
  obtain ⟨p, hp, rfl⟩ := List.mem_map.mp h
  exact (List.of_mem_zip (List.mem_filter.mp hp).1).1
theorem lie_len (ws : List Int) (os : List (Option Int)) : (lieL ws os).length ≤ ws.length := by
  unfold lieL
  rw [List.length_map]
  refine Nat.le_trans (List.length_filter_le _ _) ?_
  rw [List.length_zip]
  omega
/-- a ship more takes one berth more, or none -/
theorem taken_mem {n : Nat} {ws : List Int} {x : Int} : x ∈ takenL n ws ↔ x ∈ somes (placedL n ws) := (sortI_perm _).mem_iff
theorem somes_last {n : Nat} {ws : List Int} (hne : ws ≠ []) : ∃ o : Option Int, somes (placedL n ws) = somes (placedL n ws.dropLast) ++ o.toList := by
  refine ⟨ffree n (prun n ws.dropLast).1 (ws.getLast hne), ?_⟩
  rw [← somes_snoc, ← placedL_snoc, List.dropLast_concat_getLast hne]

/-! ### crowded, is_good -/
def cntEq (l : List Int) (b : Int) : Nat := (l.filter fun w => decide (w = b)).length
theorem cntEq_snoc (l : List Int) (w b : Int) : cntEq (l ++ [w]) b = cntEq l b + if w = b then 1 else 0 := by
  unfold cntEq
  rw [List.filter_append, List.length_append]
  by_cases h : w = b <;> simp [List.filter, h]
theorem cntGe_step (l : List Int) (b : Int) : cntGe l b = cntGe l (b + 1) + cntEq l b := by
  refine snoc_ind (p := fun l => cntGe l b = cntGe l (b + 1) + cntEq l b) rfl (fun l w ih => ?_) l
  rw [cntGe_snoc, cntGe_snoc, cntEq_snoc, ih]
  by_cases h1 : w = b
  · subst h1
    rw [if_pos (Int.le_refl _), if_neg (by omega), if_pos rfl]
    omega
  · rw [if_neg h1]
    by_cases h2 : b ≤ w
    · rw [if_pos h2, if_pos (by omega)]
      omega
    · rw [if_neg h2, if_neg (by omega)]
      omega
theorem cntGe_top {n : Nat} {ws : List Int} (hb : ∀ w ∈ ws, 1 ≤ w ∧ w ≤ n) : cntGe ws ((n : Int) + 1) = 0 := by
  unfold cntGe
  rw [List.length_eq_zero_iff, List.filter_eq_nil_iff]
  intro w hw
  have := hb w hw
  simp only [decide_eq_true_eq]
  omega
def tallyL (n : Nat) (ws : List Int) : List V := (List.range (n + 1)).map fun (i : Nat) => V.int (cntEq ws (i : Int))
theorem tallyL_at {n : Nat} {ws : List Int} {i : Nat} (h : i ≤ n) : (tallyL n ws)[i]? = some (.int (cntEq ws (i : Int))) := by
  unfold tallyL
  rw [List.getElem?_map, List.getElem?_range (by omega)]
  rfl
theorem tallyL_len {n : Nat} {ws : List Int} : (tallyL n ws).length = n + 1 := by simp [tallyL]
theorem tallyL_set {n : Nat} {ws : List Int} {w : Int} (h0 : 0 ≤ w) (h : w ≤ n) : (tallyL n ws).set w.toNat (.int (cntEq ws w + 1)) = tallyL n (ws ++ [w]) := by
  apply List.ext_getElem?
  intro i
  by_cases hi : i ≤ n
  · rw [tallyL_at hi, cntEq_snoc]
    by_cases e : i = w.toNat
    · subst e
      rw [List.getElem?_set_self (by rw [tallyL_len]; omega)]
      have : ((w.toNat : Nat) : Int) = w := by omega
      rw [this, if_pos rfl]
      rfl
    · rw [List.getElem?_set_ne (Ne.symm e), tallyL_at hi]
      have : ¬ w = ((i : Nat) : Int) := by omega
      rw [if_neg this]
      rfl
  · rw [List.getElem?_eq_none (show ((tallyL n ws).set w.toNat (.int (cntEq ws w + 1))).length ≤ i by rw [List.length_set, tallyL_len]; omega), List.getElem?_eq_none (show (tallyL n (ws ++ [w])).length ≤ i by rw [tallyL_len]; omega)]
theorem tallyL_new {n : Nat} : (List.replicate (n + 1) [V.int 0]).flatten = tallyL n [] := by
  apply List.ext_getElem?
  intro i
  have e : (List.replicate (n + 1) [V.int 0]).flatten = List.replicate (n + 1) (V.int 0) := by
    generalize n + 1 = m
    induction m with
    | zero => rfl
    | succ m ih => rw [List.replicate_succ, List.replicate_succ, List.flatten_cons, ih]; rfl
  rw [e]
  by_cases hi : i ≤ n
  · rw [tallyL_at hi, List.getElem?_replicate_of_lt (by omega)]
    rfl
  · rw [List.getElem?_eq_none (show (List.replicate (n + 1) (V.int 0)).length ≤ i by rw [List.length_replicate]; omega), List.getElem?_eq_none (show (tallyL n []).length ≤ i by rw [tallyL_len]; omega)]
theorem downTo_at {n i : Nat} (h : i < n) : (downTo n)[i]? = some ((n : Int) - i) := by
  unfold downTo
  rw [List.getElem?_map, List.getElem?_range h]
  rfl
theorem find_drop {α : Type} {p : α → Bool} {l : List α} {i : Nat} {x : α} (h : l[i]? = some x) : (l.drop i).find? p = if p x = true then some x else (l.drop (i + 1)).find? p := by
  obtain ⟨hi, rfl⟩ := List.getElem?_eq_some_iff.mp h
  rw [List.drop_eq_getElem_cons hi, List.find?_cons]
  cases p l[i] <;> rfl
def sp_crowded (K : PySem.W.Frag) (a : Ad) : Sp := fun vs H Q E => ∃ b w, vs = [b, w] ∧ ChkW K a b w H E fun n ws _ => ∀ (H' : Hp), Same H H' → Q (vO (crowdedL n ws)) H'
abbrev N_crowded : List Str := ["berths", "wishes", "tally", "wish", "many", "berth"]
def t_crowded (K : PySem.W.Frag) (a : Ad) (E : XK) : TS :=
  (tSeq (tDrop (tCall (sp_check_wishes K a) [] E (tCons (tVar 0) (tCons (tVar 1) tNil))))
    (tSeq (tAsg (tOp rRep (tLst (tCons (tC (.int 0)) tNil)) (tOp rAddI (tVar 0) (tC (.int 1)))) (gName 2))
    (tSeq (tFor (iSeq K (tVar 1)) (gName 3)
    (tAugS (tVar 2) (tVar 3) (tC (.int 1)) (rIxL K) ipAdd rSetL))
    (tSeq (tAsg (tC (.int 0)) (gName 4))
    (tSeq (tFor (iRng3 (tCons (tVar 0) (tCons (tC (.int 0)) (tCons (tUn (rU fun i => .int (-i)) (tC (.int 1))) tNil)))) (gName 5)
    (tSeq (tAug 4 (tOp (rIxL K) (tVar 2) (tVar 5)) ipAdd)
    (tIfS (tTest (tOp rGtI (tVar 4) (tOp rAddI (tOp rSubI (tVar 0) (tVar 5)) (tC (.int 1))))) (tRet (tVar 5)) tNext)))
    (tRet (tC .non)))))))
theorem len_crowded {K : PySem.W.Frag} {a : Ad} {vs : List V} {H : Hp} {Q : VK} {E : XK} (h : sp_crowded K a vs H Q E) : vs.length = 2 := by
  obtain ⟨b, w, rfl, _⟩ := h
  rfl
theorem pu_crowded {K : PySem.W.Frag} {a : Ad} {vs : List V} {H : Hp} {Q : VK} {E : XK} (h : sp_crowded K a vs H Q E) : t_crowded K a E { nx := fun _ H' => Q .non H', rt := Q } (start N_crowded vs) H := by
  obtain ⟨b, w, rfl, h⟩ := h
  refine ⟨b, rfl, w, rfl, b, w, rfl, ChkW.imp h fun n ws p eb ew h1 h2 hs hl hb q => ?_⟩
  subst eb
  subst ew
  -- tally = [0] * (berths + 1)
  refine ⟨by decide, fun l0 nl0 => ⟨.int n, rfl, n, 1, rfl, rfl, l0, _, _, rfl, rfl, upd_same, by omega, by omega, ?_, fun l1 nl1 => ?_⟩⟩
  · refine l1000 ?_
    show 1 * _ ≤ _
    omega
  have e1 : ((n : Int) + 1).toNat = n + 1 := by omega
  rw [e1, tallyL_new]
  have s0 : Same H (upd H l0 (.lst [.int 0])) := same_new nl0
  have n1 : H l1 = none := s0.free nl1
  have s1 := s0.store n1 (o := .lst (tallyL n []))
  refine for_seq (K := K) (H0 := H) (fun Q q => ⟨.ref p, rfl, q⟩) hs (fun i σ H' => (∃ y, σ = [some (.int n), some (.ref p), some (.ref l1), y, none, none]) ∧ Same H H' ∧ H' l1 = some (.lst (tallyL n (ws.take i)))) ⟨⟨none, rfl⟩, s1, upd_same⟩ (fun i σ H' h => h.2.1) ?_ ?_
  · rintro i x σ H' hx ⟨⟨y, rfl⟩, s, eh⟩
    obtain ⟨w, hw, rfl⟩ := item_of hx
    have bw := hb w (List.mem_of_getElem? hw)
    have ex : (tallyL n (ws.take i))[w.toNat]? = some (.int (cntEq (ws.take i) w)) := by
      rw [tallyL_at (by omega)]
      have : ((w.toNat : Nat) : Int) = w := by omega
      rw [this]
    refine ⟨.ref l1, rfl, .int w, rfl, l1, _, w, _, rfl, rfl, sqL_of eh, at_of (j := w.toNat) (by omega) ex, _, 1, rfl, rfl, l1, _, w, w.toNat, rfl, rfl, eh, ?_, ?_⟩
    · unfold ixN
      rw [if_pos (by omega), tallyL_len, if_pos (by omega)]
    refine ⟨⟨_, rfl⟩, s.store n1, ?_⟩
    rw [upd_same]
    rw [tallyL_set (by omega) bw.2, take_more hw]
  · rintro σ H' ⟨⟨y, rfl⟩, s, eh⟩
    rw [List.length_map, List.take_length] at eh
    refine ⟨.int n, rfl, _, rfl, n, 0, -1, ((n : Int) - 0).toNat, rfl, RgC.neg (by omega) (by omega) (by omega) (by omega), ?_⟩
    have en : ((n : Int) - 0).toNat = n := by omega
    rw [en]
    refine for_it walk_rangeC (fun i σ H2 => H2 = H' ∧ (∃ z, σ = [some (.int n), some (.ref p), some (.ref l1), y, some (.int (cntGe ws ((n : Int) - i + 1))), z]) ∧ crowdedL n ws = ((downTo n).drop i).find? fun b => decide ((n : Int) - b + 1 < (cntGe ws b : Int))) ⟨rfl, ⟨none, ?_⟩, rfl⟩ (fun _ _ _ _ _ => trivial) ?_ ?_
    · rw [show (n : Int) - ((0 : Nat) : Int) + 1 = (n : Int) + 1 by omega, cntGe_top hb]
      rfl
    · rintro i x σ H2 H3 hi ⟨rfl, ⟨z, rfl⟩, e⟩ ⟨rfl, ex0⟩
      rw [find_drop (downTo_at hi)] at e
      have ex : (tallyL n ws)[n - i]? = some (.int (cntEq ws ((n : Int) - i))) := by
        rw [tallyL_at (by omega)]
        have : (((n - i : Nat)) : Int) = (n : Int) - i := by omega
        rw [this]
      have ev : (n : Int) + (i : Int) * -1 = (n : Int) - i := by omega
      obtain rfl : x = .int ((n : Int) - i) := by
        rw [ex0]
        show V.int ((n : Int) + (i : Int) * -1) = _
        rw [ev]
      refine ⟨_, rfl, .ref l1, rfl, .int ((n : Int) - i), rfl, l1, _, (n : Int) - i, _, rfl, rfl, sqL_of eh, at_of (j := n - i) (by omega) ex, _, _, rfl, rfl, ?_⟩
      have step := cntGe_step ws ((n : Int) - i)
      refine ⟨_, rfl, .int n, rfl, .int ((n : Int) - i), rfl, n, _, rfl, rfl, _, 1, rfl, rfl, _, _, rfl, rfl, _, rfl, ?_⟩
      have e3 : ((cntGe ws ((n : Int) - i + 1) : Nat) : Int) + (cntEq ws ((n : Int) - i) : Nat) = (cntGe ws ((n : Int) - i) : Nat) := by omega
      refine ite2 (fun h => ?_) (fun h => ?_)
      · have h : (n : Int) - ((n : Int) - i) + 1 < ((cntGe ws ((n : Int) - i + 1) : Nat) : Int) + (cntEq ws ((n : Int) - i) : Nat) := of_decide_eq_true h
        rw [e3] at h
        rw [if_pos (decide_eq_true h)] at e
        refine ⟨.int ((n : Int) - i), rfl, ?_⟩
        have := q _ s
        rw [e] at this
        exact this
      · have h : ¬ (n : Int) - ((n : Int) - i) + 1 < ((cntGe ws ((n : Int) - i + 1) : Nat) : Int) + (cntEq ws ((n : Int) - i) : Nat) := fun z => h (decide_eq_true z)
        rw [e3] at h
        rw [if_neg (by simpa using h)] at e
        have e5 : ((cntGe ws ((n : Int) - i + 1) : Nat) : Int) + (cntEq ws ((n : Int) - i) : Nat) = (cntGe ws ((n : Int) - ((i + 1 : Nat) : Int) + 1) : Nat) := by
          rw [e3]
          have : (n : Int) - ((i + 1 : Nat) : Int) + 1 = (n : Int) - i := by omega
          rw [this]
        exact ⟨rfl, ⟨some (.int ((n : Int) - i)), congrArg (fun t => [some (V.int n), some (V.ref p), some (V.ref l1), y, some (V.int t), some (V.int ((n : Int) - i))]) e5⟩, e⟩
    · rintro σ H2 ⟨rfl, ⟨z, rfl⟩, e⟩
      have hd : (downTo n).drop n = [] := List.drop_eq_nil_of_le (by simp [downTo])
      rw [hd] at e
      have := q _ s
      rw [e] at this
      exact this
def sp_is_good (K : PySem.W.Frag) (a : Ad) : Sp := fun vs H Q E => ∃ b w, vs = [b, w] ∧ ChkW K a b w H E fun n ws _ => ∀ (H' : Hp), Same H H' → Q (.bl (crowdedL n ws).isNone) H'
abbrev N_is_good : List Str := ["berths", "wishes"]
def t_is_good (K : PySem.W.Frag) (a : Ad) (E : XK) : TS :=
  (tRet (tIsN (tCall (sp_crowded K a) [] E (tCons (tVar 0) (tCons (tVar 1) tNil)))))
theorem len_is_good {K : PySem.W.Frag} {a : Ad} {vs : List V} {H : Hp} {Q : VK} {E : XK} (h : sp_is_good K a vs H Q E) : vs.length = 2 := by
  obtain ⟨b, w, rfl, _⟩ := h
  rfl
theorem vO_isN (o : Option Int) : decide (vO o = .non) = o.isNone := by
  cases o <;> rfl
theorem pu_is_good {K : PySem.W.Frag} {a : Ad} {vs : List V} {H : Hp} {Q : VK} {E : XK} (h : sp_is_good K a vs H Q E) : t_is_good K a E { nx := fun _ H' => Q .non H', rt := Q } (start N_is_good vs) H := by
  obtain ⟨b, w, rfl, h⟩ := h
  refine ⟨b, rfl, w, rfl, b, w, rfl, ChkW.imp h fun n ws p eb ew h1 h2 hs hl hb q => ?_⟩
  intro H' s
  have := q H' s
  show Q (.bl (decide (vO (crowdedL n ws) = .non))) H'
  rw [vO_isN]
  exact this

/-! ### what the laws read of a script -/
def cellAt (ns : List Int) (k : Int) : Int := ns.getD k.toNat 0
theorem cut_drop (xs : List V) (k : Nat) : cutV xs (some (k : Int)) none = xs.drop k := by
  unfold cutV
  rw [HT.sIx_nat, HT.sIx_none]
  by_cases h : k ≤ xs.length
  · rw [Nat.min_eq_left h]
    exact List.take_of_length_le (by rw [List.length_drop]; omega)
  · rw [Nat.min_eq_right (by omega), Nat.sub_self, List.take_zero, List.drop_eq_nil_of_le (by omega)]
theorem cut2 (xs : List V) : cutV xs (some 2) none = xs.drop 2 := cut_drop xs 2
theorem atI_lit (xs : List V) (j : Nat) {v : V} (h : xs[j]? = some v) : atI xs (j : Int) = some v := atI_nat h
def sp_l_cell_at (K : PySem.W.Frag) : Sp := fun vs H Q _ => ∃ (s : Addr) (ns : List Int) (k : Int), vs = [.ref s, .int k] ∧ SqL K H s (ns.map V.int) ∧ 0 ≤ k ∧ Q (.int (cellAt ns k)) H
abbrev N_l_cell_at : List Str := ["_law_script", "_law_k"]
def t_l_cell_at (K : PySem.W.Frag) (a : Ad) : TS :=
  (tSeq (tIfS (tTest (tOp rLtI (tVar 1) (tCB (rLenSq K) (tCons (tVar 0) tNil)))) (tRet (tOp (rIxL K) (tVar 0) (tVar 1))) tNext)
    (tRet (tC (.int 0))))
theorem len_l_cell_at {K : PySem.W.Frag} {vs : List V} {H : Hp} {Q : VK} {E : XK} (h : sp_l_cell_at K vs H Q E) : vs.length = 2 := by
  obtain ⟨s, ns, k, rfl, _⟩ := h
  rfl
theorem pu_l_cell_at {K : PySem.W.Frag} {a : Ad} {vs : List V} {H : Hp} {Q : VK} {E : XK} (h : sp_l_cell_at K vs H Q E) : t_l_cell_at K a { nx := fun _ H' => Q .non H', rt := Q } (start N_l_cell_at vs) H := by
  obtain ⟨s, ns, k, rfl, hs, h0, q⟩ := h
  refine ⟨.int k, rfl, .ref s, rfl, s, _, rfl, .inl hs, _, _, rfl, rfl, _, rfl, ?_⟩
  by_cases h : k < ((ns.map V.int).length : Nat)
  · rw [decide_eq_true h]
    rw [List.length_map] at h
    have e : ns[k.toNat]? = some (cellAt ns k) := by
      unfold cellAt
      rw [List.getD_eq_getElem?_getD, List.getElem?_eq_getElem (by omega)]
      rfl
    refine iteT ⟨.ref s, rfl, .int k, rfl, s, _, k, _, rfl, rfl, hs, at_of (j := k.toNat) (by omega) (by rw [List.getElem?_map, e]; rfl), q⟩
  · rw [decide_eq_false h]
    rw [List.length_map] at h
    have e : cellAt ns k = 0 := by
      unfold cellAt
      rw [List.getD_eq_getElem?_getD, List.getElem?_eq_none (by omega)]
      rfl
    rw [e] at q
    exact iteF q
def sp_l_quay (K : PySem.W.Frag) : Sp := fun vs H Q _ => ∃ (s : Addr) (ns : List Int), vs = [.ref s] ∧ SqL K H s (ns.map V.int) ∧ ∀ (n : Nat) (H' : Hp), 1 ≤ n → n ≤ 400 → Same H H' → Q (.int n) H'
abbrev N_l_quay : List Str := ["_law_script"]
def t_l_quay (K : PySem.W.Frag) (a : Ad) : TS :=
  (tRet (tOp rAddI (tC (.int 1)) (tOp rModI (tCall (sp_l_cell_at K) [] E0 (tCons (tVar 0) (tCons (tC (.int 0)) tNil))) (tOp (rIxL K) (tLst (tCons (tC (.int 6)) (tCons (tC (.int 40)) (tCons (tC (.int 400)) tNil)))) (tOp rModI (tCall (sp_l_cell_at K) [] E0 (tCons (tVar 0) (tCons (tC (.int 1)) tNil))) (tC (.int 3)))))))
theorem len_l_quay {K : PySem.W.Frag} {vs : List V} {H : Hp} {Q : VK} {E : XK} (h : sp_l_quay K vs H Q E) : vs.length = 1 := by
  obtain ⟨s, ns, rfl, _⟩ := h
  rfl
theorem p3 : (0 : Int) < 3 := by decide
theorem p4 : (0 : Int) < 4 := by decide
theorem d2 {n : Int} : CDiv n 2 := ⟨by decide, by decide⟩
theorem d3 {n : Int} : CDiv n 3 := ⟨by decide, by decide⟩
theorem d12 {n : Int} : CDiv n 12 := ⟨by decide, by decide⟩
theorem pick3 (c : Int) (x y z : V) : ∃ v, atI [x, y, z] (c % 3) = some v ∧ (v = x ∨ v = y ∨ v = z) := by
  have h : c % 3 = 0 ∨ c % 3 = 1 ∨ c % 3 = 2 := by omega
  rcases h with h | h | h <;> rw [h]
  · exact ⟨x, rfl, .inl rfl⟩
  · exact ⟨y, rfl, .inr (.inl rfl)⟩
  · exact ⟨z, rfl, .inr (.inr rfl)⟩
theorem pick4 (c : Int) (x y z u : V) : ∃ v, atI [x, y, z, u] (c % 4) = some v ∧ (v = x ∨ v = y ∨ v = z ∨ v = u) := by
  have h : c % 4 = 0 ∨ c % 4 = 1 ∨ c % 4 = 2 ∨ c % 4 = 3 := by omega
  rcases h with h | h | h | h <;> rw [h]
  · exact ⟨x, rfl, .inl rfl⟩
  · exact ⟨y, rfl, .inr (.inl rfl)⟩
  · exact ⟨z, rfl, .inr (.inr (.inl rfl))⟩
  · exact ⟨u, rfl, .inr (.inr (.inr rfl))⟩
theorem pu_l_quay {K : PySem.W.Frag} {a : Ad} {vs : List V} {H : Hp} {Q : VK} {E : XK} (h : sp_l_quay K vs H Q E) : t_l_quay K a { nx := fun _ H' => Q .non H', rt := Q } (start N_l_quay vs) H := by
  obtain ⟨s, ns, rfl, hs, q⟩ := h
  refine ⟨.ref s, rfl, s, ns, 0, rfl, hs, Int.le_refl _, by decide, fun l nl => ?_⟩
  have s1 := same_new nl (o := .lst [.int 6, .int 40, .int 400])
  refine ⟨.ref s, rfl, s, ns, 1, rfl, s1.seq hs, by decide, _, 3, rfl, rfl, p3, ?_⟩
  obtain ⟨v, e, hv⟩ := pick3 (cellAt ns 1) (.int 6) (.int 40) (.int 400)
  obtain ⟨m, rfl, m1, m2⟩ : ∃ m, v = .int m ∧ 1 ≤ m ∧ m ≤ 400 := by
    rcases hv with h | h | h <;> subst h <;> exact ⟨_, rfl, by decide, by decide⟩
  refine ⟨l, _, _, _, rfl, rfl, sqL_of upd_same, e, _, m, rfl, rfl, (by show 0 < m; omega), 1, _, rfl, rfl, ?_⟩
  have b1 := Int.emod_nonneg (cellAt ns 0) (show m ≠ 0 by omega)
  have b2 := Int.emod_lt_of_pos (cellAt ns 0) (show 0 < m by omega)
  have e2 : 1 + cellAt ns 0 % m = ((1 + cellAt ns 0 % m).toNat : Nat) := by omega
  show Q (.int (1 + cellAt ns 0 % m)) _
  rw [e2]
  exact q _ _ (by omega) (by omega) s1
def sp_l_wishes (K : PySem.W.Frag) : Sp := fun vs H Q _ => ∃ (s : Addr) (ns : List Int) (n : Nat) (most : Int), vs = [.ref s, .int n, .int most] ∧ SqL K H s (ns.map V.int) ∧ 1 ≤ n ∧ n ≤ 400 ∧ 0 ≤ most ∧ ns.length ≤ 63 ∧
  ∀ (l : Addr) (H' : Hp) (ws : List Int), H l = none → Same H H' → H' l = some (.lst (ws.map V.int)) → (∀ x ∈ ws, 1 ≤ x ∧ x ≤ n) → ws.length ≤ 61 → (ws.length : Int) ≤ most → Q (.ref l) H'
abbrev N_l_wishes : List Str := ["_law_script", "_law_berths", "_law_most", "_law_near", "_law_far", "_law_wishes_here", "_law_cell"]
def t_l_wishes (K : PySem.W.Frag) (a : Ad) : TS :=
  (tSeq (tAsg (tOp (rIxL K) (tLst (tCons (tVar 1) (tCons (tOp rAddI (tC (.int 1)) (tOp rDivI (tVar 1) (tC (.int 2)))) (tCons (tCB rMin2 (tCons (tVar 1) (tCons (tC (.int 3)) tNil))) (tCons (tVar 1) tNil))))) (tOp rModI (tOp rDivI (tCall (sp_l_cell_at K) [] E0 (tCons (tVar 0) (tCons (tC (.int 1)) tNil))) (tC (.int 3))) (tC (.int 4)))) (gName 3))
    (tSeq (tAsg (tOp rModI (tOp rDivI (tCall (sp_l_cell_at K) [] E0 (tCons (tVar 0) (tCons (tC (.int 1)) tNil))) (tC (.int 12))) (tVar 1)) (gName 4))
    (tSeq (tAsg (tLst tNil) (gName 5))
    (tSeq (tFor (iList K (tSl (rSlL K) (tVar 0) (tPart (tC (.int 2))) tNoPart)) (gName 6)
    (tIfS (tTest (tOp rLtI (tCB (rLenSq K) (tCons (tVar 5) tNil)) (tVar 2))) (tDrop (tBM K "list" rAppend (tVar 5) (tCons (tOp rAddI (tOp rModI (tOp rAddI (tOp rModI (tVar 6) (tVar 3)) (tVar 4)) (tVar 1)) (tC (.int 1))) tNil))) tNext))
    (tRet (tVar 5))))))
theorem len_l_wishes {K : PySem.W.Frag} {vs : List V} {H : Hp} {Q : VK} {E : XK} (h : sp_l_wishes K vs H Q E) : vs.length = 3 := by
  obtain ⟨s, ns, n, most, rfl, _⟩ := h
  rfl
theorem pu_l_wishes {K : PySem.W.Frag} {a : Ad} {vs : List V} {H : Hp} {Q : VK} {E : XK} (h : sp_l_wishes K vs H Q E) : t_l_wishes K a { nx := fun _ H' => Q .non H', rt := Q } (start N_l_wishes vs) H := by
  obtain ⟨s, ns, n, most, rfl, hs, h1, h2, h0, hl, q⟩ := h
  -- near
  refine ⟨.int n, rfl, .int n, rfl, n, 2, rfl, rfl, d2, 1, _, rfl, rfl, .int n, rfl, n, 3, rfl, .int n, rfl, l1000 (by show 4 ≤ 1000; decide), fun l0 nl0 => ?_⟩
  have s0 := same_new nl0 (o := .lst [.int n, .int (1 + n / 2), .int (if (3 : Int) < n then 3 else n), .int n])
  refine ⟨.ref s, rfl, s, ns, 1, rfl, s0.seq hs, by decide, _, 3, rfl, rfl, d3, _, 4, rfl, rfl, p4, ?_⟩
  obtain ⟨v, e, hv⟩ := pick4 (cellAt ns 1 / 3) (.int n) (.int (1 + n / 2)) (.int (if (3 : Int) < n then 3 else n)) (.int n)
  obtain ⟨near, rfl, m1⟩ : ∃ m, v = .int m ∧ 1 ≤ m := by
    rcases hv with h | h | h | h <;> subst h
    · exact ⟨_, rfl, by omega⟩
    · exact ⟨_, rfl, by omega⟩
    · refine ⟨_, rfl, ?_⟩
      split <;> omega
    · exact ⟨_, rfl, by omega⟩
  refine ⟨l0, _, _, _, rfl, rfl, sqL_of upd_same, e, ?_⟩
  -- far
  refine ⟨.ref s, rfl, s, ns, 1, rfl, s0.seq hs, by decide, _, 12, rfl, rfl, d12, .int n, rfl, _, _, rfl, rfl, (by show (0 : Int) < n; omega), ?_⟩
  -- the list
  refine ⟨Nat.zero_le _, fun l nl => ?_⟩
  have nlH : H l = none := s0.free nl
  have s1 := s0.store nlH (o := .lst [])
  -- the script's rest
  refine ⟨.ref s, rfl, 2, rfl, s, _, rfl, s1.seq hs, fun c nc => ?_⟩
  have ncH : H c = none := s1.free nc
  have ncl : l ≠ c := ne_of_none upd_same nc
  have s2 := s1.store ncH (o := .lst (cutV (ns.map V.int) (some 2) none))
  refine ⟨c, rfl, ⟨_, sqL_of upd_same⟩, for_list (K := K) (a := c) (xs := (ns.drop 2).map V.int) (fun i σ H' => ∃ (ws : List Int) (y : Option V), σ = [some (.ref s), some (.int n), some (.int most), some (.int near), some (.int (cellAt ns 1 / 12 % n)), some (.ref l), y] ∧ Same H H' ∧
    H' c = some (.lst ((ns.drop 2).map V.int)) ∧ H' l = some (.lst (ws.map V.int)) ∧ (∀ x ∈ ws, 1 ≤ x ∧ x ≤ n) ∧ ws.length ≤ i ∧ (ws.length : Int) ≤ most) ?_ (fun i σ H' _ ⟨_, _, _, _, h, _⟩ => sqL_of h) ?_ ?_⟩
  · refine ⟨[], none, rfl, s2, ?_, ?_, fun x hx => absurd hx (by simp), Nat.le_refl _, by simpa using h0⟩
    · rw [upd_same, cut2, List.map_drop]
    · rw [upd_ne ncl, upd_same]
      rfl
  · rintro i x σ H' hx ⟨ws, y, rfl, s3, hc, hw, hb, hi, hm⟩
    obtain ⟨z, hz, rfl⟩ := item_of hx
    have hi2 : i < (ns.drop 2).length := (List.getElem?_eq_some_iff.mp hz).1
    rw [List.length_drop] at hi2
    refine ⟨.ref l, rfl, l, _, rfl, .inl (sqL_of hw), .int most, rfl, _, _, rfl, rfl, _, rfl, ?_⟩
    by_cases hlt : (((ws.map V.int).length : Nat) : Int) < most
    · rw [decide_eq_true hlt]
      rw [List.length_map] at hlt
      refine iteT ⟨.ref l, rfl, .inl ⟨rfl, _, sqL_of hw⟩, .int z, rfl, .int near, rfl, z, near, rfl, rfl, (by show 0 < near; omega), .int (cellAt ns 1 / 12 % n), rfl, _, _, rfl, rfl, .int n, rfl, _, n, rfl, rfl, (by show (0 : Int) < n; omega), _, 1, rfl, rfl, l, _, _, rfl, rfl, hw, by rw [List.length_map]; exact small1000 (by omega), ?_⟩
      have b1 := Int.emod_nonneg (z % near + cellAt ns 1 / 12 % n) (show (n : Int) ≠ 0 by omega)
      have b2 := Int.emod_lt_of_pos (z % near + cellAt ns 1 / 12 % n) (show (0 : Int) < n by omega)
      refine ⟨ws ++ [(z % near + cellAt ns 1 / 12 % n) % n + 1], some (.int z), rfl, s3.store nlH, ?_, ?_, ?_, ?_, ?_⟩
      · rw [upd_ne ncl.symm]
        exact hc
      · rw [upd_same, List.map_append]
        rfl
      · intro x hx
        rcases List.mem_append.mp hx with k | k
        · exact hb x k
        · rw [List.mem_singleton.mp k]
          omega
      · rw [List.length_append, List.length_singleton]
        omega
      · rw [List.length_append, List.length_singleton]
        omega
    · rw [decide_eq_false hlt]
      exact iteF ⟨ws, some (.int z), rfl, s3, hc, hw, hb, by omega, hm⟩
  · rintro σ H' ⟨ws, y, rfl, s3, hc, hw, hb, hi, hm⟩
    rw [List.length_map, List.length_drop] at hi
    exact ⟨.ref l, rfl, q l H' ws nlH s3 hw hb (by omega) hm⟩

/-! ### mixed numbers, an order of so many -/
def sp_l_mix (K : PySem.W.Frag) : Sp := fun vs H Q _ => ∃ (p : Addr) (st c : Int), vs = [.ref p, .int c] ∧ H p = some (.lst [.int st]) ∧ 0 ≤ st ∧ st < 2147483647 ∧ ∀ st' r : Int, 0 ≤ st' → st' < 2147483647 → 0 ≤ r → r < 2147483647 → Q (.int r) (upd H p (.lst [.int st']))
abbrev N_l_mix : List Str := ["_law_state", "_law_cell"]
def t_l_mix (K : PySem.W.Frag) (a : Ad) : TS :=
  (tSeq (tAsg (tOp rModI (tOp rAddI (tOp rAddI (tOp rMulI (tOp (rIxL K) (tVar 0) (tC (.int 0))) (tC (.int 48271))) (tOp rMulI (tVar 1) (tC (.int 16807)))) (tC (.int 11))) (tC (.int 2147483647))) (gSub (tVar 0) (tC (.int 0)) rSetL))
    (tRet (tOp rDivI (tOp rModI (tOp rMulI (tOp (rIxL K) (tVar 0) (tC (.int 0))) (tOp (rIxL K) (tVar 0) (tC (.int 0)))) (tC (.int 2147483647))) (tC (.int 5)))))
theorem len_l_mix {K : PySem.W.Frag} {vs : List V} {H : Hp} {Q : VK} {E : XK} (h : sp_l_mix K vs H Q E) : vs.length = 2 := by
  obtain ⟨p, st, c, rfl, _⟩ := h
  rfl
theorem d5 {n : Int} : CDiv n 5 := ⟨by decide, by decide⟩
theorem pmix : (0 : Int) < 2147483647 := by decide
theorem pu_l_mix {K : PySem.W.Frag} {a : Ad} {vs : List V} {H : Hp} {Q : VK} {E : XK} (h : sp_l_mix K vs H Q E) : t_l_mix K a { nx := fun _ H' => Q .non H', rt := Q } (start N_l_mix vs) H := by
  obtain ⟨p, st, c, rfl, hp, h0, h1, q⟩ := h
  refine ⟨.ref p, rfl, p, _, 0, .int st, rfl, rfl, sqL_of hp, atI_nat (j := 0) rfl, st, 48271, rfl, rfl, .inr ⟨by decide, by decide⟩, .int c, rfl, c, 16807, rfl, rfl, .inr ⟨by decide, by decide⟩, _, _, rfl, rfl, _, 11, rfl, rfl, _, 2147483647, rfl, rfl, pmix, .ref p, rfl, p, _, 0, 0, rfl, rfl, hp, rfl, ?_⟩
  have b1 := Int.emod_nonneg (st * 48271 + c * 16807 + 11) (show (2147483647 : Int) ≠ 0 by decide)
  have b2 := Int.emod_lt_of_pos (st * 48271 + c * 16807 + 11) pmix
  refine ⟨.ref p, rfl, p, _, 0, .int ((st * 48271 + c * 16807 + 11) % 2147483647), rfl, rfl, sqL_of upd_same, atI_nat (j := 0) rfl, .ref p, rfl, p, _, 0, .int ((st * 48271 + c * 16807 + 11) % 2147483647), rfl, rfl, sqL_of upd_same, atI_nat (j := 0) rfl, _, _, rfl, rfl, .inl ⟨by omega, by omega⟩, _, 2147483647, rfl, rfl, pmix, _, 5, rfl, rfl, d5, ?_⟩
  have c1 := Int.emod_nonneg (((st * 48271 + c * 16807 + 11) % 2147483647) * ((st * 48271 + c * 16807 + 11) % 2147483647)) (show (2147483647 : Int) ≠ 0 by decide)
  have c2 := Int.emod_lt_of_pos (((st * 48271 + c * 16807 + 11) % 2147483647) * ((st * 48271 + c * 16807 + 11) % 2147483647)) pmix
  generalize (((st * 48271 + c * 16807 + 11) % 2147483647) * ((st * 48271 + c * 16807 + 11) % 2147483647)) % 2147483647 = u at c1 c2
  exact q _ _ b1 b2 (by omega) (by omega)
def sp_l_order (K : PySem.W.Frag) : Sp := fun vs H Q _ => ∃ (s : Addr) (ns : List Int) (m : Nat) (first : Int), vs = [.ref s, .int m, .int first] ∧ SqL K H s (ns.map V.int) ∧ m ≤ 400 ∧ 0 ≤ first ∧
  ∀ (l : Addr) (H' : Hp) (os : List Int), H l = none → Same H H' → H' l = some (.lst (os.map V.int)) → os.Perm (upTo 0 m) → Q (.ref l) H'
abbrev N_l_order : List Str := ["_law_script", "_law_many", "_law_first", "_law_state", "_law_some", "_law_order_here", "_law_turn"]
def t_l_order (K : PySem.W.Frag) (a : Ad) : TS :=
  (tSeq (tAsg (tLst (tCons (tOp rAddI (tC (.int 1)) (tOp rModI (tCall (sp_l_cell_at K) [] E0 (tCons (tVar 0) (tCons (tVar 2) tNil))) (tC (.int 2147483646)))) tNil)) (gName 3))
    (tSeq (tAsg (tLstRg (tRg1 (tVar 1))) (gName 4))
    (tSeq (tAsg (tLst tNil) (gName 5))
    (tSeq (tFor (iRng1 (tCons (tVar 1) tNil)) (gName 6)
    (tDrop (tBM K "list" rAppend (tVar 5) (tCons (tBM K "list" rPopAt (tVar 4) (tCons (tOp rModI (tCall (sp_l_mix K) [] E0 (tCons (tVar 3) (tCons (tCall (sp_l_cell_at K) [] E0 (tCons (tVar 0) (tCons (tOp rAddI (tOp rAddI (tVar 2) (tC (.int 1))) (tOp rModI (tVar 6) (tC (.int 3)))) tNil))) tNil))) (tCB (rLenSq K) (tCons (tVar 4) tNil))) tNil)) tNil))))
    (tRet (tVar 5))))))
theorem len_l_order {K : PySem.W.Frag} {vs : List V} {H : Hp} {Q : VK} {E : XK} (h : sp_l_order K vs H Q E) : vs.length = 3 := by
  obtain ⟨s, ns, m, first, rfl, _⟩ := h
  rfl
theorem rg_upTo {m : Nat} : rgV 0 (m : Int) = (upTo 0 m).map V.int := by
  unfold rgV upTo
  rw [List.map_map]
  have e : ((m : Int) - 0).toNat = m := by omega
  rw [e]
  rfl
theorem pop_perm {l : List Int} {k : Nat} {y : Int} (h : l[k]? = some y) : (y :: l.eraseIdx k).Perm l := by
  induction l generalizing k with
  | nil => simp at h
  | cons x r ih =>
    cases k with
    | zero =>
      cases h
      exact List.Perm.refl _
    | succ k => exact (List.Perm.swap x y _).trans ((ih (k := k) (by simpa using h)).cons x)
theorem pu_l_order {K : PySem.W.Frag} {a : Ad} {vs : List V} {H : Hp} {Q : VK} {E : XK} (h : sp_l_order K vs H Q E) : t_l_order K a { nx := fun _ H' => Q .non H', rt := Q } (start N_l_order vs) H := by
  obtain ⟨s, ns, m, first, rfl, hs, hm, hf, q⟩ := h
  refine ⟨.ref s, rfl, .int first, rfl, s, ns, first, rfl, hs, hf, _, 2147483646, rfl, rfl, (by show (0 : Int) < 2147483646; decide), 1, _, rfl, rfl, l1000 (by show 1 ≤ 1000; decide), fun ls nls => ?_⟩
  have b1 := Int.emod_nonneg (cellAt ns first) (show (2147483646 : Int) ≠ 0 by decide)
  have b2 := Int.emod_lt_of_pos (cellAt ns first) (show (0 : Int) < 2147483646 by decide)
  have s1 := same_new nls (o := .lst [.int (1 + cellAt ns first % 2147483646)])
  refine ⟨.int m, rfl, m, rfl, ⟨by omega, by omega, by omega, by omega, by omega⟩, fun lr nlr => ?_⟩
  have nlrH : H lr = none := s1.free nlr
  have s2 := s1.store nlrH (o := .lst (rgV 0 m))
  have n12 : ls ≠ lr := ne_of_none upd_same nlr
  refine ⟨Nat.zero_le _, fun lo nlo => ?_⟩
  have nloH : H lo = none := s2.free nlo
  have s3 := s2.store nloH (o := .lst [])
  have n23 : lr ≠ lo := ne_of_none upd_same nlo
  have n13 : ls ≠ lo := ne_of_none (by rw [upd_ne n12]; exact upd_same) nlo
  refine ⟨.int m, rfl, m, rfl, by omega, by omega, ?_⟩
  have em : ((m : Nat) : Int).toNat = m := by omega
  rw [em]
  refine for_range (fun i σ H' => ∃ (st : Int) (rest os : List Int) (y : Option V), σ = [some (.ref s), some (.int m), some (.int first), some (.ref ls), some (.ref lr), some (.ref lo), y] ∧ Same H H' ∧ H' ls = some (.lst [.int st]) ∧ 0 ≤ st ∧ st < 2147483647 ∧
    H' lr = some (.lst (rest.map V.int)) ∧ H' lo = some (.lst (os.map V.int)) ∧ (os ++ rest).Perm (upTo 0 m) ∧ os.length = i) ⟨_, upTo 0 m, [], none, rfl, s3, by rw [upd_ne n13, upd_ne n12]; exact upd_same, by omega, by omega, by rw [upd_ne n23, upd_same, rg_upTo], upd_same, List.Perm.refl _, rfl⟩ ?_ ?_
  · rintro i σ H' hi ⟨st, rest, os, y, rfl, sH, es, h0, h1, er, eo, hp, hl⟩
    have hlen := hp.length_eq
    rw [upTo_len, List.length_append, hl] at hlen
    have e0 : (0 : Int) + i = i := by omega
    rw [e0]
    refine ⟨.ref lo, rfl, .inl ⟨rfl, _, sqL_of eo⟩, .ref lr, rfl, .inl ⟨rfl, _, sqL_of er⟩, .ref ls, rfl, .ref s, rfl, .int first, rfl, first, 1, rfl, rfl, .int i, rfl, i, 3, rfl, rfl, p3, _, _, rfl, rfl, s, ns, _, rfl, sH.seq hs, (by show (0 : Int) ≤ first + 1 + (i : Int) % 3; omega), ls, st, _, rfl, es, h0, h1, fun st' r g0 g1 r0 r1 => ?_⟩
    have nlsH : H ls = none := nls
    have s4 := sH.store nlsH (o := .lst [.int st'])
    have er4 : (upd H' ls (.lst [.int st'])) lr = some (.lst (rest.map V.int)) := by rw [upd_ne n12.symm]; exact er
    have eo4 : (upd H' ls (.lst [.int st'])) lo = some (.lst (os.map V.int)) := by rw [upd_ne n13.symm]; exact eo
    have rl : (0 : Int) < ((rest.map V.int).length : Nat) := by rw [List.length_map]; omega
    refine ⟨.ref lr, rfl, lr, _, rfl, .inl (sqL_of er4), r, _, rfl, rfl, rl, ?_⟩
    have b1 := Int.emod_nonneg r (show (((rest.map V.int).length : Nat) : Int) ≠ 0 by omega)
    have b2 := Int.emod_lt_of_pos r rl
    generalize hj : r % (((rest.map V.int).length : Nat) : Int) = j at b1 b2
    have hjl : j.toNat < rest.length := by rw [List.length_map] at b2; omega
    have ey : rest[j.toNat]? = some rest[j.toNat] := List.getElem?_eq_getElem hjl
    have ey2 : (rest.map V.int)[j.toNat]? = some (.int rest[j.toNat]) := by rw [List.getElem?_map, ey]; rfl
    show rPopAt _ [.int (r % (((rest.map V.int).length : Nat) : Int))] _ _
    rw [hj]
    refine ⟨lr, _, j, j.toNat, _, rfl, rfl, er4, by omega, by rw [List.length_map] at b2; omega, ?_, ey2, ?_⟩
    · rw [seqIndex_of b1 b2]
    have pe := pop_perm ey
    have eo5 : (upd (upd H' ls (.lst [.int st'])) lr (.lst ((rest.map V.int).eraseIdx j.toNat))) lo = some (.lst (os.map V.int)) := by rw [upd_ne n23.symm]; exact eo4
    refine ⟨lo, _, _, rfl, rfl, eo5, by rw [List.length_map, hl]; exact small1000 (by omega), ?_⟩
    refine ⟨st', rest.eraseIdx j.toNat, os ++ [rest[j.toNat]], _, rfl, (s4.store nlrH).store nloH, ?_, g0, g1, ?_, ?_, ?_, ?_⟩
    · rw [upd_ne n13, upd_ne n12]
      exact upd_same
    · rw [upd_ne n23, upd_same]
      rw [L2.map_eraseIdx']
    · rw [upd_same, List.map_append]
      rfl
    · refine List.Perm.trans ?_ hp
      rw [List.append_assoc]
      exact List.Perm.append_left os pe
    · rw [List.length_append, hl]
      rfl
  · rintro σ H' ⟨st, rest, os, y, rfl, sH, es, h0, h1, er, eo, hp, hl⟩
    have hlen := hp.length_eq
    rw [upTo_len, List.length_append, hl] at hlen
    have er0 : rest = [] := List.length_eq_zero_iff.mp (by omega)
    subst er0
    rw [List.append_nil] at hp
    exact ⟨.ref lo, rfl, q lo H' os nloH sH eo hp⟩

/-! ### law k03 -/
theorem cut_last (xs : List V) : cutV xs none (some (-1)) = xs.dropLast := by
  unfold cutV
  have e : HT.sIx xs.length xs.length (some (-1)) = xs.length - 1 := by
    unfold HT.sIx
    simp
    omega
  rw [e, HT.sIx_none, List.drop_zero, Nat.sub_zero, List.dropLast_eq_take]
/-- how many go away -/
theorem pu_away {K : PySem.W.Frag} {a : Ad} {j r : Nat} {σ : L2.St} {H : Hp} {Q : VK} {n : Nat} {p : Addr} {ws : List Int} (h1 : σ[1]? = some (some (.int n))) (hr : σ[r]? = some (some (.ref p))) (hj : j < σ.length) (n1 : 1 ≤ n) (n2 : n ≤ 400) (hp : SqL K H p (ws.map V.int)) (hl : ws.length ≤ 400) (hb : ∀ x ∈ ws, 1 ≤ x ∧ x ≤ n)
    (q : ∀ H' : Hp, Same H H' → Q (.int ((placedL n ws).filter Option.isNone).length) H') : (tCB (rLenSq K) (tCons (tLc (iList K (tCall (sp_placed K a) [] E0 (tCons (tVar 1) (tCons (tVar r) tNil)))) (gName j) (tB (tIsN (tVar j))) (tVar j) [j]) tNil)) σ H Q := by
  refine ⟨_, h1, _, hr, _, _, rfl, ChkW.ok n1 n2 (.inl hp) hl hb fun l H1 nl s el => ?_⟩
  refine ⟨l, rfl, ⟨_, sqL_of el⟩, lc_pure (walk_list (K := K) (a := l) (xs := (placedL n ws).map vO)) (by rw [List.length_map, placedL_len]; exact small1000 (by omega)) (placedL n ws) (by rw [List.length_map]) Option.isNone vO (fun H' s' => s'.seq (sqL_of el)) ?_ ?_⟩
  · intro i o v H5 H6 R hx2 s2 hy k
    obtain ⟨rfl, hv⟩ := hy
    rw [List.getElem?_map, hx2] at hv
    cases hv
    have at_j : ((wipe σ [j]).set j (some (vO o)))[j]? = some (some (vO o)) := by
      rw [List.getElem?_set_self]
      rw [wipe_length]
      exact hj
    refine ⟨?_, vO o, at_j, o.isNone, by rw [vO_isN], ?_⟩
    · show (((σ.set j none).set j (some (vO o))).set j none) = σ.set j none
      simp
    cases e : o.isNone with
    | true =>
      have kk := k (vO o) _ (Same.refl _) fun _ => rfl
      rw [e] at kk
      exact iteT ⟨vO o, at_j, kk⟩
    | false =>
      have kk := k .non _ (Same.refl _) fun z => by rw [e] at z; cases z
      rw [e] at kk
      exact iteF kk
  · intro D H2 nD s2 eD
    have := q H2 (s.trans s2)
    refine ⟨D, _, rfl, .inl (sqL_of eD), ?_⟩
    rw [List.length_map]
    exact this
theorem away_none {os : List (Option Int)} (h : (os.filter Option.isNone).length = 0) : none ∉ os := fun z => by
  have := List.length_pos_of_mem (List.mem_filter.mpr ⟨z, (rfl : Option.isNone (none : Option Int) = true)⟩)
  omega
theorem map_order {ws os : List Int} (h : os.Perm (upTo 0 ws.length)) : (os.map fun k => ws.getD k.toNat 0).Perm ws := by
  refine (h.map _).trans (List.Perm.of_eq ?_)
  unfold upTo
  rw [List.map_map]
  apply List.ext_getElem?
  intro i
  rw [List.getElem?_map]
  by_cases hi : i < ws.length
  · rw [List.getElem?_range hi, List.getElem?_eq_getElem hi]
    show some (ws.getD ((0 : Int) + (i : Int)).toNat 0) = _
    have : ((0 : Int) + (i : Int)).toNat = i := by omega
    rw [this, List.getD_eq_getElem?_getD, List.getElem?_eq_getElem hi]
    rfl
  · rw [List.getElem?_eq_none (by simpa using hi), List.getElem?_eq_none (by omega)]
    rfl
theorem inV_ints {x : Int} {l : List Int} : inV (.int x) (l.map V.int) = decide (x ∈ l) := by
  unfold inV
  rw [List.any_map, Bool.eq_iff_iff, List.any_eq_true, decide_eq_true_eq]
  constructor
  · rintro ⟨y, hy, e⟩
    have e' : eqV (.int y) (.int x) = true := e
    have : y = x := by simpa [eqV] using e'
    exact this ▸ hy
  · intro h
    exact ⟨x, h, by show eqV (.int x) (.int x) = true; simp [eqV]⟩
theorem flat_ints {l : List Int} : (l.map V.int).all flatV = true := by
  rw [List.all_map, List.all_eq_true]
  intro x _
  rfl
def sp_law (K : PySem.W.Frag) : Sp := fun vs H Q _ => ∃ (s : Addr) (ns : List Int), vs = [.ref s] ∧ SqL K H s (ns.map V.int) ∧ ns.length ≤ 63 ∧ ∀ H', Q (.bl true) H'
abbrev N_law : List Str := ["_law_script", "_law_berths", "_law_wishes_here", "_law_order_here", "_law_other", "_law_held", "_law_away", "_law_row", "_law_lie", "_law_fewer", "_law_ship", "_law_berth", "_law_wish"]
def t_law (K : PySem.W.Frag) (a : Ad) : TS :=
  (tSeq (tAsg (tCall (sp_l_quay K) [] E0 (tCons (tVar 0) tNil)) (gName 1))
    (tSeq (tAsg (tCall (sp_l_wishes K) [] E0 (tCons (tVar 0) (tCons (tVar 1) (tCons (tC (.int 400)) tNil)))) (gName 2))
    (tSeq (tAsg (tCall (sp_l_order K) [] E0 (tCons (tVar 0) (tCons (tCB (rLenSq K) (tCons (tVar 2) tNil)) (tCons (tC (.int 2)) tNil)))) (gName 3))
    (tSeq (tAsg (tLc (iList K (tVar 3)) (gName 10) tYes (tOp (rIxL K) (tVar 2) (tVar 10)) [10]) (gName 4))
    (tSeq (tAsg (tCall (sp_taken K a) [] E0 (tCons (tVar 1) (tCons (tVar 2) tNil))) (gName 5))
    (tSeq (tIfS (tOr (tTest (tOp (rNeT K) (tCall (sp_taken K a) [] E0 (tCons (tVar 1) (tCons (tVar 4) tNil))) (tVar 5))) (tTest (tOp (rNeT K) (tCall (sp_taken K a) [] E0 (tCons (tVar 1) (tCons (tRevL K (tVar 2)) tNil))) (tVar 5)))) (tRet (tC (.bl false))) tNext)
    (tSeq (tAsg (tCB (rLenSq K) (tCons (tLc (iList K (tCall (sp_placed K a) [] E0 (tCons (tVar 1) (tCons (tVar 2) tNil)))) (gName 11) (tB (tIsN (tVar 11))) (tVar 11) [11]) tNil)) (gName 6))
    (tSeq (tIfS (tOr (tTest (tOp rNe (tCB (rLenSq K) (tCons (tLc (iList K (tCall (sp_placed K a) [] E0 (tCons (tVar 1) (tCons (tVar 4) tNil)))) (gName 11) (tB (tIsN (tVar 11))) (tVar 11) [11]) tNil)) (tVar 6))) (tTest (tOp rNe (tOp rAddI (tCB (rLenSq K) (tCons (tVar 5) tNil)) (tVar 6)) (tCB (rLenSq K) (tCons (tVar 2) tNil))))) (tRet (tC (.bl false))) tNext)
    (tSeq (tIfS (tTest (tOp rNe (tCall (sp_is_good K a) [] E0 (tCons (tVar 1) (tCons (tVar 2) tNil))) (tCall (sp_is_good K a) [] E0 (tCons (tVar 1) (tCons (tVar 4) tNil))))) (tRet (tC (.bl false))) tNext)
    (tSeq (tIfS (tAnd (tTest (tOp rEq (tVar 6) (tC (.int 0)))) (tTest (tOp rNe (tCall (sp_gone_on K a) [] E0 (tCons (tVar 1) (tCons (tVar 2) tNil))) (tCall (sp_gone_on K a) [] E0 (tCons (tVar 1) (tCons (tVar 4) tNil)))))) (tRet (tC (.bl false))) tNext)
    (tSeq (tFor (iList K (tLst (tCons (tVar 2) (tCons (tVar 4) tNil)))) (gName 7)
    (tSeq (tAsg (tLc (iZip K (tCons (tVar 7) (tCons (tCall (sp_placed K a) [] E0 (tCons (tVar 1) (tCons (tVar 7) tNil))) tNil))) (gTup K 2 (gCons (gName 12) (gCons (gName 11) gNil))) (tB (tNotN (tVar 11))) (tVar 12) [12, 11]) (gName 8))
    (tIfS (tOr (tNot (tB (tCall (sp_is_good K a) [] E0 (tCons (tVar 1) (tCons (tVar 8) tNil))))) (tOr (tTest (tOp (rNeT K) (tCall (sp_taken K a) [] E0 (tCons (tVar 1) (tCons (tVar 8) tNil))) (tVar 5))) (tTest (tOp rNe (tCall (sp_gone_on K a) [] E0 (tCons (tVar 1) (tCons (tVar 8) tNil))) (tOp rSubI (tCB (rSum K) (tCons (tVar 5) tNil)) (tCB (rSum K) (tCons (tVar 8) tNil))))))) (tRet (tC (.bl false))) tNext)))
    (tSeq (tAsg (tCall (sp_taken K a) [] E0 (tCons (tVar 1) (tCons (tSl (rSlL K) (tVar 2) tNoPart (tPart (tUn (rU fun i => .int (-i)) (tC (.int 1))))) tNil))) (gName 9))
    (tRet (tAndV (tOp (rEqT K) (tLc (iList K (tVar 9)) (gName 11) (tTest (tOp (rIn K true) (tVar 11) (tVar 5))) (tVar 11) [11]) (tLst tNil)) (tOp rGeI (tCB (rLenSq K) (tCons (tVar 9) tNil)) (tOp rSubI (tCB (rLenSq K) (tCons (tVar 5) tNil)) (tC (.int 1))))))))))))))))))
theorem len_law {K : PySem.W.Frag} {vs : List V} {H : Hp} {Q : VK} {E : XK} (h : sp_law K vs H Q E) : vs.length = 1 := by
  obtain ⟨s, ns, rfl, _⟩ := h
  rfl
theorem pu_law {K : PySem.W.Frag} {a : Ad} {vs : List V} {H : Hp} {Q : VK} {E : XK} (h : sp_law K vs H Q E) : t_law K a { nx := fun _ H' => Q .non H', rt := Q } (start N_law vs) H := by
  obtain ⟨s, ns, rfl, hs, hl, q⟩ := h
  refine ⟨.ref s, rfl, s, ns, rfl, hs, fun n H1 n1 n2 s1 => ?_⟩
  refine ⟨.ref s, rfl, .int n, rfl, s, ns, n, 400, rfl, s1.seq hs, n1, n2, by decide, hl, fun p H2 ws np2 s2 ep hb hw _ => ?_⟩
  have hw4 : ws.length ≤ 400 := by omega
  -- the order
  refine ⟨.ref s, rfl, .ref p, rfl, p, _, rfl, .inl (sqL_of ep), s, ns, ws.length, 2, by rw [List.length_map]; rfl, (s1.trans s2).seq hs, hw4, by decide, fun lo H3 os nlo s3 eo hp => ?_⟩
  have ep3 := s3 _ _ ep
  -- the other order of the same ships
  refine ⟨.ref lo, rfl, lo, rfl, ⟨_, sqL_of eo⟩, lc_pure (walk_list (K := K) (a := lo) (xs := os.map V.int)) (by rw [List.length_map, hp.length_eq, upTo_len]; exact small1000 (by omega)) os (by rw [List.length_map]) (fun _ => true) (fun k => V.int (ws.getD k.toNat 0)) (fun H' s' => s'.seq (sqL_of eo)) ?_ ?_⟩
  · intro j x v H5 H6 R hx2 s5 hy k
    obtain ⟨rfl, hv⟩ := hy
    rw [List.getElem?_map, hx2] at hv
    cases hv
    obtain ⟨x1, x2⟩ := mem_upTo.mp (hp.mem_iff.mp (List.mem_of_getElem? hx2))
    have ex : (ws.map V.int)[x.toNat]? = some (.int (ws.getD x.toNat 0)) := by
      rw [List.getElem?_map, List.getD_eq_getElem?_getD, List.getElem?_eq_getElem (by omega)]
      rfl
    refine ⟨rfl, ?_⟩
    exact iteT (B := R false .non H6) ⟨.ref p, rfl, .int x, rfl, p, _, x, _, rfl, rfl, sqL_of (s5 _ _ ep3), at_of (j := x.toNat) (by omega) ex, k _ _ (Same.refl _) fun _ => rfl⟩
  intro ot H4 not4 s4 eot
  rw [List.filter_eq_self.mpr (fun _ _ => rfl)] at eot
  have eot : H4 ot = some (.lst ((os.map fun k => ws.getD k.toNat 0).map V.int)) := by rw [eot, List.map_map]; rfl
  have hpo := map_order hp
  generalize (os.map fun k => ws.getD k.toNat 0) = ot' at eot hpo
  have hbo : ∀ x ∈ ot', 1 ≤ x ∧ x ≤ n := fun x hx => hb x (hpo.mem_iff.mp hx)
  have hlo : ot'.length ≤ 400 := by rw [hpo.length_eq]; exact hw4
  have ep4 := s4 _ _ ep3
  -- held
  refine ⟨.int n, rfl, .ref p, rfl, _, _, rfl, ChkW.ok n1 n2 (.inl (sqL_of ep4)) hw4 hb fun he H5 nhe s5 ehe => ?_⟩
  have ep5 := s5 _ _ ep4
  have eot5 := s5 _ _ eot
  refine ⟨.int n, rfl, .ref ot, rfl, _, _, rfl, ChkW.ok n1 n2 (.inl (sqL_of eot5)) hlo hbo fun h2 H6 nh2 s6 eh2 => ?_⟩
  refine ⟨.ref he, rfl, neT_of (ho_ints (sqL_of eh2)) (ho_ints (sqL_of (s6 _ _ ehe))) (by decide) ⟨_, rfl, ?_⟩⟩
  rw [decide_eq_false (fun z => z (taken_perm hpo hbo))]
  refine iteF ⟨.int n, rfl, .ref p, rfl, p, _, rfl, sqL_of (s6 _ _ ep5), fun rv nrv => ?_⟩
  rw [← List.map_reverse]
  have s7 := s6.trans (same_new nrv (o := .lst (ws.reverse.map V.int)))
  refine ⟨_, _, rfl, ChkW.ok n1 n2 (.inl (sqL_of upd_same)) (by rw [List.length_reverse]; exact hw4) (fun x hx => hb x (List.mem_reverse.mp hx)) fun h3 H8 nh3 s8 eh3 => ?_⟩
  have s58 := s7.trans s8
  refine ⟨.ref he, rfl, neT_of (ho_ints (sqL_of eh3)) (ho_ints (sqL_of (s58 _ _ ehe))) (by decide) ⟨_, rfl, ?_⟩⟩
  rw [decide_eq_false (fun z => z (taken_perm (List.reverse_perm ws) fun x hx => hb x (List.mem_reverse.mp hx)))]
  refine iteF ?_
  have ehe8 := s58 _ _ ehe
  have ep8 := s58 _ _ ep5
  have eot8 := s58 _ _ eot5
  -- away
  change (tCB (rLenSq K) (tCons (tLc (iList K (tCall (sp_placed K a) [] E0 (tCons (tVar 1) (tCons (tVar 2) tNil)))) (gName 11) (tB (tIsN (tVar 11))) (tVar 11) [11]) tNil)) _ _ _
  refine pu_away rfl rfl (by show 11 < 13; decide) n1 n2 (sqL_of ep8) hw4 hb fun H9 s9 => ?_
  have ehe9 := s9 _ _ ehe8
  have ep9 := s9 _ _ ep8
  have eot9 := s9 _ _ eot8
  change (tCB (rLenSq K) (tCons (tLc (iList K (tCall (sp_placed K a) [] E0 (tCons (tVar 1) (tCons (tVar 4) tNil)))) (gName 11) (tB (tIsN (tVar 11))) (tVar 11) [11]) tNil)) _ _ _
  refine pu_away rfl rfl (by show 11 < 13; decide) n1 n2 (sqL_of eot9) hlo hbo fun H10 s10 => ?_
  have ehe10 := s10 _ _ ehe9
  have ep10 := s10 _ _ ep9
  have eot10 := s10 _ _ eot9
  have aw := away_len (placedL n ws)
  have aw' := away_len (placedL n ot')
  have SP := somes_perm hpo hbo
  have sl := SP.length_eq
  rw [placedL_len] at aw aw'
  have ol := hpo.length_eq
  have eaw : ((placedL n ot').filter Option.isNone).length = ((placedL n ws).filter Option.isNone).length := by omega
  refine ⟨_, rfl, rfl, _, rfl, ?_⟩
  rw [eaw, decide_eq_true rfl]
  refine iteF ⟨.ref he, rfl, he, _, rfl, .inl (sqL_of ehe10), _, rfl, _, _, rfl, rfl, .ref p, rfl, p, _, rfl, .inl (sqL_of ep10), rfl, _, rfl, ?_⟩
  have etl : (takenL n ws).length = (somes (placedL n ws)).length := (sortI_perm _).length_eq
  have e1 : ((((takenL n ws).map V.int).length : Nat) : Int) + ((placedL n ws).filter Option.isNone).length = (((ws.map V.int).length : Nat) : Int) := by
    rw [List.length_map, List.length_map, etl]
    omega
  refine ite2 (fun c => ?_) (fun _ => ?_)
  · exfalso
    have c' : (!decide (V.int (((((takenL n ws).map V.int).length : Nat) : Int) + ((placedL n ws).filter Option.isNone).length) = V.int (((ws.map V.int).length : Nat) : Int))) = true := c
    rw [e1, decide_eq_true rfl] at c'
    cases c'
  -- is_good
  refine ⟨.int n, rfl, .ref p, rfl, _, _, rfl, ChkW.ok n1 n2 (.inl (sqL_of ep10)) hw4 hb fun H11 s11 => ?_⟩
  refine ⟨.int n, rfl, .ref ot, rfl, _, _, rfl, ChkW.ok n1 n2 (.inl (sqL_of (s11 _ _ eot10))) hlo hbo fun H12 s12 => ?_⟩
  refine ⟨rfl, _, rfl, ?_⟩
  rw [crowded_perm hpo, decide_eq_true rfl]
  refine iteF ?_
  have s912 := s11.trans s12
  have ehe12 := s912 _ _ ehe10
  have ep12 := s912 _ _ ep10
  have eot12 := s912 _ _ eot10
  -- the rest, whatever heap stands behind the next test
  suffices rest : ∀ H13, Same H12 H13 → (tSeq (tFor (iList K (tLst (tCons (tVar 2) (tCons (tVar 4) tNil)))) (gName 7)
    (tSeq (tAsg (tLc (iZip K (tCons (tVar 7) (tCons (tCall (sp_placed K a) [] E0 (tCons (tVar 1) (tCons (tVar 7) tNil))) tNil))) (gTup K 2 (gCons (gName 12) (gCons (gName 11) gNil))) (tB (tNotN (tVar 11))) (tVar 12) [12, 11]) (gName 8))
    (tIfS (tOr (tNot (tB (tCall (sp_is_good K a) [] E0 (tCons (tVar 1) (tCons (tVar 8) tNil))))) (tOr (tTest (tOp (rNeT K) (tCall (sp_taken K a) [] E0 (tCons (tVar 1) (tCons (tVar 8) tNil))) (tVar 5))) (tTest (tOp rNe (tCall (sp_gone_on K a) [] E0 (tCons (tVar 1) (tCons (tVar 8) tNil))) (tOp rSubI (tCB (rSum K) (tCons (tVar 5) tNil)) (tCB (rSum K) (tCons (tVar 8) tNil))))))) (tRet (tC (.bl false))) tNext)))
    (tSeq (tAsg (tCall (sp_taken K a) [] E0 (tCons (tVar 1) (tCons (tSl (rSlL K) (tVar 2) tNoPart (tPart (tUn (rU fun i => .int (-i)) (tC (.int 1))))) tNil))) (gName 9))
    (tRet (tAndV (tOp (rEqT K) (tLc (iList K (tVar 9)) (gName 11) (tTest (tOp (rIn K true) (tVar 11) (tVar 5))) (tVar 11) [11]) (tLst tNil)) (tOp rGeI (tCB (rLenSq K) (tCons (tVar 9) tNil)) (tOp rSubI (tCB (rLenSq K) (tCons (tVar 5) tNil)) (tC (.int 1)))))))) { nx := fun _ H' => Q .non H', rt := Q }
      [some (.ref s), some (.int n), some (.ref p), some (.ref lo), some (.ref ot), some (.ref he), some (.int ((placedL n ws).filter Option.isNone).length), none, none, none, none, none, none] H13 by
    refine ⟨_, rfl, rfl, _, rfl, ?_⟩
    refine ite2 (fun c => ?_) (fun _ => iteF (rest _ (Same.refl _)))
    have c : ((placedL n ws).filter Option.isNone).length = 0 := by
      have := V.int.inj (of_decide_eq_true c)
      omega
    have c' : ((placedL n ot').filter Option.isNone).length = 0 := by omega
    refine ⟨.int n, rfl, .ref p, rfl, _, _, rfl, ChkW.ok n1 n2 (.inl (sqL_of ep12)) hw4 hb ⟨sqL_of ep12, fun H13 s13 => ?_⟩⟩
    refine ⟨.int n, rfl, .ref ot, rfl, _, _, rfl, ChkW.ok n1 n2 (.inl (sqL_of (s13 _ _ eot12))) hlo hbo ⟨sqL_of (s13 _ _ eot12), fun H14 s14 => ?_⟩⟩
    have e2 : (goneL ws (placedL n ws)).sum = (goneL ot' (placedL n ot')).sum := by
      rw [gone_sum _ _ (placedL_len).symm, gone_sum _ _ (placedL_len).symm, lie_all _ _ (placedL_len).symm (away_none c), lie_all _ _ (placedL_len).symm (away_none c'), sum_perm SP, sum_perm hpo]
    refine ⟨rfl, _, rfl, ?_⟩
    rw [e2, decide_eq_true rfl]
    exact iteF (rest _ (s13.trans s14))
  intro H13 s13
  have ehe13 := s13 _ _ ehe12
  have ep13 := s13 _ _ ep12
  have eot13 := s13 _ _ eot12
  -- both rows
  refine ⟨.ref p, rfl, .ref ot, rfl, l1000 (by show 2 ≤ 1000; decide), fun L nL => ?_⟩
  have s14 := same_new nL (o := .lst [.ref p, .ref ot])
  have eL : (upd H13 L (.lst [.ref p, .ref ot])) L = some (.lst [.ref p, .ref ot]) := upd_same
  generalize upd H13 L (.lst [.ref p, .ref ot]) = H14 at s14 eL
  have ehe14 := s14 _ _ ehe13
  have ep14 := s14 _ _ ep13
  have rows : ∀ x ∈ [V.ref p, V.ref ot], ∃ (r : Addr) (rs : List Int), x = .ref r ∧ H14 r = some (.lst (rs.map V.int)) ∧ rs.Perm ws := by
    intro x hx
    rcases List.mem_cons.mp hx with e | hx
    · exact ⟨p, ws, e, s14 _ _ ep13, List.Perm.refl _⟩
    rcases List.mem_cons.mp hx with e | hx
    · exact ⟨ot, ot', e, s14 _ _ eot13, hpo⟩
    · cases hx
  refine ⟨L, rfl, ⟨_, sqL_of eL⟩, for_list (K := K) (a := L) (xs := [V.ref p, V.ref ot]) (fun i σ H' => Same H14 H' ∧ ∃ y7 y8, σ = [some (.ref s), some (.int n), some (.ref p), some (.ref lo), some (.ref ot), some (.ref he), some (.int ((placedL n ws).filter Option.isNone).length), y7, y8, none, none, none, none])
    ⟨Same.refl _, none, none, rfl⟩ (fun i σ H' _ h => sqL_of (h.1 _ _ eL)) ?_ ?_⟩
  · rintro i x σ H' hx ⟨s15, y7, y8, rfl⟩
    obtain ⟨r, rs, rfl, er, hrp⟩ := rows x (List.mem_of_getElem? hx)
    have er15 := s15 _ _ er
    have ehe15 := s15 _ _ ehe14
    have hbr : ∀ x ∈ rs, 1 ≤ x ∧ x ≤ n := fun x hx => hb x (hrp.mem_iff.mp hx)
    have hlr : rs.length ≤ 400 := by rw [hrp.length_eq]; exact hw4
    refine ⟨.ref r, rfl, .int n, rfl, .ref r, rfl, _, _, rfl, ChkW.ok n1 n2 (.inl (sqL_of er15)) hlr hbr fun l H16 nl s16 el => ?_⟩
    have er16 := s16 _ _ er15
    have hz : min (rs.map V.int).length ((placedL n rs).map vO).length = rs.length := by
      rw [List.length_map, List.length_map, placedL_len]
      exact Nat.min_self _
    refine ⟨r, l, _, _, rfl, sqL_of er16, sqL_of el, lc_pure (walk_zip (K := K) (a := r) (b := l) (xs := rs.map V.int) (ys := (placedL n rs).map vO) rfl) (by rw [hz]; exact small1000 (by omega)) (rs.zip (placedL n rs)) (by rw [hz, List.length_zip, placedL_len]; exact Nat.min_self _) (fun x => x.2.isSome) (fun x => V.int x.1) (fun H' s' => ⟨s'.seq (sqL_of er16), s'.seq (sqL_of el)⟩) ?_ ?_⟩
    · intro i x v H2 H3 R hx s2 hy k
      obtain ⟨T, u1, u2, rfl, nT, rfl, e1, e2⟩ := hy
      obtain ⟨x1, x2⟩ := zip_at hx
      replace e1 : (rs.map V.int)[i]? = some u1 := e1
      replace e2 : ((placedL n rs).map vO)[i]? = some u2 := e2
      rw [List.getElem?_map, x1] at e1
      rw [List.getElem?_map, x2] at e2
      cases e1
      cases e2
      refine ⟨T, _, rfl, sqT_of upd_same, rfl, _, _, rfl, _, _, rfl, rfl, rfl, vO x.2, rfl, x.2.isSome, by rw [vO_not], ?_⟩
      have kk := k (.int x.1) _ (same_new nT (o := .tup [.int x.1, vO x.2])) fun _ => rfl
      cases e : x.2.isSome with
      | true =>
        rw [e] at kk
        exact iteT ⟨.int x.1, rfl, kk⟩
      | false =>
        have kk := k .non _ (same_new nT (o := .tup [.int x.1, vO x.2])) fun z => by rw [e] at z; cases z
        rw [e] at kk
        exact iteF kk
    intro D H17 nD s17 eD
    have eD : H17 D = some (.lst ((lieL rs (placedL n rs)).map V.int)) := by rw [eD, lieL, List.map_map]; rfl
    have ehe17 := s17 _ _ (s16 _ _ ehe15)
    have hbl : ∀ x ∈ lieL rs (placedL n rs), 1 ≤ x ∧ x ≤ n := fun x hx => hbr x (mem_lie hx)
    have hll : (lieL rs (placedL n rs)).length ≤ 400 := Nat.le_trans (lie_len _ _) hlr
    have nn : none ∉ placedL n (lieL rs (placedL n rs)) := by rw [lie_placed]; exact none_filter_some
    refine ⟨.int n, rfl, .ref D, rfl, _, _, rfl, ChkW.ok n1 n2 (.inl (sqL_of eD)) hll hbl fun H18 s18 => ⟨_, rfl, ?_⟩⟩
    rw [(good_iff hbl).mpr nn]
    have eD18 := s18 _ _ eD
    refine iteF ⟨.int n, rfl, .ref D, rfl, _, _, rfl, ChkW.ok n1 n2 (.inl (sqL_of eD18)) hll hbl fun h4 H19 nh4 s19 eh4 => ?_⟩
    have ehe19 := s19 _ _ (s18 _ _ ehe17)
    have eD19 := s19 _ _ eD18
    have et : takenL n (lieL rs (placedL n rs)) = takenL n ws := by
      rw [← taken_perm hrp hbr]
      unfold takenL
      rw [lie_placed, somes_filter]
    refine ⟨.ref he, rfl, neT_of (ho_ints (sqL_of eh4)) (ho_ints (sqL_of ehe19)) (by decide) ⟨_, rfl, ?_⟩⟩
    rw [decide_eq_false (fun z => z et)]
    refine iteF ⟨.int n, rfl, .ref D, rfl, _, _, rfl, ChkW.ok n1 n2 (.inl (sqL_of eD19)) hll hbl ⟨sqL_of eD19, fun H20 s20 => ?_⟩⟩
    refine ⟨.ref he, rfl, he, _, rfl, sqL_of (s20 _ _ ehe19), .ref D, rfl, D, _, rfl, sqL_of (s20 _ _ eD19), _, _, rfl, rfl, rfl, _, rfl, ?_⟩
    have e3 : (goneL (lieL rs (placedL n rs)) (placedL n (lieL rs (placedL n rs)))).sum = (takenL n ws).sum - (lieL rs (placedL n rs)).sum := by
      rw [gone_sum _ _ (placedL_len).symm, lie_all _ _ (placedL_len).symm nn, ← et]
      unfold takenL
      rw [sum_perm (sortI_perm (somes (placedL n (lieL rs (placedL n rs)))))]
    rw [e3]
    refine ite2 (fun c => ?_) (fun _ => ?_)
    · exfalso
      have c' : (!decide (V.int ((takenL n ws).sum - (lieL rs (placedL n rs)).sum) = V.int ((takenL n ws).sum - (lieL rs (placedL n rs)).sum))) = true := c
      rw [decide_eq_true rfl] at c'
      cases c'
    · exact ⟨((((s15.trans s16).trans s17).trans s18).trans s19).trans s20, _, _, rfl⟩
  · rintro σ H' ⟨s15, y7, y8, rfl⟩
    have ep15 := s15 _ _ ep14
    have ehe15 := s15 _ _ ehe14
    refine ⟨.int n, rfl, .ref p, rfl, 1, rfl, -1, rfl, p, _, rfl, sqL_of ep15, fun c nc => ?_⟩
    have ec : cutV (ws.map V.int) none (some (-1)) = ws.dropLast.map V.int := by rw [cut_last, List.map_dropLast]
    have ec2 : (upd H' c (.lst (cutV (ws.map V.int) none (some (-1))))) c = some (.lst (ws.dropLast.map V.int)) := by rw [upd_same, ec]
    have sc := same_new nc (o := .lst (cutV (ws.map V.int) none (some (-1))))
    have hbd : ∀ x ∈ ws.dropLast, 1 ≤ x ∧ x ≤ n := fun x hx => hb x ((List.dropLast_sublist ws).subset hx)
    refine ⟨_, _, rfl, ChkW.ok n1 n2 (.inl (sqL_of ec2)) (by rw [List.length_dropLast]; omega) hbd fun fe H16 nfe s16 efe => ?_⟩
    have ehe16 := s16 _ _ (sc _ _ ehe15)
    have tl1 : (takenL n ws).length = (somes (placedL n ws)).length := (sortI_perm _).length_eq
    have tl2 : (takenL n ws.dropLast).length = (somes (placedL n ws.dropLast)).length := (sortI_perm _).length_eq
    have key : (∀ x ∈ takenL n ws.dropLast, x ∈ takenL n ws) ∧ (takenL n ws).length ≤ (takenL n ws.dropLast).length + 1 := by
      by_cases hne : ws = []
      · subst hne
        exact ⟨fun x hx => hx, by show (takenL n []).length ≤ (takenL n []).length + 1; omega⟩
      · obtain ⟨o, ho⟩ := somes_last (n := n) hne
        refine ⟨fun x hx => taken_mem.mpr (by rw [ho]; exact List.mem_append_left _ (taken_mem.mp hx)), ?_⟩
        rw [tl1, tl2, ho, List.length_append]
        cases o <;> simp
    have fl : (takenL n ws.dropLast).length ≤ 1000 := by
      have := away_len (placedL n ws.dropLast)
      rw [placedL_len, List.length_dropLast] at this
      omega
    refine ⟨.ref fe, rfl, fe, rfl, ⟨_, sqL_of efe⟩, lc_pure (walk_list (K := K) (a := fe) (xs := (takenL n ws.dropLast).map V.int)) (by rw [List.length_map]; exact small1000 fl) (takenL n ws.dropLast) (by rw [List.length_map]) (fun x => !decide (x ∈ takenL n ws)) V.int (fun H' s' => s'.seq (sqL_of efe)) ?_ ?_⟩
    · intro j x v H5 H6 R hx2 s5 hy k
      obtain ⟨rfl, hv⟩ := hy
      rw [List.getElem?_map, hx2] at hv
      cases hv
      refine ⟨rfl, .int x, rfl, .ref he, rfl, he, _, rfl, .inl (sqL_of (s5 _ _ ehe16)), rfl, flat_ints, _, rfl, ?_⟩
      rw [if_pos rfl, inV_ints]
      have kk := k (.int x) _ (Same.refl _) fun _ => rfl
      cases e : (!decide (x ∈ takenL n ws)) with
      | true =>
        rw [e] at kk
        exact iteT ⟨.int x, rfl, kk⟩
      | false =>
        have kk := k .non _ (Same.refl _) fun z => by rw [e] at z; cases z
        rw [e] at kk
        exact iteF kk
    intro D H17 nD s17 eD
    have e0 : (takenL n ws.dropLast).filter (fun x => !decide (x ∈ takenL n ws)) = [] := List.filter_eq_nil_iff.mpr fun x hx => by simp [key.1 x hx]
    rw [e0] at eD
    refine ⟨Nat.zero_le _, fun z nz => eqT_of (a := ([] : List Int)) (b := []) (.lst (sqL_of (by rw [upd_ne (ne_of_none eD nz)]; exact eD)) .nil) (.lst (sqL_of upd_same) .nil) (by decide) ⟨_, rfl, iteT ?_⟩⟩
    have sz := s17.trans (same_new nz (o := .lst []))
    refine ⟨.ref fe, rfl, fe, _, rfl, .inl (sqL_of (sz _ _ efe)), .ref he, rfl, he, _, rfl, .inl (sqL_of (sz _ _ ehe16)), _, 1, rfl, rfl, _, _, rfl, rfl, ?_⟩
    have e4 : decide ((((takenL n ws).map V.int).length : Nat) - (1 : Int) ≤ (((takenL n ws.dropLast).map V.int).length : Nat)) = true := by
      rw [List.length_map, List.length_map]
      exact decide_eq_true (by have := key.2; omega)
    show Q (.bl (decide ((((takenL n ws).map V.int).length : Nat) - (1 : Int) ≤ (((takenL n ws.dropLast).map V.int).length : Nat)))) _
    rw [e4]
    exact q _

section
variable {P : Program} {w : World} {K : PySem.W.Frag} {mg : Str → Option Value} {base : Heap} {a : Ad}
def topS (i : Nat) : Stmt := PySem.Challenge.pw_berthrow_k03_whole_any_order.main.body.getD i (.Pass ⟨0, 0, 0, 0⟩)
structure Txt (K : PySem.W.Frag) (mg : Str → Option Value) (a : Ad) : Prop where
  t_0 : True
  b_int : mg "int" = none
  b_len : mg "len" = none
  b_list : mg "list" = none
  b_min : mg "min" = none
  b_range : mg "range" = none
  b_sorted : mg "sorted" = none
  b_sum : mg "sum" = none
  b_tuple : mg "tuple" = none
  b_type : mg "type" = none
  b_zip : mg "zip" = none
  c_MOST : ∃ u, mg "MOST" = some u ∧ RelV (.int 400) u
  e_NoQuay : ExF K mg "NoQuay" a.e_NoQuay
  e_NoWishes : ExF K mg "NoWishes" a.e_NoWishes
abbrev s_is_number : Stmt := topS 6
theorem sc_is_number : FnScope N_is_number ["thing"] (defScope s_is_number) := ⟨rfl, rfl, rfl, by decide +kernel, rfl, by decide +kernel, by decide +kernel⟩
theorem ok_is_number (D : DF K mg "is_number" s_is_number ["thing"] a.f_is_number) (T : Txt K mg a) : Cb P w K mg base CX0 1 "is_number" a.f_is_number ["thing"] (sp_is_number K a) := by
  obtain ⟨⟨fd, F, bb⟩, gg⟩ := D
  refine ⟨⟨fd, F.ok sc_is_number (fun vs H Q E h => len_is_number h) (fun cdv A outer s H vs Q E hr h => ⟨t_is_number K a, ?_, pu_is_number h⟩), bb⟩, gg, F.kp⟩
  exact (pss_one (ps_ret (pe_cmpR op_isTyB (pe_callTy call_type1 (by rfl) T.b_type (by decide +kernel) (pa_cons (pv 0) pa_nil)) (pe_bltn (by rfl) T.b_int (by decide +kernel) rfl) (nomark _))))

abbrev s_is_from_to : Stmt := topS 7
theorem sc_is_from_to : FnScope N_is_from_to ["low", "high", "thing"] (defScope s_is_from_to) := ⟨rfl, rfl, rfl, by decide +kernel, rfl, by decide +kernel, by decide +kernel⟩
theorem ok_is_from_to (D : DF K mg "is_from_to" s_is_from_to ["low", "high", "thing"] a.f_is_from_to) (T : Txt K mg a) (g_is_number : Cb P w K mg base CX0 1 "is_number" a.f_is_number ["thing"] (sp_is_number K a)) : Cb P w K mg base CX0 2 "is_from_to" a.f_is_from_to ["low", "high", "thing"] (sp_is_from_to K a) := by
  obtain ⟨⟨fd, F, bb⟩, gg⟩ := D
  refine ⟨⟨fd, F.ok sc_is_from_to (fun vs H Q E h => len_is_from_to h) (fun cdv A outer s H vs Q E hr h => ⟨t_is_from_to K a, ?_, pu_is_from_to h⟩), bb⟩, gg, F.kp⟩
  exact (pss_one (ps_ret (pe_and (pe_cb g_is_number (hr.mono (by decide)) (by rfl) pass0 (pa_cons (pv 2) pa_nil)) (pe_one (pe_chain op_le op_le (pv 0) (pv 2) (pv 1))))))

abbrev s_is_row : Stmt := topS 8
theorem sc_is_row : FnScope N_is_row ["thing"] (defScope s_is_row) := ⟨rfl, rfl, rfl, by decide +kernel, rfl, by decide +kernel, by decide +kernel⟩
theorem ok_is_row (D : DF K mg "is_row" s_is_row ["thing"] a.f_is_row) (T : Txt K mg a) : Cb P w K mg base CX0 1 "is_row" a.f_is_row ["thing"] (sp_is_row K a) := by
  obtain ⟨⟨fd, F, bb⟩, gg⟩ := D
  refine ⟨⟨fd, F.ok sc_is_row (fun vs H Q E h => len_is_row h) (fun cdv A outer s H vs Q E hr h => ⟨t_is_row K a, ?_, pu_is_row h⟩), bb⟩, gg, F.kp⟩
  exact (pss_one (ps_ret (pe_or (pe_cmpR op_isTyB (pe_callTy call_type1 (by rfl) T.b_type (by decide +kernel) (pa_cons (pv 0) pa_nil)) (pe_bltn (by rfl) T.b_list (by decide +kernel) rfl) (nomark _)) (pe_one (pe_cmpR op_isTyB (pe_callTy call_type1 (by rfl) T.b_type (by decide +kernel) (pa_cons (pv 0) pa_nil)) (pe_bltn (by rfl) T.b_tuple (by decide +kernel) rfl) (nomark _))))))

abbrev s_check_quay : Stmt := topS 9
theorem sc_check_quay : FnScope N_check_quay ["berths"] (defScope s_check_quay) := ⟨rfl, rfl, rfl, by decide +kernel, rfl, by decide +kernel, by decide +kernel⟩
theorem ok_check_quay (D : DF K mg "check_quay" s_check_quay ["berths"] a.f_check_quay) (T : Txt K mg a) (g_is_from_to : Cb P w K mg base CX0 2 "is_from_to" a.f_is_from_to ["low", "high", "thing"] (sp_is_from_to K a)) : Cb P w K mg base (L2.CX P w) 3 "check_quay" a.f_check_quay ["berths"] (sp_check_quay K a) := by
  obtain ⟨⟨fd, F, bb⟩, gg⟩ := D
  refine ⟨⟨fd, F.okX sc_check_quay (fun vs H Q E h => len_check_quay h) (fun cdv A outer s H vs Q E hr h => ⟨t_check_quay K a E, ?_, pu_check_quay h⟩), bb⟩, gg, F.kp⟩
  exact (pss_one (ps_if (pt_not (pt_val (pe_cb g_is_from_to (hr.mono (by decide)) (by rfl) pass0 (pa_cons pe_int (pa_cons (pe_gl (by rfl) T.c_MOST) (pa_cons (pv 0) pa_nil)))))) (pss_one (ps_raise rfl (takes_of rfl rfl rfl rfl) (pmk_own PySem.F.excBase_ValueError T.e_NoQuay.x T.e_NoQuay.g T.e_NoQuay.k (raises_own T.e_NoQuay.b T.e_NoQuay.t) (by exact rfl)))) pss_nil))

abbrev s_check_wishes : Stmt := topS 10
theorem sc_check_wishes : FnScope N_check_wishes ["berths", "wishes"] (defScope s_check_wishes) := ⟨rfl, rfl, rfl, by decide +kernel, rfl, by decide +kernel, by decide +kernel⟩
theorem ok_check_wishes (D : DF K mg "check_wishes" s_check_wishes ["berths", "wishes"] a.f_check_wishes) (T : Txt K mg a) (g_is_from_to : Cb P w K mg base CX0 2 "is_from_to" a.f_is_from_to ["low", "high", "thing"] (sp_is_from_to K a)) (g_is_row : Cb P w K mg base CX0 1 "is_row" a.f_is_row ["thing"] (sp_is_row K a)) (g_check_quay : Cb P w K mg base (L2.CX P w) 3 "check_quay" a.f_check_quay ["berths"] (sp_check_quay K a)) : Cb P w K mg base (L2.CX P w) 4 "check_wishes" a.f_check_wishes ["berths", "wishes"] (sp_check_wishes K a) := by
  obtain ⟨⟨fd, F, bb⟩, gg⟩ := D
  refine ⟨⟨fd, F.okX sc_check_wishes (fun vs H Q E h => len_check_wishes h) (fun cdv A outer s H vs Q E hr h => ⟨t_check_wishes K a E, ?_, pu_check_wishes h⟩), bb⟩, gg, F.kp⟩
  exact (pss_cons (ps_expr (pe_cb g_check_quay (hr.mono (by decide)) (by rfl) (passes_call (takes_of rfl rfl rfl rfl) (fun _ _ _ _ h => h)) (pa_cons (pv 0) pa_nil)))
    (pss_cons (ps_if (pt_not (pt_val (pe_cb g_is_row (hr.mono (by decide)) (by rfl) pass0 (pa_cons (pv 1) pa_nil)))) (pss_one (ps_raise rfl (takes_of rfl rfl rfl rfl) (pmk_own PySem.F.excBase_ValueError T.e_NoWishes.x T.e_NoWishes.g T.e_NoWishes.k (raises_own T.e_NoWishes.b T.e_NoWishes.t) (by exact rfl)))) pss_nil)
    (pss_cons (ps_if (pt_cmpR op_gt (pe_callB call_len_seq (by rfl) T.b_len (by decide +kernel) (pa_cons (pv 1) pa_nil)) (pe_gl (by rfl) T.c_MOST) (nomark _)) (pss_one (ps_raise rfl (takes_of rfl rfl rfl rfl) (pmk_own PySem.F.excBase_ValueError T.e_NoWishes.x T.e_NoWishes.g T.e_NoWishes.k (raises_own T.e_NoWishes.b T.e_NoWishes.t) (by exact rfl)))) pss_nil)
    (pss_one (ps_for (passes_of rfl) rfl (pi_seq (pv 1)) (pg_name (i := 2) sc_check_wishes.nd rfl (by first | exact Or.inl rfl | exact Or.inr rfl))
    (pss_one (ps_if (pt_not (pt_val (pe_cb g_is_from_to (hr.mono (by decide)) (by rfl) pass0 (pa_cons pe_int (pa_cons (pv 0) (pa_cons (pv 2) pa_nil)))))) (pss_one (ps_raise rfl (takes_of rfl rfl rfl rfl) (pmk_own PySem.F.excBase_ValueError T.e_NoWishes.x T.e_NoWishes.g T.e_NoWishes.k (raises_own T.e_NoWishes.b T.e_NoWishes.t) (by exact rfl)))) pss_nil)))))))

abbrev s_first_free : Stmt := topS 12
theorem sc_first_free : FnScope N_first_free ["held", "wish"] (defScope s_first_free) := ⟨rfl, rfl, rfl, by decide +kernel, rfl, by decide +kernel, by decide +kernel⟩
theorem ok_first_free (D : DF K mg "first_free" s_first_free ["held", "wish"] a.f_first_free) (T : Txt K mg a) : Cb P w K mg base CX0 1 "first_free" a.f_first_free ["held", "wish"] (sp_first_free K a) := by
  obtain ⟨⟨fd, F, bb⟩, gg⟩ := D
  refine ⟨⟨fd, F.ok sc_first_free (fun vs H Q E h => len_first_free h) (fun cdv A outer s H vs Q E hr h => ⟨t_first_free K a, ?_, pu_first_free h⟩), bb⟩, gg, F.kp⟩
  exact (pss_cons (ps_for PassesOwn.never rfl (pi_range2 (by rfl) T.b_range (pa_cons (pv 1) (pa_cons (pe_callB call_len_seq (by rfl) T.b_len (by decide +kernel) (pa_cons (pv 0) pa_nil)) pa_nil))) (pg_name (i := 2) sc_first_free.nd rfl (by first | exact Or.inl rfl | exact Or.inr rfl))
    (pss_one (ps_if (pt_not (pt_val (pe_ix ix_list (pv 0) (pv 2) (fun _ _ => rfl)))) (pss_one (ps_ret (pv 2))) pss_nil)))
    (pss_one (ps_ret pe_non)))

abbrev s_placed : Stmt := topS 13
theorem sc_placed : FnScope N_placed ["berths", "wishes"] (defScope s_placed) := ⟨rfl, rfl, rfl, by decide +kernel, rfl, by decide +kernel, by decide +kernel⟩
theorem ok_placed (D : DF K mg "placed" s_placed ["berths", "wishes"] a.f_placed) (T : Txt K mg a) (g_check_wishes : Cb P w K mg base (L2.CX P w) 4 "check_wishes" a.f_check_wishes ["berths", "wishes"] (sp_check_wishes K a)) (g_first_free : Cb P w K mg base CX0 1 "first_free" a.f_first_free ["held", "wish"] (sp_first_free K a)) : Cb P w K mg base (L2.CX P w) 5 "placed" a.f_placed ["berths", "wishes"] (sp_placed K a) := by
  obtain ⟨⟨fd, F, bb⟩, gg⟩ := D
  refine ⟨⟨fd, F.okX sc_placed (fun vs H Q E h => len_placed h) (fun cdv A outer s H vs Q E hr h => ⟨t_placed K a E, ?_, pu_placed h⟩), bb⟩, gg, F.kp⟩
  exact (pss_cons (ps_expr (pe_cb g_check_wishes (hr.mono (by decide)) (by rfl) (passes_call (takes_of rfl rfl rfl rfl) (fun _ _ _ _ h => h)) (pa_cons (pv 0) (pa_cons (pv 1) pa_nil))))
    (pss_cons (ps_set (i := 2) sc_placed.nd rfl (by first | exact Or.inl rfl | exact Or.inr rfl) (pe_op op_rep (pe_lst (pa_cons pe_bl pa_nil)) (pe_op op_add (pv 0) pe_int)))
    (pss_cons (ps_set (i := 3) sc_placed.nd rfl (by first | exact Or.inl rfl | exact Or.inr rfl) (pe_lst pa_nil))
    (pss_cons (ps_for (passes_of rfl) rfl (pi_seq (pv 1)) (pg_name (i := 4) sc_placed.nd rfl (by first | exact Or.inl rfl | exact Or.inr rfl))
    (pss_cons (ps_set (i := 5) sc_placed.nd rfl (by first | exact Or.inl rfl | exact Or.inr rfl) (pe_cb g_first_free (hr.mono (by decide)) (by rfl) pass0 (pa_cons (pv 2) (pa_cons (pv 4) pa_nil))))
    (pss_cons (ps_if (pt_cmp (pc_notN (pv 5)) rfl) (pss_one (ps_asg pe_bl (pg_sub (pv 2) (pv 5) set_list))) pss_nil)
    (pss_one (ps_expr (pe_bm PySem.F.plainAttrs_list PySem.F.slot_list_append PySem.F.type_list_append mt_append (pv 3) (pa_cons (pv 5) pa_nil)))))))
    (pss_one (ps_ret (pv 3)))))))

abbrev s_taken : Stmt := topS 14
theorem sc_taken : FnScope N_taken ["berths", "wishes"] (defScope s_taken) := ⟨rfl, rfl, rfl, by decide +kernel, rfl, by decide +kernel, by decide +kernel⟩
theorem ok_taken (D : DF K mg "taken" s_taken ["berths", "wishes"] a.f_taken) (T : Txt K mg a) (g_placed : Cb P w K mg base (L2.CX P w) 5 "placed" a.f_placed ["berths", "wishes"] (sp_placed K a)) : Cb P w K mg base (L2.CX P w) 6 "taken" a.f_taken ["berths", "wishes"] (sp_taken K a) := by
  obtain ⟨⟨fd, F, bb⟩, gg⟩ := D
  refine ⟨⟨fd, F.okX sc_taken (fun vs H Q E h => len_taken h) (fun cdv A outer s H vs Q E hr h => ⟨t_taken K a E, ?_, pu_taken h⟩), bb⟩, gg, F.kp⟩
  exact (pss_one (ps_ret (pe_callB cr_sortedI (by rfl) T.b_sorted (by decide +kernel) (pa_cons (pe_lc (own := [("berth", 2)]) rfl sc_taken.nd (pi_list (pe_cb g_placed (hr.mono (by decide)) (by rfl) (passes_call (takes_of rfl rfl rfl rfl) (fun _ _ _ _ h => h)) (pa_cons (pv 0) (pa_cons (pv 1) pa_nil)))) (blkOk_by (N := N_taken) (sc := defScope s_taken) (by decide +kernel)) (fun _ _ _ _ _ => (pg_name (i := 2) sc_taken.nd rfl (by first | exact Or.inl rfl | exact Or.inr rfl))) (fun _ _ _ _ _ => (pts_one (pt_cmp (pc_notN (pv 2)) rfl))) (fun _ _ _ _ _ => (pv 2))) pa_nil))))

abbrev s_gone_on : Stmt := topS 15
theorem sc_gone_on : FnScope N_gone_on ["berths", "wishes"] (defScope s_gone_on) := ⟨rfl, rfl, rfl, by decide +kernel, rfl, by decide +kernel, by decide +kernel⟩
theorem ok_gone_on (D : DF K mg "gone_on" s_gone_on ["berths", "wishes"] a.f_gone_on) (T : Txt K mg a) (g_placed : Cb P w K mg base (L2.CX P w) 5 "placed" a.f_placed ["berths", "wishes"] (sp_placed K a)) : Cb P w K mg base (L2.CX P w) 6 "gone_on" a.f_gone_on ["berths", "wishes"] (sp_gone_on K a) := by
  obtain ⟨⟨fd, F, bb⟩, gg⟩ := D
  refine ⟨⟨fd, F.okX sc_gone_on (fun vs H Q E h => len_gone_on h) (fun cdv A outer s H vs Q E hr h => ⟨t_gone_on K a E, ?_, pu_gone_on h⟩), bb⟩, gg, F.kp⟩
  exact (pss_cons (ps_set (i := 2) sc_gone_on.nd rfl (by first | exact Or.inl rfl | exact Or.inr rfl) (pe_cb g_placed (hr.mono (by decide)) (by rfl) (passes_call (takes_of rfl rfl rfl rfl) (fun _ _ _ _ h => h)) (pa_cons (pv 0) (pa_cons (pv 1) pa_nil))))
    (pss_one (ps_ret (pe_callB (cr_sum rfl) (by rfl) T.b_sum (by decide +kernel) (pa_cons (pe_lc (own := [("wish", 3), ("berth", 4)]) rfl sc_gone_on.nd (pi_zip (by rfl) T.b_zip (pa_cons (pv 1) (pa_cons (pv 2) pa_nil))) (blkOk_by (N := N_gone_on) (sc := defScope s_gone_on) (by decide +kernel)) (fun _ _ _ _ _ => (pg_tup rfl (pgs_cons (pg_name (i := 3) sc_gone_on.nd rfl (by first | exact Or.inl rfl | exact Or.inr rfl)) (pgs_cons (pg_name (i := 4) sc_gone_on.nd rfl (by first | exact Or.inl rfl | exact Or.inr rfl)) pgs_nil)))) (fun _ _ _ _ _ => (pts_one (pt_cmp (pc_notN (pv 4)) rfl))) (fun _ _ _ _ _ => (pe_op op_sub (pv 4) (pv 3)))) pa_nil)))))

abbrev s_crowded : Stmt := topS 17
theorem sc_crowded : FnScope N_crowded ["berths", "wishes"] (defScope s_crowded) := ⟨rfl, rfl, rfl, by decide +kernel, rfl, by decide +kernel, by decide +kernel⟩
theorem ok_crowded (D : DF K mg "crowded" s_crowded ["berths", "wishes"] a.f_crowded) (T : Txt K mg a) (g_check_wishes : Cb P w K mg base (L2.CX P w) 4 "check_wishes" a.f_check_wishes ["berths", "wishes"] (sp_check_wishes K a)) : Cb P w K mg base (L2.CX P w) 5 "crowded" a.f_crowded ["berths", "wishes"] (sp_crowded K a) := by
  obtain ⟨⟨fd, F, bb⟩, gg⟩ := D
  refine ⟨⟨fd, F.okX sc_crowded (fun vs H Q E h => len_crowded h) (fun cdv A outer s H vs Q E hr h => ⟨t_crowded K a E, ?_, pu_crowded h⟩), bb⟩, gg, F.kp⟩
  exact (pss_cons (ps_expr (pe_cb g_check_wishes (hr.mono (by decide)) (by rfl) (passes_call (takes_of rfl rfl rfl rfl) (fun _ _ _ _ h => h)) (pa_cons (pv 0) (pa_cons (pv 1) pa_nil))))
    (pss_cons (ps_set (i := 2) sc_crowded.nd rfl (by first | exact Or.inl rfl | exact Or.inr rfl) (pe_op op_rep (pe_lst (pa_cons pe_int pa_nil)) (pe_op op_add (pv 0) pe_int)))
    (pss_cons (ps_for (passes_of rfl) rfl (pi_seq (pv 1)) (pg_name (i := 3) sc_crowded.nd rfl (by first | exact Or.inl rfl | exact Or.inr rfl))
    (pss_one (ps_augS (pv 2) (pv 3) gt_list pe_int ip_add set_list)))
    (pss_cons (ps_set (i := 4) sc_crowded.nd rfl (by first | exact Or.inl rfl | exact Or.inr rfl) pe_int)
    (pss_cons (ps_for (passes_of rfl) rfl (pi_range3 (by rfl) T.b_range (pa_cons (pv 0) (pa_cons pe_int (pa_cons (pe_un un_neg pe_int) pa_nil)))) (pg_name (i := 5) sc_crowded.nd rfl (by first | exact Or.inl rfl | exact Or.inr rfl))
    (pss_cons (ps_aug (i := 4) sc_crowded.nd rfl (by first | exact Or.inl rfl | exact Or.inr rfl) (pe_ix ix_list (pv 2) (pv 5) (fun _ _ => rfl)) ip_add)
    (pss_one (ps_if (pt_cmpR op_gt (pv 4) (pe_op op_add (pe_op op_sub (pv 0) (pv 5)) pe_int) (nomark _)) (pss_one (ps_ret (pv 5))) pss_nil))))
    (pss_one (ps_ret pe_non)))))))

abbrev s_is_good : Stmt := topS 16
theorem sc_is_good : FnScope N_is_good ["berths", "wishes"] (defScope s_is_good) := ⟨rfl, rfl, rfl, by decide +kernel, rfl, by decide +kernel, by decide +kernel⟩
theorem ok_is_good (D : DF K mg "is_good" s_is_good ["berths", "wishes"] a.f_is_good) (T : Txt K mg a) (g_crowded : Cb P w K mg base (L2.CX P w) 5 "crowded" a.f_crowded ["berths", "wishes"] (sp_crowded K a)) : Cb P w K mg base (L2.CX P w) 6 "is_good" a.f_is_good ["berths", "wishes"] (sp_is_good K a) := by
  obtain ⟨⟨fd, F, bb⟩, gg⟩ := D
  refine ⟨⟨fd, F.okX sc_is_good (fun vs H Q E h => len_is_good h) (fun cdv A outer s H vs Q E hr h => ⟨t_is_good K a E, ?_, pu_is_good h⟩), bb⟩, gg, F.kp⟩
  exact (pss_one (ps_ret (pe_cmp (pc_isN (pe_cb g_crowded (hr.mono (by decide)) (by rfl) (passes_call (takes_of rfl rfl rfl rfl) (fun _ _ _ _ h => h)) (pa_cons (pv 0) (pa_cons (pv 1) pa_nil)))) rfl)))

abbrev s_l_cell_at : Stmt := topS 19
theorem sc_l_cell_at : FnScope N_l_cell_at ["_law_script", "_law_k"] (defScope s_l_cell_at) := ⟨rfl, rfl, rfl, by decide +kernel, rfl, by decide +kernel, by decide +kernel⟩
theorem ok_l_cell_at (D : DF K mg "_law_cell_at" s_l_cell_at ["_law_script", "_law_k"] a.f_l_cell_at) (T : Txt K mg a) : Cb P w K mg base CX0 1 "_law_cell_at" a.f_l_cell_at ["_law_script", "_law_k"] (sp_l_cell_at K) := by
  obtain ⟨⟨fd, F, bb⟩, gg⟩ := D
  refine ⟨⟨fd, F.ok sc_l_cell_at (fun vs H Q E h => len_l_cell_at h) (fun cdv A outer s H vs Q E hr h => ⟨t_l_cell_at K a, ?_, pu_l_cell_at h⟩), bb⟩, gg, F.kp⟩
  exact (pss_cons (ps_if (pt_cmpR op_lt (pv 1) (pe_callB call_len_seq (by rfl) T.b_len (by decide +kernel) (pa_cons (pv 0) pa_nil)) (nomark _)) (pss_one (ps_ret (pe_ix ix_list (pv 0) (pv 1) (fun _ _ => rfl)))) pss_nil)
    (pss_one (ps_ret pe_int)))

abbrev s_l_mix : Stmt := topS 20
theorem sc_l_mix : FnScope N_l_mix ["_law_state", "_law_cell"] (defScope s_l_mix) := ⟨rfl, rfl, rfl, by decide +kernel, rfl, by decide +kernel, by decide +kernel⟩
theorem ok_l_mix (D : DF K mg "_law_mix" s_l_mix ["_law_state", "_law_cell"] a.f_l_mix) (T : Txt K mg a) : Cb P w K mg base CX0 1 "_law_mix" a.f_l_mix ["_law_state", "_law_cell"] (sp_l_mix K) := by
  obtain ⟨⟨fd, F, bb⟩, gg⟩ := D
  refine ⟨⟨fd, F.ok sc_l_mix (fun vs H Q E h => len_l_mix h) (fun cdv A outer s H vs Q E hr h => ⟨t_l_mix K a, ?_, pu_l_mix h⟩), bb⟩, gg, F.kp⟩
  exact (pss_cons (ps_asg (pe_op op_mod (pe_op op_add (pe_op op_add (pe_op op_mul (pe_ix ix_list (pv 0) pe_int (fun _ _ => rfl)) pe_int) (pe_op op_mul (pv 1) pe_int)) pe_int) pe_int) (pg_sub (pv 0) pe_int set_list))
    (pss_one (ps_ret (pe_op op_fdiv (pe_op op_mod (pe_op op_mul (pe_ix ix_list (pv 0) pe_int (fun _ _ => rfl)) (pe_ix ix_list (pv 0) pe_int (fun _ _ => rfl))) pe_int) pe_int))))

abbrev s_l_quay : Stmt := topS 21
theorem sc_l_quay : FnScope N_l_quay ["_law_script"] (defScope s_l_quay) := ⟨rfl, rfl, rfl, by decide +kernel, rfl, by decide +kernel, by decide +kernel⟩
theorem ok_l_quay (D : DF K mg "_law_quay" s_l_quay ["_law_script"] a.f_l_quay) (T : Txt K mg a) (g_l_cell_at : Cb P w K mg base CX0 1 "_law_cell_at" a.f_l_cell_at ["_law_script", "_law_k"] (sp_l_cell_at K)) : Cb P w K mg base CX0 2 "_law_quay" a.f_l_quay ["_law_script"] (sp_l_quay K) := by
  obtain ⟨⟨fd, F, bb⟩, gg⟩ := D
  refine ⟨⟨fd, F.ok sc_l_quay (fun vs H Q E h => len_l_quay h) (fun cdv A outer s H vs Q E hr h => ⟨t_l_quay K a, ?_, pu_l_quay h⟩), bb⟩, gg, F.kp⟩
  exact (pss_one (ps_ret (pe_op op_add pe_int (pe_op op_mod (pe_cb g_l_cell_at (hr.mono (by decide)) (by rfl) pass0 (pa_cons (pv 0) (pa_cons pe_int pa_nil))) (pe_ix ix_list (pe_lst (pa_cons pe_int (pa_cons pe_int (pa_cons pe_int pa_nil)))) (pe_op op_mod (pe_cb g_l_cell_at (hr.mono (by decide)) (by rfl) pass0 (pa_cons (pv 0) (pa_cons pe_int pa_nil))) pe_int) (fun _ _ => rfl))))))

abbrev s_l_wishes : Stmt := topS 22
theorem sc_l_wishes : FnScope N_l_wishes ["_law_script", "_law_berths", "_law_most"] (defScope s_l_wishes) := ⟨rfl, rfl, rfl, by decide +kernel, rfl, by decide +kernel, by decide +kernel⟩
theorem ok_l_wishes (D : DF K mg "_law_wishes" s_l_wishes ["_law_script", "_law_berths", "_law_most"] a.f_l_wishes) (T : Txt K mg a) (g_l_cell_at : Cb P w K mg base CX0 1 "_law_cell_at" a.f_l_cell_at ["_law_script", "_law_k"] (sp_l_cell_at K)) : Cb P w K mg base CX0 2 "_law_wishes" a.f_l_wishes ["_law_script", "_law_berths", "_law_most"] (sp_l_wishes K) := by
  obtain ⟨⟨fd, F, bb⟩, gg⟩ := D
  refine ⟨⟨fd, F.ok sc_l_wishes (fun vs H Q E h => len_l_wishes h) (fun cdv A outer s H vs Q E hr h => ⟨t_l_wishes K a, ?_, pu_l_wishes h⟩), bb⟩, gg, F.kp⟩
  exact (pss_cons (ps_set (i := 3) sc_l_wishes.nd rfl (by first | exact Or.inl rfl | exact Or.inr rfl) (pe_ix ix_list (pe_lst (pa_cons (pv 1) (pa_cons (pe_op op_add pe_int (pe_op op_fdiv (pv 1) pe_int)) (pa_cons (pe_callB (call_min2 rfl) (by rfl) T.b_min (by decide +kernel) (pa_cons (pv 1) (pa_cons pe_int pa_nil))) (pa_cons (pv 1) pa_nil))))) (pe_op op_mod (pe_op op_fdiv (pe_cb g_l_cell_at (hr.mono (by decide)) (by rfl) pass0 (pa_cons (pv 0) (pa_cons pe_int pa_nil))) pe_int) pe_int) (fun _ _ => rfl)))
    (pss_cons (ps_set (i := 4) sc_l_wishes.nd rfl (by first | exact Or.inl rfl | exact Or.inr rfl) (pe_op op_mod (pe_op op_fdiv (pe_cb g_l_cell_at (hr.mono (by decide)) (by rfl) pass0 (pa_cons (pv 0) (pa_cons pe_int pa_nil))) pe_int) (pv 1)))
    (pss_cons (ps_set (i := 5) sc_l_wishes.nd rfl (by first | exact Or.inl rfl | exact Or.inr rfl) (pe_lst pa_nil))
    (pss_cons (ps_for PassesOwn.never rfl (pi_list (pe_slice sl_list (pv 0) (po_some pe_int) po_none)) (pg_name (i := 6) sc_l_wishes.nd rfl (by first | exact Or.inl rfl | exact Or.inr rfl))
    (pss_one (ps_if (pt_cmpR op_lt (pe_callB call_len_seq (by rfl) T.b_len (by decide +kernel) (pa_cons (pv 5) pa_nil)) (pv 2) (nomark _)) (pss_one (ps_expr (pe_bm PySem.F.plainAttrs_list PySem.F.slot_list_append PySem.F.type_list_append mt_append (pv 5) (pa_cons (pe_op op_add (pe_op op_mod (pe_op op_add (pe_op op_mod (pv 6) (pv 3)) (pv 4)) (pv 1)) pe_int) pa_nil)))) pss_nil)))
    (pss_one (ps_ret (pv 5)))))))

abbrev s_l_order : Stmt := topS 23
theorem sc_l_order : FnScope N_l_order ["_law_script", "_law_many", "_law_first"] (defScope s_l_order) := ⟨rfl, rfl, rfl, by decide +kernel, rfl, by decide +kernel, by decide +kernel⟩
theorem ok_l_order (D : DF K mg "_law_order" s_l_order ["_law_script", "_law_many", "_law_first"] a.f_l_order) (T : Txt K mg a) (g_l_cell_at : Cb P w K mg base CX0 1 "_law_cell_at" a.f_l_cell_at ["_law_script", "_law_k"] (sp_l_cell_at K)) (g_l_mix : Cb P w K mg base CX0 1 "_law_mix" a.f_l_mix ["_law_state", "_law_cell"] (sp_l_mix K)) : Cb P w K mg base CX0 2 "_law_order" a.f_l_order ["_law_script", "_law_many", "_law_first"] (sp_l_order K) := by
  obtain ⟨⟨fd, F, bb⟩, gg⟩ := D
  refine ⟨⟨fd, F.ok sc_l_order (fun vs H Q E h => len_l_order h) (fun cdv A outer s H vs Q E hr h => ⟨t_l_order K a, ?_, pu_l_order h⟩), bb⟩, gg, F.kp⟩
  exact (pss_cons (ps_set (i := 3) sc_l_order.nd rfl (by first | exact Or.inl rfl | exact Or.inr rfl) (pe_lst (pa_cons (pe_op op_add pe_int (pe_op op_mod (pe_cb g_l_cell_at (hr.mono (by decide)) (by rfl) pass0 (pa_cons (pv 0) (pa_cons (pv 2) pa_nil))) pe_int)) pa_nil)))
    (pss_cons (ps_set (i := 4) sc_l_order.nd rfl (by first | exact Or.inl rfl | exact Or.inr rfl) (pe_listRg rfl (by rfl) T.b_list (prg_1 (by rfl) T.b_range (pv 1))))
    (pss_cons (ps_set (i := 5) sc_l_order.nd rfl (by first | exact Or.inl rfl | exact Or.inr rfl) (pe_lst pa_nil))
    (pss_cons (ps_for PassesOwn.never rfl (pi_range1 (by rfl) T.b_range (pa_cons (pv 1) pa_nil)) (pg_name (i := 6) sc_l_order.nd rfl (by first | exact Or.inl rfl | exact Or.inr rfl))
    (pss_one (ps_expr (pe_bm PySem.F.plainAttrs_list PySem.F.slot_list_append PySem.F.type_list_append mt_append (pv 5) (pa_cons (pe_bm PySem.F.plainAttrs_list PySem.F.slot_list_pop PySem.F.type_list_pop mt_popAt (pv 4) (pa_cons (pe_op op_mod (pe_cb g_l_mix (hr.mono (by decide)) (by rfl) pass0 (pa_cons (pv 3) (pa_cons (pe_cb g_l_cell_at (hr.mono (by decide)) (by rfl) pass0 (pa_cons (pv 0) (pa_cons (pe_op op_add (pe_op op_add (pv 2) pe_int) (pe_op op_mod (pv 6) pe_int)) pa_nil))) pa_nil))) (pe_callB call_len_seq (by rfl) T.b_len (by decide +kernel) (pa_cons (pv 4) pa_nil))) pa_nil)) pa_nil)))))
    (pss_one (ps_ret (pv 5)))))))

abbrev s_law : Stmt := topS 24
theorem sc_law : FnScope N_law ["_law_script"] (defScope s_law) := ⟨rfl, rfl, rfl, by decide +kernel, rfl, by decide +kernel, by decide +kernel⟩
theorem ok_law {f : Addr} {fd : FuncData} (F : Fun K "law" "law" s_law f fd) (T : Txt K mg a) (g_placed : Cb P w K mg base (L2.CX P w) 5 "placed" a.f_placed ["berths", "wishes"] (sp_placed K a)) (g_taken : Cb P w K mg base (L2.CX P w) 6 "taken" a.f_taken ["berths", "wishes"] (sp_taken K a)) (g_gone_on : Cb P w K mg base (L2.CX P w) 6 "gone_on" a.f_gone_on ["berths", "wishes"] (sp_gone_on K a)) (g_is_good : Cb P w K mg base (L2.CX P w) 6 "is_good" a.f_is_good ["berths", "wishes"] (sp_is_good K a)) (g_l_quay : Cb P w K mg base CX0 2 "_law_quay" a.f_l_quay ["_law_script"] (sp_l_quay K)) (g_l_wishes : Cb P w K mg base CX0 2 "_law_wishes" a.f_l_wishes ["_law_script", "_law_berths", "_law_most"] (sp_l_wishes K)) (g_l_order : Cb P w K mg base CX0 2 "_law_order" a.f_l_order ["_law_script", "_law_many", "_law_first"] (sp_l_order K)) : FnOk P w K mg base CX0 7 f fd ["_law_script"] (sp_law K) := by
  refine F.ok sc_law (fun vs H Q E h => len_law h) (fun cdv A outer s H vs Q E hr h => ⟨t_law K a, ?_, pu_law h⟩)
  exact (pss_cons (ps_set (i := 1) sc_law.nd rfl (by first | exact Or.inl rfl | exact Or.inr rfl) (pe_cb g_l_quay (hr.mono (by decide)) (by rfl) pass0 (pa_cons (pv 0) pa_nil)))
    (pss_cons (ps_set (i := 2) sc_law.nd rfl (by first | exact Or.inl rfl | exact Or.inr rfl) (pe_cb g_l_wishes (hr.mono (by decide)) (by rfl) pass0 (pa_cons (pv 0) (pa_cons (pv 1) (pa_cons pe_int pa_nil)))))
    (pss_cons (ps_set (i := 3) sc_law.nd rfl (by first | exact Or.inl rfl | exact Or.inr rfl) (pe_cb g_l_order (hr.mono (by decide)) (by rfl) pass0 (pa_cons (pv 0) (pa_cons (pe_callB call_len_seq (by rfl) T.b_len (by decide +kernel) (pa_cons (pv 2) pa_nil)) (pa_cons pe_int pa_nil)))))
    (pss_cons (ps_setLc (i := 4) (own := [("_law_ship", 10)]) rfl sc_law.nd rfl rfl (sw_true rfl rfl rfl (by decide +kernel)) (pi_list (pv 3)) (blkOk_by (N := N_law) (sc := defScope s_law) (by decide +kernel)) (fun _ _ _ _ _ => (pg_name (i := 10) sc_law.nd rfl (by first | exact Or.inl rfl | exact Or.inr rfl))) (fun _ _ _ _ _ => pts_nil) (fun _ _ _ _ _ => (pe_ix ix_list (pv 2) (pv 10) (fun _ _ => rfl))))
    (pss_cons (ps_set (i := 5) sc_law.nd rfl (by first | exact Or.inl rfl | exact Or.inr rfl) (pe_cb g_taken (hr.mono (by decide)) (by rfl) passL (pa_cons (pv 1) (pa_cons (pv 2) pa_nil))))
    (pss_cons (ps_if (PW.pt (pw_or (pt_cmpR (op_neT hr.units) (pe_cb g_taken (hr.mono (by decide)) (by rfl) passL (pa_cons (pv 1) (pa_cons (pv 4) pa_nil))) (pv 5) (nomark _)) (pw_or1 (pt_cmpR (op_neT hr.units) (pe_cb g_taken (hr.mono (by decide)) (by rfl) passL (pa_cons (pv 1) (pa_cons (pe_revL (pv 2)) pa_nil))) (pv 5) (nomark _))))) (pss_one (ps_ret pe_bl)) pss_nil)
    (pss_cons (ps_set (i := 6) sc_law.nd rfl (by first | exact Or.inl rfl | exact Or.inr rfl) (pe_callB call_len_seq (by rfl) T.b_len (by decide +kernel) (pa_cons (pe_lc (own := [("_law_berth", 11)]) rfl sc_law.nd (pi_list (pe_cb g_placed (hr.mono (by decide)) (by rfl) passL (pa_cons (pv 1) (pa_cons (pv 2) pa_nil)))) (blkOk_by (N := N_law) (sc := defScope s_law) (by decide +kernel)) (fun _ _ _ _ _ => (pg_name (i := 11) sc_law.nd rfl (by first | exact Or.inl rfl | exact Or.inr rfl))) (fun _ _ _ _ _ => (pts_one (pt_cmp (pc_isN (pv 11)) rfl))) (fun _ _ _ _ _ => (pv 11))) pa_nil)))
    (pss_cons (ps_if (PW.pt (pw_or (pt_cmpR op_ne (pe_callB call_len_seq (by rfl) T.b_len (by decide +kernel) (pa_cons (pe_lc (own := [("_law_berth", 11)]) rfl sc_law.nd (pi_list (pe_cb g_placed (hr.mono (by decide)) (by rfl) passL (pa_cons (pv 1) (pa_cons (pv 4) pa_nil)))) (blkOk_by (N := N_law) (sc := defScope s_law) (by decide +kernel)) (fun _ _ _ _ _ => (pg_name (i := 11) sc_law.nd rfl (by first | exact Or.inl rfl | exact Or.inr rfl))) (fun _ _ _ _ _ => (pts_one (pt_cmp (pc_isN (pv 11)) rfl))) (fun _ _ _ _ _ => (pv 11))) pa_nil)) (pv 6) (nomark _)) (pw_or1 (pt_cmpR op_ne (pe_op op_add (pe_callB call_len_seq (by rfl) T.b_len (by decide +kernel) (pa_cons (pv 5) pa_nil)) (pv 6)) (pe_callB call_len_seq (by rfl) T.b_len (by decide +kernel) (pa_cons (pv 2) pa_nil)) (nomark _))))) (pss_one (ps_ret pe_bl)) pss_nil)
    (pss_cons (ps_if (pt_cmpR op_ne (pe_cb g_is_good (hr.mono (by decide)) (by rfl) passL (pa_cons (pv 1) (pa_cons (pv 2) pa_nil))) (pe_cb g_is_good (hr.mono (by decide)) (by rfl) passL (pa_cons (pv 1) (pa_cons (pv 4) pa_nil))) (nomark _)) (pss_one (ps_ret pe_bl)) pss_nil)
    (pss_cons (ps_if (PW.pt (pw_and (pt_cmpR op_eq (pv 6) pe_int (nomark _)) (pw_and1 (pt_cmpR op_ne (pe_cb g_gone_on (hr.mono (by decide)) (by rfl) passL (pa_cons (pv 1) (pa_cons (pv 2) pa_nil))) (pe_cb g_gone_on (hr.mono (by decide)) (by rfl) passL (pa_cons (pv 1) (pa_cons (pv 4) pa_nil))) (nomark _))))) (pss_one (ps_ret pe_bl)) pss_nil)
    (pss_cons (ps_for PassesOwn.never rfl (pi_list (pe_lst (pa_cons (pv 2) (pa_cons (pv 4) pa_nil)))) (pg_name (i := 7) sc_law.nd rfl (by first | exact Or.inl rfl | exact Or.inr rfl))
    (pss_cons (ps_setLc (i := 8) (own := [("_law_wish", 12), ("_law_berth", 11)]) rfl sc_law.nd rfl rfl (sw_true rfl rfl rfl (by decide +kernel)) (pi_zip (by rfl) T.b_zip (pa_cons (pv 7) (pa_cons (pe_cb g_placed (hr.mono (by decide)) (by rfl) passL (pa_cons (pv 1) (pa_cons (pv 7) pa_nil))) pa_nil))) (blkOk_by (N := N_law) (sc := defScope s_law) (by decide +kernel)) (fun _ _ _ _ _ => (pg_tup rfl (pgs_cons (pg_name (i := 12) sc_law.nd rfl (by first | exact Or.inl rfl | exact Or.inr rfl)) (pgs_cons (pg_name (i := 11) sc_law.nd rfl (by first | exact Or.inl rfl | exact Or.inr rfl)) pgs_nil)))) (fun _ _ _ _ _ => (pts_one (pt_cmp (pc_notN (pv 11)) rfl))) (fun _ _ _ _ _ => (pv 12)))
    (pss_one (ps_if (PW.pt (pw_or (pt_not (pt_val (pe_cb g_is_good (hr.mono (by decide)) (by rfl) passL (pa_cons (pv 1) (pa_cons (pv 8) pa_nil))))) (pw_or (pt_cmpR (op_neT hr.units) (pe_cb g_taken (hr.mono (by decide)) (by rfl) passL (pa_cons (pv 1) (pa_cons (pv 8) pa_nil))) (pv 5) (nomark _)) (pw_or1 (pt_cmpR op_ne (pe_cb g_gone_on (hr.mono (by decide)) (by rfl) passL (pa_cons (pv 1) (pa_cons (pv 8) pa_nil))) (pe_op op_sub (pe_callB (cr_sum rfl) (by rfl) T.b_sum (by decide +kernel) (pa_cons (pv 5) pa_nil)) (pe_callB (cr_sum rfl) (by rfl) T.b_sum (by decide +kernel) (pa_cons (pv 8) pa_nil))) (nomark _)))))) (pss_one (ps_ret pe_bl)) pss_nil))))
    (pss_cons (ps_set (i := 9) sc_law.nd rfl (by first | exact Or.inl rfl | exact Or.inr rfl) (pe_cb g_taken (hr.mono (by decide)) (by rfl) passL (pa_cons (pv 1) (pa_cons (pe_slice sl_list (pv 2) po_none (po_some (pe_un un_neg pe_int))) pa_nil))))
    (pss_one (ps_ret (pe_and (pe_cmpR (op_eqT hr.units) (pe_lc (own := [("_law_berth", 11)]) rfl sc_law.nd (pi_list (pv 9)) (blkOk_by (N := N_law) (sc := defScope s_law) (by decide +kernel)) (fun _ _ _ _ _ => (pg_name (i := 11) sc_law.nd rfl (by first | exact Or.inl rfl | exact Or.inr rfl))) (fun _ _ _ _ _ => (pts_one (pt_cmpR op_notIn_seq (pv 11) (pv 5) (by rfl)))) (fun _ _ _ _ _ => (pv 11))) (pe_lst pa_nil) (nomark _)) (pe_one (pe_cmpR op_ge (pe_callB call_len_seq (by rfl) T.b_len (by decide +kernel) (pa_cons (pv 9) pa_nil)) (pe_op op_sub (pe_callB call_len_seq (by rfl) T.b_len (by decide +kernel) (pa_cons (pv 5) pa_nil)) pe_int) (nomark _))))))))))))))))))
end
theorem all_mk {P : Program} {w : World} {K : PySem.W.Frag} {h : Heap} {mg : Str → Option Value} {fa : Addr} (X : K.In h) (G : h.Ns mainGlobals mg) (hfa : mg "law" = some (.ref fa))
    {f_is_number f_is_from_to f_is_row f_check_quay f_check_wishes f_first_free f_placed f_taken f_gone_on f_crowded f_is_good f_l_cell_at f_l_mix f_l_quay f_l_wishes f_l_order f_law e_NoQuay e_NoWishes : Addr}
    {od_is_number an_is_number od_is_from_to an_is_from_to od_is_row an_is_row od_check_quay an_check_quay od_check_wishes an_check_wishes od_first_free an_first_free od_placed an_placed od_taken an_taken od_gone_on an_gone_on od_crowded an_crowded od_is_good an_is_good od_l_cell_at an_l_cell_at od_l_mix an_l_mix od_l_quay an_l_quay od_l_wishes an_l_wishes od_l_order an_l_order od_law an_law : Option Addr}
    {sl_is_number sl_is_from_to sl_is_row sl_check_quay sl_check_wishes sl_first_free sl_placed sl_taken sl_gone_on sl_crowded sl_is_good sl_l_cell_at sl_l_mix sl_l_quay sl_l_wishes sl_l_order sl_law : Array (Option Value)}
    {oc_is_number kV_is_number dc_is_number pm_is_number cd_is_number ct_is_number oc_is_from_to kV_is_from_to dc_is_from_to pm_is_from_to cd_is_from_to ct_is_from_to oc_is_row kV_is_row dc_is_row pm_is_row cd_is_row ct_is_row oc_check_quay kV_check_quay dc_check_quay pm_check_quay cd_check_quay ct_check_quay oc_check_wishes kV_check_wishes dc_check_wishes pm_check_wishes cd_check_wishes ct_check_wishes oc_first_free kV_first_free dc_first_free pm_first_free cd_first_free ct_first_free oc_placed kV_placed dc_placed pm_placed cd_placed ct_placed oc_taken kV_taken dc_taken pm_taken cd_taken ct_taken oc_gone_on kV_gone_on dc_gone_on pm_gone_on cd_gone_on ct_gone_on oc_crowded kV_crowded dc_crowded pm_crowded cd_crowded ct_crowded oc_is_good kV_is_good dc_is_good pm_is_good cd_is_good ct_is_good oc_l_cell_at kV_l_cell_at dc_l_cell_at pm_l_cell_at cd_l_cell_at ct_l_cell_at oc_l_mix kV_l_mix dc_l_mix pm_l_mix cd_l_mix ct_l_mix oc_l_quay kV_l_quay dc_l_quay pm_l_quay cd_l_quay ct_l_quay oc_l_wishes kV_l_wishes dc_l_wishes pm_l_wishes cd_l_wishes ct_l_wishes oc_l_order kV_l_order dc_l_order pm_l_order cd_l_order ct_l_order oc_law kV_law dc_law pm_law cd_law ct_law : Value}
    {t_MOST : Tok}
    (a_is_number : PySem.W.nsIn K mainGlobals "is_number" = some (some (.ref f_is_number))) (l_is_number : K.lookup f_is_number = some ⟨oc_is_number, od_is_number, .func (PySem.W.fnOf "is_number" "is_number" (defArgs s_is_number) (defBody s_is_number) (defScope s_is_number) .none kV_is_number dc_is_number pm_is_number an_is_number cd_is_number ct_is_number), sl_is_number⟩) (cI_is_number : PySem.W.codeIn K cd_is_number "is_number" = true) (kI_is_number : PySem.W.keepIn K (.ref f_is_number) = true)
    (a_is_from_to : PySem.W.nsIn K mainGlobals "is_from_to" = some (some (.ref f_is_from_to))) (l_is_from_to : K.lookup f_is_from_to = some ⟨oc_is_from_to, od_is_from_to, .func (PySem.W.fnOf "is_from_to" "is_from_to" (defArgs s_is_from_to) (defBody s_is_from_to) (defScope s_is_from_to) .none kV_is_from_to dc_is_from_to pm_is_from_to an_is_from_to cd_is_from_to ct_is_from_to), sl_is_from_to⟩) (cI_is_from_to : PySem.W.codeIn K cd_is_from_to "is_from_to" = true) (kI_is_from_to : PySem.W.keepIn K (.ref f_is_from_to) = true)
    (a_is_row : PySem.W.nsIn K mainGlobals "is_row" = some (some (.ref f_is_row))) (l_is_row : K.lookup f_is_row = some ⟨oc_is_row, od_is_row, .func (PySem.W.fnOf "is_row" "is_row" (defArgs s_is_row) (defBody s_is_row) (defScope s_is_row) .none kV_is_row dc_is_row pm_is_row an_is_row cd_is_row ct_is_row), sl_is_row⟩) (cI_is_row : PySem.W.codeIn K cd_is_row "is_row" = true) (kI_is_row : PySem.W.keepIn K (.ref f_is_row) = true)
    (a_check_quay : PySem.W.nsIn K mainGlobals "check_quay" = some (some (.ref f_check_quay))) (l_check_quay : K.lookup f_check_quay = some ⟨oc_check_quay, od_check_quay, .func (PySem.W.fnOf "check_quay" "check_quay" (defArgs s_check_quay) (defBody s_check_quay) (defScope s_check_quay) .none kV_check_quay dc_check_quay pm_check_quay an_check_quay cd_check_quay ct_check_quay), sl_check_quay⟩) (cI_check_quay : PySem.W.codeIn K cd_check_quay "check_quay" = true) (kI_check_quay : PySem.W.keepIn K (.ref f_check_quay) = true)
    (a_check_wishes : PySem.W.nsIn K mainGlobals "check_wishes" = some (some (.ref f_check_wishes))) (l_check_wishes : K.lookup f_check_wishes = some ⟨oc_check_wishes, od_check_wishes, .func (PySem.W.fnOf "check_wishes" "check_wishes" (defArgs s_check_wishes) (defBody s_check_wishes) (defScope s_check_wishes) .none kV_check_wishes dc_check_wishes pm_check_wishes an_check_wishes cd_check_wishes ct_check_wishes), sl_check_wishes⟩) (cI_check_wishes : PySem.W.codeIn K cd_check_wishes "check_wishes" = true) (kI_check_wishes : PySem.W.keepIn K (.ref f_check_wishes) = true)
    (a_first_free : PySem.W.nsIn K mainGlobals "first_free" = some (some (.ref f_first_free))) (l_first_free : K.lookup f_first_free = some ⟨oc_first_free, od_first_free, .func (PySem.W.fnOf "first_free" "first_free" (defArgs s_first_free) (defBody s_first_free) (defScope s_first_free) .none kV_first_free dc_first_free pm_first_free an_first_free cd_first_free ct_first_free), sl_first_free⟩) (cI_first_free : PySem.W.codeIn K cd_first_free "first_free" = true) (kI_first_free : PySem.W.keepIn K (.ref f_first_free) = true)
    (a_placed : PySem.W.nsIn K mainGlobals "placed" = some (some (.ref f_placed))) (l_placed : K.lookup f_placed = some ⟨oc_placed, od_placed, .func (PySem.W.fnOf "placed" "placed" (defArgs s_placed) (defBody s_placed) (defScope s_placed) .none kV_placed dc_placed pm_placed an_placed cd_placed ct_placed), sl_placed⟩) (cI_placed : PySem.W.codeIn K cd_placed "placed" = true) (kI_placed : PySem.W.keepIn K (.ref f_placed) = true)
    (a_taken : PySem.W.nsIn K mainGlobals "taken" = some (some (.ref f_taken))) (l_taken : K.lookup f_taken = some ⟨oc_taken, od_taken, .func (PySem.W.fnOf "taken" "taken" (defArgs s_taken) (defBody s_taken) (defScope s_taken) .none kV_taken dc_taken pm_taken an_taken cd_taken ct_taken), sl_taken⟩) (cI_taken : PySem.W.codeIn K cd_taken "taken" = true) (kI_taken : PySem.W.keepIn K (.ref f_taken) = true)
    (a_gone_on : PySem.W.nsIn K mainGlobals "gone_on" = some (some (.ref f_gone_on))) (l_gone_on : K.lookup f_gone_on = some ⟨oc_gone_on, od_gone_on, .func (PySem.W.fnOf "gone_on" "gone_on" (defArgs s_gone_on) (defBody s_gone_on) (defScope s_gone_on) .none kV_gone_on dc_gone_on pm_gone_on an_gone_on cd_gone_on ct_gone_on), sl_gone_on⟩) (cI_gone_on : PySem.W.codeIn K cd_gone_on "gone_on" = true) (kI_gone_on : PySem.W.keepIn K (.ref f_gone_on) = true)
    (a_crowded : PySem.W.nsIn K mainGlobals "crowded" = some (some (.ref f_crowded))) (l_crowded : K.lookup f_crowded = some ⟨oc_crowded, od_crowded, .func (PySem.W.fnOf "crowded" "crowded" (defArgs s_crowded) (defBody s_crowded) (defScope s_crowded) .none kV_crowded dc_crowded pm_crowded an_crowded cd_crowded ct_crowded), sl_crowded⟩) (cI_crowded : PySem.W.codeIn K cd_crowded "crowded" = true) (kI_crowded : PySem.W.keepIn K (.ref f_crowded) = true)
    (a_is_good : PySem.W.nsIn K mainGlobals "is_good" = some (some (.ref f_is_good))) (l_is_good : K.lookup f_is_good = some ⟨oc_is_good, od_is_good, .func (PySem.W.fnOf "is_good" "is_good" (defArgs s_is_good) (defBody s_is_good) (defScope s_is_good) .none kV_is_good dc_is_good pm_is_good an_is_good cd_is_good ct_is_good), sl_is_good⟩) (cI_is_good : PySem.W.codeIn K cd_is_good "is_good" = true) (kI_is_good : PySem.W.keepIn K (.ref f_is_good) = true)
    (a_l_cell_at : PySem.W.nsIn K mainGlobals "_law_cell_at" = some (some (.ref f_l_cell_at))) (l_l_cell_at : K.lookup f_l_cell_at = some ⟨oc_l_cell_at, od_l_cell_at, .func (PySem.W.fnOf "_law_cell_at" "_law_cell_at" (defArgs s_l_cell_at) (defBody s_l_cell_at) (defScope s_l_cell_at) .none kV_l_cell_at dc_l_cell_at pm_l_cell_at an_l_cell_at cd_l_cell_at ct_l_cell_at), sl_l_cell_at⟩) (cI_l_cell_at : PySem.W.codeIn K cd_l_cell_at "_law_cell_at" = true) (kI_l_cell_at : PySem.W.keepIn K (.ref f_l_cell_at) = true)
    (a_l_mix : PySem.W.nsIn K mainGlobals "_law_mix" = some (some (.ref f_l_mix))) (l_l_mix : K.lookup f_l_mix = some ⟨oc_l_mix, od_l_mix, .func (PySem.W.fnOf "_law_mix" "_law_mix" (defArgs s_l_mix) (defBody s_l_mix) (defScope s_l_mix) .none kV_l_mix dc_l_mix pm_l_mix an_l_mix cd_l_mix ct_l_mix), sl_l_mix⟩) (cI_l_mix : PySem.W.codeIn K cd_l_mix "_law_mix" = true) (kI_l_mix : PySem.W.keepIn K (.ref f_l_mix) = true)
    (a_l_quay : PySem.W.nsIn K mainGlobals "_law_quay" = some (some (.ref f_l_quay))) (l_l_quay : K.lookup f_l_quay = some ⟨oc_l_quay, od_l_quay, .func (PySem.W.fnOf "_law_quay" "_law_quay" (defArgs s_l_quay) (defBody s_l_quay) (defScope s_l_quay) .none kV_l_quay dc_l_quay pm_l_quay an_l_quay cd_l_quay ct_l_quay), sl_l_quay⟩) (cI_l_quay : PySem.W.codeIn K cd_l_quay "_law_quay" = true) (kI_l_quay : PySem.W.keepIn K (.ref f_l_quay) = true)
    (a_l_wishes : PySem.W.nsIn K mainGlobals "_law_wishes" = some (some (.ref f_l_wishes))) (l_l_wishes : K.lookup f_l_wishes = some ⟨oc_l_wishes, od_l_wishes, .func (PySem.W.fnOf "_law_wishes" "_law_wishes" (defArgs s_l_wishes) (defBody s_l_wishes) (defScope s_l_wishes) .none kV_l_wishes dc_l_wishes pm_l_wishes an_l_wishes cd_l_wishes ct_l_wishes), sl_l_wishes⟩) (cI_l_wishes : PySem.W.codeIn K cd_l_wishes "_law_wishes" = true) (kI_l_wishes : PySem.W.keepIn K (.ref f_l_wishes) = true)
    (a_l_order : PySem.W.nsIn K mainGlobals "_law_order" = some (some (.ref f_l_order))) (l_l_order : K.lookup f_l_order = some ⟨oc_l_order, od_l_order, .func (PySem.W.fnOf "_law_order" "_law_order" (defArgs s_l_order) (defBody s_l_order) (defScope s_l_order) .none kV_l_order dc_l_order pm_l_order an_l_order cd_l_order ct_l_order), sl_l_order⟩) (cI_l_order : PySem.W.codeIn K cd_l_order "_law_order" = true) (kI_l_order : PySem.W.keepIn K (.ref f_l_order) = true)
    (a_law : PySem.W.nsIn K mainGlobals "law" = some (some (.ref f_law))) (l_law : K.lookup f_law = some ⟨oc_law, od_law, .func (PySem.W.fnOf "law" "law" (defArgs s_law) (defBody s_law) (defScope s_law) .none kV_law dc_law pm_law an_law cd_law ct_law), sl_law⟩) (cI_law : PySem.W.codeIn K cd_law "law" = true) (kI_law : PySem.W.keepIn K (.ref f_law) = true)
    (z_int : PySem.W.nsIn K mainGlobals "int" = some none)
    (z_len : PySem.W.nsIn K mainGlobals "len" = some none)
    (z_list : PySem.W.nsIn K mainGlobals "list" = some none)
    (z_min : PySem.W.nsIn K mainGlobals "min" = some none)
    (z_range : PySem.W.nsIn K mainGlobals "range" = some none)
    (z_sorted : PySem.W.nsIn K mainGlobals "sorted" = some none)
    (z_sum : PySem.W.nsIn K mainGlobals "sum" = some none)
    (z_tuple : PySem.W.nsIn K mainGlobals "tuple" = some none)
    (z_type : PySem.W.nsIn K mainGlobals "type" = some none)
    (z_zip : PySem.W.nsIn K mainGlobals "zip" = some none)
    (y_MOST : PySem.W.nsIn K mainGlobals "MOST" = some (some (.int 400 t_MOST)))
    (xg_NoQuay : PySem.W.nsIn K mainGlobals "NoQuay" = some (some (.ref e_NoQuay)))
    (xx_NoQuay : PySem.W.excIn K e_NoQuay [.type "ValueError", .type "Exception", .type "BaseException", .type "object"] "ValueError.__new__" = true)
    (xk_NoQuay : PySem.W.keepIn K (.ref e_NoQuay) = true)
    (xb_NoQuay : PySem.W.subIn K (.ref e_NoQuay) (.type "BaseException") = some true)
    (xt_NoQuay : PySem.W.typeIn K (.ref e_NoQuay) = some (.type "type"))
    (xg_NoWishes : PySem.W.nsIn K mainGlobals "NoWishes" = some (some (.ref e_NoWishes)))
    (xx_NoWishes : PySem.W.excIn K e_NoWishes [.type "ValueError", .type "Exception", .type "BaseException", .type "object"] "ValueError.__new__" = true)
    (xk_NoWishes : PySem.W.keepIn K (.ref e_NoWishes) = true)
    (xb_NoWishes : PySem.W.subIn K (.ref e_NoWishes) (.type "BaseException") = some true)
    (xt_NoWishes : PySem.W.typeIn K (.ref e_NoWishes) = some (.type "type"))
    : ∃ fd : FuncData, (∀ (s : Shared) (v : Value), BindsTo s fd ⟨[v], []⟩ [("_law_script", v)]) ∧ ∀ base : Heap, K.In base → base.Ns mainGlobals mg → FnOk P w K mg base CX0 7 fa fd ["_law_script"] (sp_law K) := by
  have e := hfa.symm.trans (PySem.W.mg_of X G a_law)
  cases e
  have T : Txt K mg ({ f_is_number := f_is_number, f_is_from_to := f_is_from_to, f_is_row := f_is_row, f_check_quay := f_check_quay, f_check_wishes := f_check_wishes, f_first_free := f_first_free, f_placed := f_placed, f_taken := f_taken, f_gone_on := f_gone_on, f_crowded := f_crowded, f_is_good := f_is_good, f_l_cell_at := f_l_cell_at, f_l_mix := f_l_mix, f_l_quay := f_l_quay, f_l_wishes := f_l_wishes, f_l_order := f_l_order, e_NoQuay := e_NoQuay, e_NoWishes := e_NoWishes } : Ad) := ⟨trivial,
    PySem.W.mg_none_of X G z_int,
    PySem.W.mg_none_of X G z_len,
    PySem.W.mg_none_of X G z_list,
    PySem.W.mg_none_of X G z_min,
    PySem.W.mg_none_of X G z_range,
    PySem.W.mg_none_of X G z_sorted,
    PySem.W.mg_none_of X G z_sum,
    PySem.W.mg_none_of X G z_tuple,
    PySem.W.mg_none_of X G z_type,
    PySem.W.mg_none_of X G z_zip,
    ⟨_, PySem.W.mg_of X G y_MOST, ⟨_, rfl⟩⟩,
    ⟨PySem.W.mg_of X G xg_NoQuay, xx_NoQuay, xk_NoQuay, xb_NoQuay, xt_NoQuay⟩,
    ⟨PySem.W.mg_of X G xg_NoWishes, xx_NoWishes, xk_NoWishes, xb_NoWishes, xt_NoWishes⟩⟩
  have D_is_number : DF K mg "is_number" s_is_number ["thing"] f_is_number := df_mk (fun_mk (st := s_is_number) l_is_number cI_is_number kI_is_number) (fun _ _ _ _ _ _ us hl => match us, hl with | [_], _ => rfl) (PySem.W.mg_of X G a_is_number)
  have D_is_from_to : DF K mg "is_from_to" s_is_from_to ["low", "high", "thing"] f_is_from_to := df_mk (fun_mk (st := s_is_from_to) l_is_from_to cI_is_from_to kI_is_from_to) (fun _ _ _ _ _ _ us hl => match us, hl with | [_, _, _], _ => rfl) (PySem.W.mg_of X G a_is_from_to)
  have D_is_row : DF K mg "is_row" s_is_row ["thing"] f_is_row := df_mk (fun_mk (st := s_is_row) l_is_row cI_is_row kI_is_row) (fun _ _ _ _ _ _ us hl => match us, hl with | [_], _ => rfl) (PySem.W.mg_of X G a_is_row)
  have D_check_quay : DF K mg "check_quay" s_check_quay ["berths"] f_check_quay := df_mk (fun_mk (st := s_check_quay) l_check_quay cI_check_quay kI_check_quay) (fun _ _ _ _ _ _ us hl => match us, hl with | [_], _ => rfl) (PySem.W.mg_of X G a_check_quay)
  have D_check_wishes : DF K mg "check_wishes" s_check_wishes ["berths", "wishes"] f_check_wishes := df_mk (fun_mk (st := s_check_wishes) l_check_wishes cI_check_wishes kI_check_wishes) (fun _ _ _ _ _ _ us hl => match us, hl with | [_, _], _ => rfl) (PySem.W.mg_of X G a_check_wishes)
  have D_first_free : DF K mg "first_free" s_first_free ["held", "wish"] f_first_free := df_mk (fun_mk (st := s_first_free) l_first_free cI_first_free kI_first_free) (fun _ _ _ _ _ _ us hl => match us, hl with | [_, _], _ => rfl) (PySem.W.mg_of X G a_first_free)
  have D_placed : DF K mg "placed" s_placed ["berths", "wishes"] f_placed := df_mk (fun_mk (st := s_placed) l_placed cI_placed kI_placed) (fun _ _ _ _ _ _ us hl => match us, hl with | [_, _], _ => rfl) (PySem.W.mg_of X G a_placed)
  have D_taken : DF K mg "taken" s_taken ["berths", "wishes"] f_taken := df_mk (fun_mk (st := s_taken) l_taken cI_taken kI_taken) (fun _ _ _ _ _ _ us hl => match us, hl with | [_, _], _ => rfl) (PySem.W.mg_of X G a_taken)
  have D_gone_on : DF K mg "gone_on" s_gone_on ["berths", "wishes"] f_gone_on := df_mk (fun_mk (st := s_gone_on) l_gone_on cI_gone_on kI_gone_on) (fun _ _ _ _ _ _ us hl => match us, hl with | [_, _], _ => rfl) (PySem.W.mg_of X G a_gone_on)
  have D_crowded : DF K mg "crowded" s_crowded ["berths", "wishes"] f_crowded := df_mk (fun_mk (st := s_crowded) l_crowded cI_crowded kI_crowded) (fun _ _ _ _ _ _ us hl => match us, hl with | [_, _], _ => rfl) (PySem.W.mg_of X G a_crowded)
  have D_is_good : DF K mg "is_good" s_is_good ["berths", "wishes"] f_is_good := df_mk (fun_mk (st := s_is_good) l_is_good cI_is_good kI_is_good) (fun _ _ _ _ _ _ us hl => match us, hl with | [_, _], _ => rfl) (PySem.W.mg_of X G a_is_good)
  have D_l_cell_at : DF K mg "_law_cell_at" s_l_cell_at ["_law_script", "_law_k"] f_l_cell_at := df_mk (fun_mk (st := s_l_cell_at) l_l_cell_at cI_l_cell_at kI_l_cell_at) (fun _ _ _ _ _ _ us hl => match us, hl with | [_, _], _ => rfl) (PySem.W.mg_of X G a_l_cell_at)
  have D_l_mix : DF K mg "_law_mix" s_l_mix ["_law_state", "_law_cell"] f_l_mix := df_mk (fun_mk (st := s_l_mix) l_l_mix cI_l_mix kI_l_mix) (fun _ _ _ _ _ _ us hl => match us, hl with | [_, _], _ => rfl) (PySem.W.mg_of X G a_l_mix)
  have D_l_quay : DF K mg "_law_quay" s_l_quay ["_law_script"] f_l_quay := df_mk (fun_mk (st := s_l_quay) l_l_quay cI_l_quay kI_l_quay) (fun _ _ _ _ _ _ us hl => match us, hl with | [_], _ => rfl) (PySem.W.mg_of X G a_l_quay)
  have D_l_wishes : DF K mg "_law_wishes" s_l_wishes ["_law_script", "_law_berths", "_law_most"] f_l_wishes := df_mk (fun_mk (st := s_l_wishes) l_l_wishes cI_l_wishes kI_l_wishes) (fun _ _ _ _ _ _ us hl => match us, hl with | [_, _, _], _ => rfl) (PySem.W.mg_of X G a_l_wishes)
  have D_l_order : DF K mg "_law_order" s_l_order ["_law_script", "_law_many", "_law_first"] f_l_order := df_mk (fun_mk (st := s_l_order) l_l_order cI_l_order kI_l_order) (fun _ _ _ _ _ _ us hl => match us, hl with | [_, _, _], _ => rfl) (PySem.W.mg_of X G a_l_order)
  refine ⟨PySem.W.fnOf "law" "law" (defArgs s_law) (defBody s_law) (defScope s_law) .none kV_law dc_law pm_law an_law cd_law ct_law, fun s v => .of_eq rfl, fun base _ _ => ?_⟩
  have g_is_number := ok_is_number (P := P) (w := w) (base := base) D_is_number T
  have g_is_from_to := ok_is_from_to (P := P) (w := w) (base := base) D_is_from_to T g_is_number
  have g_is_row := ok_is_row (P := P) (w := w) (base := base) D_is_row T
  have g_check_quay := ok_check_quay (P := P) (w := w) (base := base) D_check_quay T g_is_from_to
  have g_check_wishes := ok_check_wishes (P := P) (w := w) (base := base) D_check_wishes T g_is_from_to g_is_row g_check_quay
  have g_first_free := ok_first_free (P := P) (w := w) (base := base) D_first_free T
  have g_placed := ok_placed (P := P) (w := w) (base := base) D_placed T g_check_wishes g_first_free
  have g_taken := ok_taken (P := P) (w := w) (base := base) D_taken T g_placed
  have g_gone_on := ok_gone_on (P := P) (w := w) (base := base) D_gone_on T g_placed
  have g_crowded := ok_crowded (P := P) (w := w) (base := base) D_crowded T g_check_wishes
  have g_is_good := ok_is_good (P := P) (w := w) (base := base) D_is_good T g_crowded
  have g_l_cell_at := ok_l_cell_at (P := P) (w := w) (base := base) D_l_cell_at T
  have g_l_mix := ok_l_mix (P := P) (w := w) (base := base) D_l_mix T
  have g_l_quay := ok_l_quay (P := P) (w := w) (base := base) D_l_quay T g_l_cell_at
  have g_l_wishes := ok_l_wishes (P := P) (w := w) (base := base) D_l_wishes T g_l_cell_at
  have g_l_order := ok_l_order (P := P) (w := w) (base := base) D_l_order T g_l_cell_at g_l_mix
  exact ok_law (fun_mk (st := s_law) l_law cI_law kI_law) T g_placed g_taken g_gone_on g_is_good g_l_quay g_l_wishes g_l_order
end Br
open PySem PySem.W PyProof.Rows
set_option maxHeartbeats 0 in
theorem PySem.Challenge.cw_berthrow_k03_whole_any_order_holds : PySem.Challenge.rw_berthrow_k03_whole_any_order.Holds := by
  w_on; o_law; k_head; (case hw => w_witness2)
  k_fill
  refine L2.walk_of (l := PySem.Challenge.rw_berthrow_k03_whole_any_order) (n := 63) (k := 7) (x := "_law_script") (CX := fun _ => L2.CX0) (sp := fun w => Br.sp_law _) rfl (by decide) rfl ⟨rfl, by decide, by decide⟩ (fun w h Y => PySem.W.kIn_of Y) ?F (fun _ _ a ns hl _ hS => ⟨a, ns, rfl, hS, hl, fun _ => rfl⟩) (fun _ _ _ _ _ h => h)
  case F =>
    intro w mg fa h KX G hmg
    refine' Br.all_mk KX G hmg ?a_is_number ?l_is_number ?cI_is_number ?kI_is_number ?a_is_from_to ?l_is_from_to ?cI_is_from_to ?kI_is_from_to ?a_is_row ?l_is_row ?cI_is_row ?kI_is_row ?a_check_quay ?l_check_quay ?cI_check_quay ?kI_check_quay ?a_check_wishes ?l_check_wishes ?cI_check_wishes ?kI_check_wishes ?a_first_free ?l_first_free ?cI_first_free ?kI_first_free ?a_placed ?l_placed ?cI_placed ?kI_placed ?a_taken ?l_taken ?cI_taken ?kI_taken ?a_gone_on ?l_gone_on ?cI_gone_on ?kI_gone_on ?a_crowded ?l_crowded ?cI_crowded ?kI_crowded ?a_is_good ?l_is_good ?cI_is_good ?kI_is_good ?a_l_cell_at ?l_l_cell_at ?cI_l_cell_at ?kI_l_cell_at ?a_l_mix ?l_l_mix ?cI_l_mix ?kI_l_mix ?a_l_quay ?l_l_quay ?cI_l_quay ?kI_l_quay ?a_l_wishes ?l_l_wishes ?cI_l_wishes ?kI_l_wishes ?a_l_order ?l_l_order ?cI_l_order ?kI_l_order ?a_law ?l_law ?cI_law ?kI_law ?z_int ?z_len ?z_list ?z_min ?z_range ?z_sorted ?z_sum ?z_tuple ?z_type ?z_zip ?y_MOST ?xg_NoQuay ?xx_NoQuay ?xk_NoQuay ?xb_NoQuay ?xt_NoQuay ?xg_NoWishes ?xx_NoWishes ?xk_NoWishes ?xb_NoWishes ?xt_NoWishes
    (case a_is_number => k_is)
    (case l_is_number => k_is)
    (case cI_is_number => k_is)
    (case kI_is_number => k_is)
    (case a_is_from_to => k_is)
    (case l_is_from_to => k_is)
    (case cI_is_from_to => k_is)
    (case kI_is_from_to => k_is)
    (case a_is_row => k_is)
    (case l_is_row => k_is)
    (case cI_is_row => k_is)
    (case kI_is_row => k_is)
    (case a_check_quay => k_is)
    (case l_check_quay => k_is)
    (case cI_check_quay => k_is)
    (case kI_check_quay => k_is)
    (case a_check_wishes => k_is)
    (case l_check_wishes => k_is)
    (case cI_check_wishes => k_is)
    (case kI_check_wishes => k_is)
    (case a_first_free => k_is)
    (case l_first_free => k_is)
    (case cI_first_free => k_is)
    (case kI_first_free => k_is)
    (case a_placed => k_is)
    (case l_placed => k_is)
    (case cI_placed => k_is)
    (case kI_placed => k_is)
    (case a_taken => k_is)
    (case l_taken => k_is)
    (case cI_taken => k_is)
    (case kI_taken => k_is)
    (case a_gone_on => k_is)
    (case l_gone_on => k_is)
    (case cI_gone_on => k_is)
    (case kI_gone_on => k_is)
    (case a_crowded => k_is)
    (case l_crowded => k_is)
    (case cI_crowded => k_is)
    (case kI_crowded => k_is)
    (case a_is_good => k_is)
    (case l_is_good => k_is)
    (case cI_is_good => k_is)
    (case kI_is_good => k_is)
    (case a_l_cell_at => k_is)
    (case l_l_cell_at => k_is)
    (case cI_l_cell_at => k_is)
    (case kI_l_cell_at => k_is)
    (case a_l_mix => k_is)
    (case l_l_mix => k_is)
    (case cI_l_mix => k_is)
    (case kI_l_mix => k_is)
    (case a_l_quay => k_is)
    (case l_l_quay => k_is)
    (case cI_l_quay => k_is)
    (case kI_l_quay => k_is)
    (case a_l_wishes => k_is)
    (case l_l_wishes => k_is)
    (case cI_l_wishes => k_is)
    (case kI_l_wishes => k_is)
    (case a_l_order => k_is)
    (case l_l_order => k_is)
    (case cI_l_order => k_is)
    (case kI_l_order => k_is)
    (case a_law => k_is)
    (case l_law => k_is)
    (case cI_law => k_is)
    (case kI_law => k_is)
    (case z_int => k_is)
    (case z_len => k_is)
    (case z_list => k_is)
    (case z_min => k_is)
    (case z_range => k_is)
    (case z_sorted => k_is)
    (case z_sum => k_is)
    (case z_tuple => k_is)
    (case z_type => k_is)
    (case z_zip => k_is)
    (case y_MOST => k_is)
    (case xg_NoQuay => k_is)
    (case xx_NoQuay => k_exc)
    (case xk_NoQuay => k_is)
    (case xb_NoQuay => k_is)
    (case xt_NoQuay => k_is)
    (case xg_NoWishes => k_is)
    (case xx_NoWishes => k_exc)
    (case xk_NoWishes => k_is)
    (case xb_NoWishes => k_is)
    (case xt_NoWishes => k_is)
