import PyProof.Rows.All
import Wide.All
import OpenK.AllK
import Wide.FinOn
import HandS.ForMost
import HandS.ForExc
import HandS.More
import HandS.Walk
import HandS.SortInts
import HandS.SetFor
import HandS.Style
import HandS.RevRange
import HandS.TupAny
import HandS.TupMul
import HandS.IsInst
import HandS.Conv
import HandS.ExcIs
import HandS.ExcCtx
import HandS.SortKw
import HandS.Remove
import HandS.TupLe
import HandS.Zip
import HandS.Small
import KE.DatumOrd
import KE.DatumMore
import KE.KSortedM
import KE.KStateDown
import KE.KDictPairs
import PySem.Challenge.RW_berthrow_k08_whole_one_by_one
set_option Elab.async false
set_option linter.all false
set_option maxRecDepth 100000
set_option maxHeartbeats 4000000
namespace Br
open PySem PySem.Spec PyProof.Rows L2
/-! ### addresses of what the top has made, by name -/
structure Ad where
  f_is_number : Addr := 0
  f_is_from_to : Addr := 0
  f_is_row : Addr := 0
  f_check_quay : Addr := 0
  f_check_wishes : Addr := 0
  f_first_free : Addr := 0
  f_placed : Addr := 0
  f_taken : Addr := 0
  f_gone_on : Addr := 0
  f_is_good : Addr := 0
  f_crowded : Addr := 0
  f_placed_round : Addr := 0
  f_left_over : Addr := 0
  f_turned : Addr := 0
  f_turning : Addr := 0
  f_how_many : Addr := 0
  f_first_row : Addr := 0
  f_last_row : Addr := 0
  f_next_row : Addr := 0
  f_p_check_ships : Addr := 0
  f_l_cell_at : Addr := 0
  f_l_mix : Addr := 0
  f_l_quay : Addr := 0
  f_l_wishes : Addr := 0
  f_l_placed : Addr := 0
  f_l_whole : Addr := 0
  f_l_good : Addr := 0
  f_l_crowded : Addr := 0
  f_l_order : Addr := 0
  f_l_round : Addr := 0
  f_l_refused : Addr := 0
  f_l_due : Addr := 0
  f_l_caught : Addr := 0
  f_l_lowered : Addr := 0
  f_first_free_round : Addr := 0
  f_check_full_row : Addr := 0
  f_tree_of : Addr := 0
  f_wishes_of : Addr := 0
  f_p_check_knots : Addr := 0
  f_lies : Addr := 0
  f_reaches : Addr := 0
  f_rows_to : Addr := 0
  f_p_check_order : Addr := 0
  f_is_name : Addr := 0
  f_written : Addr := 0
  f_read : Addr := 0
  f_p_parts : Addr := 0
  f_p_pair : Addr := 0
  f_p_number : Addr := 0
  f_p_check_name : Addr := 0
  f_l_asked : Addr := 0
  f_l_word : Addr := 0
  f_l_told : Addr := 0
  f_l_odd : Addr := 0
  f_l_no_quay : Addr := 0
  f_l_full : Addr := 0
  f_l_tree : Addr := 0
  f_l_drawn : Addr := 0
  f_l_hangs : Addr := 0
  f_l_right : Addr := 0
  f_l_lying : Addr := 0
  f_l_words : Addr := 0
  f_l_done : Addr := 0
  f_l_stands : Addr := 0
  f_l_nearer : Addr := 0
  f_l_read : Addr := 0
  f_l_text : Addr := 0
  f_l_odd_text : Addr := 0
  f_law : Addr := 0
  e_BerthError : Addr := 0
  e_NoQuay : Addr := 0
  e_NoWishes : Addr := 0
  e_TooMany : Addr := 0
  e_NoCount : Addr := 0
  e_NoTree : Addr := 0
  e_NoOrder : Addr := 0
  e_NoName : Addr := 0
  e_Taken : Addr := 0
  e_NoWish : Addr := 0
  e_NoRoom : Addr := 0
  e_NoShip : Addr := 0
  e_NoText : Addr := 0
/-- a def as it stands behind the top -/
structure DF (K : PySem.W.Frag) (mg : Str → Option Value) (x : Str) (st : Stmt) (ps : List Str) (f : Addr) : Prop where
  ex : ∃ fd, Fun K x x st f fd ∧ Binds K fd ps []
  g : mg x = some (.ref f)
/-- a def that keeps its promise, ready to be called by its name -/
structure Cb (P : Program) (w : World) (K : PySem.W.Frag) (mg : Str → Option Value) (base : Heap) (CX : CXT) (k : Nat) (x : Str) (f : Addr) (ps : List Str) (sp : Sp) : Prop where
  ex : ∃ fd, FnOk P w K mg base CX k f fd ps sp ∧ Binds K fd ps []
  g : mg x = some (.ref f)
  kp : PySem.W.keepIn K (.ref f) = true
/-- an own exception's class -/
structure ExF (K : PySem.W.Frag) (mg : Str → Option Value) (x : Str) (c : Addr) : Prop where
  g : mg x = some (.ref c)
  x : PySem.W.excIn K c [.type "ValueError", .type "Exception", .type "BaseException", .type "object"] "ValueError.__new__" = true
  k : PySem.W.keepIn K (.ref c) = true
  b : PySem.W.subIn K (.ref c) (.type "BaseException") = some true
  t : PySem.W.typeIn K (.ref c) = some (.type "type")
theorem df_mk {K : PySem.W.Frag} {mg : Str → Option Value} {x : Str} {st : Stmt} {ps : List Str} {f : Addr} {fd : FuncData} (F : Fun K x x st f fd)
    (h : ∀ (kV doc pm : Value) (an : Option Addr) (cdv ct : Value) (us : List Value), us.length = ps.length → bindArgs (PySem.W.fnOf x x (defArgs st) (defBody st) (defScope st) .none kV doc pm an cdv ct) ⟨us, []⟩ = pure (ps.zip us)) (g : mg x = some (.ref f)) : DF K mg x st ps f :=
  ⟨⟨fd, F, F.binds h⟩, g⟩
/-! ### readings by short names -/
def rAddI : R2 := rI0 fun i j => .int (i + j)
def rSubI : R2 := rI0 fun i j => .int (i - j)
def rMulI : R2 := rI CMul fun i j => .int (i * j)
def rModI : R2 := rI (fun _ j => 0 < j) fun i j => .int (i % j)
def rDivI : R2 := rI CDiv fun i j => .int (i / j)
def rPowI : R2 := rI CPow fun i j => .int (i ^ j.toNat)
def rLtI : R2 := rI0 fun i j => .bl (decide (i < j))
def rLeI : R2 := rI0 fun i j => .bl (decide (i ≤ j))
def rGtI : R2 := rI0 fun i j => .bl (decide (j < i))
def rGeI : R2 := rI0 fun i j => .bl (decide (j ≤ i))
def rIsTyB : R2 := fun x y H Q => ∃ a b, x = .ty a ∧ y = .ty b ∧ Q (.bl (decide (a = b))) H
def rIsB1 : R2 := fun x y H Q => ∃ a b, x = .bl a ∧ y = .bl b ∧ Q (.bl (decide (a = b))) H
def rLenSq (K : PySem.W.Frag) : List V → Hp → VK → Prop := fun xs H Q => ∃ p ys, xs = [.ref p] ∧ (SqL K H p ys ∨ SqT K H p ys) ∧ Q (.int ys.length) H
def rMin2 : List V → Hp → VK → Prop := fun xs H Q => ∃ i j, xs = [.int i, .int j] ∧ Q (.int (if j < i then j else i)) H
def rMax2 : List V → Hp → VK → Prop := fun xs H Q => ∃ i j, xs = [.int i, .int j] ∧ Q (.int (if j > i then j else i)) H
def rInt1 : List V → Hp → VK → Prop := fun xs H Q => (∃ i, xs = [.int i] ∧ Q (.int i) H) ∨ ∃ k, xs = [.bl k] ∧ Q (.int (if k then 1 else 0)) H
def rListOf (K : PySem.W.Frag) : List V → Hp → VK → Prop := fun xs H Q => ∃ p ys, xs = [.ref p] ∧ (SqL K H p ys ∨ SqT K H p ys) ∧ ∀ l, H l = none → Q (.ref l) (upd H l (.lst ys))
def rTupleOf (K : PySem.W.Frag) : List V → Hp → VK → Prop := fun xs H Q => ∃ p ys, xs = [.ref p] ∧ ((SqL K H p ys ∧ ∀ l, H l = none → Q (.ref l) (upd H l (.tup ys))) ∨ (SqT K H p ys ∧ Q (.ref p) H))
def ipAdd : TIp := ipI fun i j => i + j
def ipSub : TIp := ipI fun i j => i - j
def tTru (K : PySem.W.Frag) (te : TE) : TT := fun σ H Q => te σ H fun x H' => ∃ k, TruV K x H' k ∧ Q k H'
def tRaise (c : Addr) (E : XK) : TS := fun _ _ H => E (.ref c) none H
def iSeq (K : PySem.W.Frag) (tl : TE) : TI := fun σ H R => iList K tl σ H R ∨ iTup K tl σ H R
def SqA (K : PySem.W.Frag) (H : Hp) (a : Addr) (xs : List V) : Prop := SqL K H a xs ∨ SqT K H a xs
theorem item_of0 {ns : List Int} {i : Nat} {y : V} (hi : (ns.map V.int)[i]? = some y) : ∃ z, ns[i]? = some z ∧ y = V.int z := by
  rw [List.getElem?_map] at hi
  cases e : ns[i]? with
  | none => rw [e] at hi; cases hi
  | some z => rw [e] at hi; exact ⟨z, rfl, (Option.some.inj hi).symm⟩
/-! ### rules -/
section
variable {X : Cx}
theorem pe_gl {x : Str} {v : V} {pos : Pos} (hg : Gl X x) (h : ∃ u, X.mg x = some u ∧ RelV v u) (hd : (x == ("__debug__" : Str)) = false := by decide) : PE X (.Name x pos) (tC v) := by
  obtain ⟨u, hm, r⟩ := h
  exact pe_glob hg hm r hd
theorem pe_cb {CX : CXT} {k : Nat} {f : Addr} {ps : List Str} {sp : Sp} {E : XK} {x : Str} {p pos : Pos} {e : Expr} {es : List Expr} {t : TA} (G : Cb X.prog X.w X.K X.mg X.base CX k x f ps sp) (hr : Room k X.A) (hg : Gl X x) (hx : Passes CX X E) (ha : PA X (e :: es) t)
    (hdb : (x == ("__debug__" : Str)) = false := by decide) (he : starEach (e :: es) X.env = (false, eval e X.env) :: starEach es X.env := by rfl) (hpl : (backTo pos (starEach es X.env)).any (·.1) = false := by rfl) :
    PE X (.Call (.Name x p) (e :: es) [] pos) (tCall sp [] E t) := by
  obtain ⟨⟨fd, F, b⟩, g, kp⟩ := G
  exact pe_call F hr hg g kp b .nil hx ha hdb he hpl
theorem pe_cbS {CX : CXT} {k : Nat} {f : Addr} {ps : List Str} {sp : Sp} {E : L2.St → XK} {x : Str} {p pos : Pos} {e : Expr} {es : List Expr} {t : TA} (G : Cb X.prog X.w X.K X.mg X.base CX k x f ps sp) (hr : Room k X.A) (hg : Gl X x) (hx : ∀ σ, PassesAt CX X σ (E σ)) (ha : PA X (e :: es) t)
    (hdb : (x == ("__debug__" : Str)) = false := by decide) (he : starEach (e :: es) X.env = (false, eval e X.env) :: starEach es X.env := by rfl) (hpl : (backTo pos (starEach es X.env)).any (·.1) = false := by rfl) :
    PE X (.Call (.Name x p) (e :: es) [] pos) (tCallS sp E t) := by
  obtain ⟨⟨fd, F, b⟩, g, kp⟩ := G
  exact pe_callS F hr hg g kp b hx ha hdb he hpl
theorem pi_seq {tg l : Expr} {tl : TE} (hl : PE X l tl) : PI X tg l (iSeq X.K tl) :=
  ⟨fun pins s σ H R I h => h.elim (fun h => (pi_list hl).run pins s σ H R I h) (fun h => (pi_tup hl).run pins s σ H R I h)⟩
/-- xs[i], by values: for xs[i] += e -/
theorem gt_list : PGet X (rIxL X.K) := by
  intro pins s σ H x y v u Q I rx ry h
  obtain ⟨p, xs, i, z, rfl, rfl, hq, he, q⟩ := h
  cases rx
  obtain ⟨t, rfl⟩ := ry
  obtain ⟨its, r, pl, hz⟩ := I.list hq
  obtain ⟨j, h1, h2, h3, h4, h5⟩ := atI_get he
  obtain ⟨w, ew, rw'⟩ := r.get h2
  have hl := r.length
  have hn := line63
  have fin : EP X pins σ Q w s := ⟨z, H, I, rw', q⟩
  by_cases h0 : 0 ≤ i
  · have hj : i.toNat = j := by
      rw [seqIndex_of h0 h5] at h1
      exact Option.some.inj h1
    exact wpAny_getItem_list pl.isList h0 (by omega) (by rw [hj]; simpa using ew) fin
  · have hj : (i + (its.toArray.size : Int)).toNat = j := by
      rw [seqIndex_neg (by omega) h4] at h1
      rw [List.size_toArray, ← hl]
      exact Option.some.inj h1
    exact wpAny_getItem_list_neg pl.isList (by omega) (by rw [List.size_toArray] <;> omega) (by omega) (by rw [hj]; simpa using ew) fin
/-! ### min(xs, default=d), xs a list of whole numbers -/
theorem minOf_int : ∀ (ys : List Int) (y : Int), PySem.W.minOf y ys ∈ y :: ys ∧ ∀ z ∈ y :: ys, PySem.W.minOf y ys ≤ z
  | [], y => ⟨List.mem_singleton.mpr rfl, fun z hz => by rw [List.mem_singleton.mp hz]; exact Int.le_refl _⟩
  | x :: r, y => by
    have e : PySem.W.minOf y (x :: r) = PySem.W.minOf (if x < y then x else y) r := by
      show PySem.W.minOf (if (decide (x < y)) = true then x else y) r = _
      by_cases h : x < y <;> simp [h]
    obtain ⟨h1, h2⟩ := minOf_int r (if x < y then x else y)
    rw [e]
    refine ⟨?_, fun z hz => ?_⟩
    · rcases List.mem_cons.mp h1 with k | k
      · rw [k]
        by_cases h : x < y <;> simp [h]
      · simp [k]
    · have hc := h2 _ (List.mem_cons_self)
      rcases List.mem_cons.mp hz with k | k
      · subst k
        by_cases h : x < z
        · rw [if_pos h] at hc ⊢
          omega
        · rw [if_neg h] at hc ⊢
          exact hc
      · rcases List.mem_cons.mp k with k | k
        · subst k
          by_cases h : z < y
          · rw [if_pos h] at hc ⊢
            exact hc
          · rw [if_neg h] at hc ⊢
            omega
        · exact h2 z (List.mem_cons_of_mem _ k)
def rMinD (K : PySem.W.Frag) : List V → List V → Hp → VK → Prop := fun vs zs H Q => ∃ (p : Addr) (d : V) (ns : List Int), vs = [.ref p] ∧ zs = [d] ∧ SqL K H p (ns.map V.int) ∧
  (ns = [] → Q d H) ∧ ∀ m, m ∈ ns → (∀ y ∈ ns, m ≤ y) → Q (.int m) H
def tMinD (K : PySem.W.Frag) (ta td : TE) : TE := tCKw (rMinD K) (tCons ta tNil) (tCons td tNil)
theorem dp_ints {K : PySem.W.Frag} {H : Hp} : ∀ ns : List Int, DpAll K H (ns.map V.int) (ns.map PyData.int)
  | [] => .nil
  | n :: r => .cons (.int n) (dp_ints r)
theorem cr_minD (hc : X.calm = true) (hu : X.A.units + 64 < cLine) : CallRK X (.builtin "min") [Str.ofString "default"] (rMinD X.K) := by
  intro pins s σ H vs zs us ws Q I r rz h
  obtain ⟨p, d, ns, rfl, rfl, hs, q0, q1⟩ := h
  obtain ⟨w, rfl, rw'⟩ := vals1 rz
  obtain ⟨its, rv, hl, _⟩ := I.list hs
  rw [Vals.ref1 r]
  obtain ⟨as, ra⟩ := Dp.readsAll I (ns.map PyData.int) _ its (dp_ints ns) rv
  have HA : PySem.W.HoldAll s.heap its.toArray.toList ns := ⟨as, ra⟩
  refine PySem.W.min_list_datum_default (I.ok.hd hc) hl.isList HA (by show X.A.units + 1 + PySem.W.Datum.depth Int < cLine; have e : PySem.W.Datum.depth Int = 0 := rfl; rw [e]; omega) (fun e h' tk hk => ⟨d, H, I.kept hk, rw', q0 e⟩) fun y ys i v h' tk e hi hv hk => ?_
  subst e
  obtain ⟨as2, r2⟩ := hv
  have hi' : its[i]? = some v := by simpa using hi
  have hlen := rv.length
  have hlt : i < ((y :: ys).map V.int).length := by rw [hlen]; exact (List.getElem?_eq_some_iff.mp hi').1
  obtain ⟨u, hu1, hu2⟩ := rv.get (List.getElem?_eq_getElem hlt)
  rw [hi'] at hu1
  cases hu1
  obtain ⟨z, hz, ez⟩ := item_of0 (List.getElem?_eq_getElem hlt)
  rw [ez] at hu2
  obtain ⟨t, rfl⟩ := hu2
  have em : PySem.W.minOf y ys = z := by
    have r2' : Reads h' (.int z t) (.int (PySem.W.minOf y ys)) as2 := r2
    cases r2'
    rfl
  obtain ⟨m1, m2⟩ := minOf_int ys y
  rw [em] at m1 m2
  exact ⟨.int z, H, I.kept hk, ⟨_, rfl⟩, q1 z m1 m2⟩
theorem pe_minD {p pos kpos : Pos} {e d : Expr} {ta td : TE} (hc : X.calm = true) (hu : X.A.units + 64 < cLine) (hg : Gl X "min") (hm : X.mg "min" = none) (ha : PE X e ta) (hd : PE X d td)
    (he : backTo pos (starEach (e :: []) X.env) = (false, eval e X.env) :: backTo pos (starEach [] X.env) := by rfl) (hse : starEach (e :: []) X.env = (false, eval e X.env) :: starEach [] X.env := by rfl) (hpl : (backTo pos (starEach (e :: []) X.env)).any (·.1) = false := by rfl)
    (hall : (backToKw pos (keywordEach [⟨some (Str.ofString "default"), d, kpos⟩] X.env)).all (·.1.isSome) = true := by rfl) (hnone : (backToKw pos (keywordEach [⟨some (Str.ofString "default"), d, kpos⟩] X.env)).any (·.1.isNone) = false := by rfl)
    (hks : (backToKw pos (keywordEach [⟨some (Str.ofString "default"), d, kpos⟩] X.env)).filterMap (·.1) = [Str.ofString "default"] := by rfl) :
    PE X (.Call (.Name "min" p) [e] [⟨some (Str.ofString "default"), d, kpos⟩] pos) (tMinD X.K ta td) :=
  pe_callBK (cr_minD hc hu) hg hm (by decide +kernel) (pa_cons ha pa_nil hse) (pk_cons hd pk_nil) (by decide) (by decide) he hpl hall hnone hks
end
/-! ### == and != of data -/
def rEqT (K : PySem.W.Frag) : R2 := fun x y H Q => ∃ (α : Type) (_ : DecidableEq α) (_ : PySem.W.Datum α) (a b : α), Dp K H x (PySem.W.Datum.toD a) ∧ Dp K H y (PySem.W.Datum.toD b) ∧ PySem.W.Datum.depth α ≤ 64 ∧ Q (.bl (decide (a = b))) H
def rNeT (K : PySem.W.Frag) : R2 := fun x y H Q => ∃ (α : Type) (_ : DecidableEq α) (_ : PySem.W.Datum α) (a b : α), Dp K H x (PySem.W.Datum.toD a) ∧ Dp K H y (PySem.W.Datum.toD b) ∧ PySem.W.Datum.depth α ≤ 64 ∧ Q (.bl (decide (a ≠ b))) H
section
variable {X : Cx}
theorem op_eqT (hu : X.A.units + 64 < cLine) : OpR X (compareOp .Eq) (rEqT X.K) := by
  intro pins s σ H x y v u Q I rx ry h
  obtain ⟨α, d1, d2, a, b, ha, hb, hd, q⟩ := h
  exact PySem.W.eq_datum (Dp.reads I _ x v ha rx) (Dp.reads I _ y u hb ry) (by omega) ⟨.bl _, H, I, rfl, q⟩
theorem op_neT (hu : X.A.units + 64 < cLine) : OpR X (compareOp .NotEq) (rNeT X.K) := by
  intro pins s σ H x y v u Q I rx ry h
  obtain ⟨α, d1, d2, a, b, ha, hb, hd, q⟩ := h
  exact PySem.W.ne_datum (Dp.reads I _ x v ha rx) (Dp.reads I _ y u hb ry) (by omega) ⟨.bl _, H, I, rfl, q⟩
end
theorem eqT_of {K : PySem.W.Frag} {x y : V} {H : Hp} {Q : VK} {α : Type} [DecidableEq α] [PySem.W.Datum α] {a b : α} (ha : Dp K H x (PySem.W.Datum.toD a)) (hb : Dp K H y (PySem.W.Datum.toD b)) (hd : PySem.W.Datum.depth α ≤ 64) (q : Q (.bl (decide (a = b))) H) : rEqT K x y H Q := ⟨α, _, _, a, b, ha, hb, hd, q⟩
theorem neT_of {K : PySem.W.Frag} {x y : V} {H : Hp} {Q : VK} {α : Type} [DecidableEq α] [PySem.W.Datum α] {a b : α} (ha : Dp K H x (PySem.W.Datum.toD a)) (hb : Dp K H y (PySem.W.Datum.toD b)) (hd : PySem.W.Datum.depth α ≤ 64) (q : Q (.bl (decide (a ≠ b))) H) : rNeT K x y H Q := ⟨α, _, _, a, b, ha, hb, hd, q⟩
theorem ho_ints {K : PySem.W.Frag} {H : Hp} {p : Addr} {ns : List Int} (h : SqL K H p (ns.map V.int)) : Dp K H (.ref p) (PySem.W.Datum.toD ns) := .lst h (dp_ints ns)
/-! ### heaps -/
theorem same_new {H : Hp} {p : Addr} {o : HO} (h : H p = none) : Same H (upd H p o) := fun b x e => by
  rw [upd_ne (ne_of_none e h)]
  exact e
/-- what stood ahead of an object's making stands behind a store into it -/
theorem _root_.L2.Same.store {H H' : Hp} {p : Addr} {o : HO} (s : Same H H') (h : H p = none) : Same H (upd H' p o) := fun b x e => by
  rw [upd_ne (ne_of_none e h)]
  exact s b x e
theorem _root_.L2.Same.seqT {K : PySem.W.Frag} {H H' : Hp} {a : Addr} {xs : List V} (e : Same H H') (h : SqT K H a xs) : SqT K H' a xs := by
  rcases h with (h | ⟨o, h⟩) | h
  · exact .inl (.inl (e _ _ h))
  · exact .inl (.inr ⟨o, e _ _ h⟩)
  · exact .inr h
theorem _root_.L2.Same.seqA {K : PySem.W.Frag} {H H' : Hp} {a : Addr} {xs : List V} (e : Same H H') (h : SqA K H a xs) : SqA K H' a xs := h.elim (fun h => .inl (e.seq h)) (fun h => .inr (e.seqT h))
theorem sqL_of {K : PySem.W.Frag} {H : Hp} {a : Addr} {xs : List V} (h : H a = some (.lst xs)) : SqL K H a xs := .inl (.inl h)
theorem sqT_of {K : PySem.W.Frag} {H : Hp} {a : Addr} {xs : List V} (h : H a = some (.tup xs)) : SqT K H a xs := .inl (.inl h)
/-! ### loops and comprehensions in short -/
theorem for_seq {K : PySem.W.Frag} {a : Addr} {xs : List V} {tl : TE} {g : TG} {tb : TS} {D : Ends} {σ : L2.St} {H0 H : Hp} (ht : ∀ Q : VK, Q (.ref a) H → tl σ H Q) (hA : SqA K H0 a xs) (Pv : Nat → L2.St → Hp → Prop) (h0 : Pv 0 σ H) (hl : ∀ i σ H', Pv i σ H' → Same H0 H')
    (hs : ∀ i x σ H, xs[i]? = some x → Pv i σ H → g x σ H fun σ2 H2 => tb { D with nx := Pv (i + 1), ct := Pv (i + 1), bk := D.nx } σ2 H2) (hd : ∀ σ H, Pv xs.length σ H → D.nx σ H) : tFor (iSeq K tl) g tb D σ H := by
  rcases hA with h | h
  · exact .inl (ht _ ⟨a, rfl, ⟨_, (hl _ _ _ h0).seq h⟩, for_list (K := K) (a := a) Pv h0 (fun i σ H' _ p => (hl i σ H' p).seq h) hs hd⟩)
  · exact .inr (ht _ ⟨a, rfl, ⟨_, (hl _ _ _ h0).seqT h⟩, for_tup (K := K) (a := a) Pv h0 (fun i σ H' _ p => (hl i σ H' p).seqT h) hs hd⟩)
theorem take_more {α : Type} : ∀ {l : List α} {i : Nat} {x : α}, l[i]? = some x → l.take (i + 1) = l.take i ++ [x] := fun {l i x} h => by
  rw [List.take_add_one, h]
  rfl
theorem item_of {ns : List Int} {i : Nat} {y : V} (hi : (ns.map V.int)[i]? = some y) : ∃ z, ns[i]? = some z ∧ y = V.int z := by
  rw [List.getElem?_map] at hi
  cases e : ns[i]? with
  | none => rw [e] at hi; cases hi
  | some z => rw [e] at hi; exact ⟨z, rfl, (Option.some.inj hi).symm⟩
/-- a comprehension over anything that gives n values it 0, it 1 .. and leaves what is tracked; p the test, f the element -/
theorem lc_pure {J : It} {n : Nat} {G : Hp → Prop} {tt : TT} {te : TE} {g : TG} {vs : List Nat} {σ : L2.St} {H1 : Hp} {Qd : Addr → Hp → Prop} {Y : Nat → Hp → V → Hp → Prop} {α : Type} (w : Walk J n G Y) (hn : n < sizeLine) (xs : List α) (hx : xs.length = n) (p : α → Bool) (f : α → V) (hG : ∀ H', Same H1 H' → G H')
    (hs : ∀ i (x : α) (v : V) (H H' : Hp) (R : Bool → V → Hp → Prop), xs[i]? = some x → Same H1 H → Y i H v H' → (∀ y H'', Same H H'' → (p x = true → y = f x) → R (p x) y H'') →
      g v (wipe σ vs) H' fun σ2 H2 => wipe σ2 vs = wipe σ vs ∧ tt σ2 H2 fun b H3 => if b = true then te σ2 H3 fun y H4 => R true y H4 else R false .non H3)
    (hQ : ∀ D H', H1 D = none → Same H1 H' → H' D = some (.lst ((xs.filter p).map f)) → Qd D H') :
    ∀ D, H1 D = none → ∃ W : Nat → Nat → Hp → Prop, (∃ m, W 0 m (upd H1 D (.lst []))) ∧ ∀ i m H, W i m H →
      (J.stop i H ∧ Qd D H) ∨ (J.go i H ∧ ∃ Nx : Hp → Prop, (∀ H', Nx H' → ∃ m', m' < m ∧ W (i + 1) m' H') ∧ ∀ x H', J.yld i H x H' → g x (wipe σ vs) H' fun σ2 H2 => wipe σ2 vs = wipe σ vs ∧ tt σ2 H2 fun b H3 =>
        if b = true then te σ2 H3 fun y H4 => ∃ acc, H4 D = some (.lst acc) ∧ acc.length < sizeLine ∧ Nx (upd H4 D (.lst (acc ++ [y]))) else Nx H3) := by
  intro D hD
  refine lc_it w (fun i H => Same H1 H ∧ H D = some (.lst (((xs.take i).filter p).map f))) ⟨same_new hD, upd_same⟩ (fun i H _ h => hG H h.1) ?_ ?_
  · intro i v H H' hi ⟨s, e⟩ y
    have hi' : i < xs.length := by omega
    have hx' : xs[i]? = some xs[i] := List.getElem?_eq_getElem hi'
    have fin := hs i xs[i] v H H' (fun b y H4 => if b = true then ∃ acc, H4 D = some (.lst acc) ∧ acc.length < sizeLine ∧ (Same H1 (upd H4 D (.lst (acc ++ [y]))) ∧ (upd H4 D (.lst (acc ++ [y]))) D = some (.lst (((xs.take (i + 1)).filter p).map f))) else Same H1 H4 ∧ H4 D = some (.lst (((xs.take (i + 1)).filter p).map f))) hx' s y ?_
    · exact fin
    · intro y H4 s4 hy
      have e4 := s4 _ _ e
      rw [take_more hx', List.filter_append, List.map_append]
      cases hp : p xs[i] with
      | true =>
        rw [if_pos rfl]
        refine ⟨_, e4, ?_, (s.trans s4).store hD, ?_⟩
        · rw [List.length_map]
          refine Nat.lt_of_le_of_lt (List.length_filter_le _ _) (Nat.lt_of_le_of_lt (List.length_take_le _ _) ?_)
          omega
        · rw [upd_same, hy hp]
          simp [List.filter, hp]
      | false =>
        rw [if_neg Bool.false_ne_true]
        refine ⟨s.trans s4, ?_⟩
        rw [e4]
        simp [List.filter, hp]
  · intro H ⟨s, e⟩
    rw [← hx, List.take_length] at e
    exact hQ D H hD s e

/-! ### what is a number, a quay, wishes -/
def isInt : V → Bool
  | .int _ => true
  | _ => false
def inB (lo hi : Int) : V → Bool
  | .int i => decide (lo ≤ i) && decide (i ≤ hi)
  | _ => false
def goodW (n : Nat) (xs : List V) : Bool := decide (xs.length ≤ 400) && xs.all (inB 1 n)
/-- what a check of a quay and of wishes for it comes to: R behind a good one -/
def ChkQ (K : PySem.W.Frag) (a : Ad) (b : V) (H : Hp) (E : XK) (R : Nat → Prop) : Prop := ∃ T, TyB K H b T ∧ ((inB 1 400 b = false ∧ E (.ref a.e_NoQuay) none H) ∨ ∃ n : Nat, b = .int n ∧ 1 ≤ n ∧ n ≤ 400 ∧ R n)
def ChkW (K : PySem.W.Frag) (a : Ad) (b w : V) (H : Hp) (E : XK) (R : Nat → List Int → Addr → Prop) : Prop := ChkQ K a b H E fun n =>
  (∃ T, TyB K H w T ∧ T ≠ "list" ∧ T ≠ "tuple" ∧ E (.ref a.e_NoWishes) none H) ∨
  ∃ p xs, w = .ref p ∧ SqA K H p xs ∧ (∀ x ∈ xs, ∃ T, TyB K H x T) ∧ ((goodW n xs = false ∧ E (.ref a.e_NoWishes) none H) ∨
    ∃ ws : List Int, xs = ws.map V.int ∧ ws.length ≤ 400 ∧ (∀ x ∈ ws, 1 ≤ x ∧ x ≤ n) ∧ R n ws p)
theorem ChkQ.imp {K : PySem.W.Frag} {a : Ad} {b : V} {H : Hp} {E : XK} {R R' : Nat → Prop} (h : ChkQ K a b H E R) (k : ∀ n : Nat, b = .int n → 1 ≤ n → n ≤ 400 → R n → R' n) : ChkQ K a b H E R' := by
  obtain ⟨T, ty, h | ⟨n, e, h1, h2, r⟩⟩ := h
  · exact ⟨T, ty, .inl h⟩
  · exact ⟨T, ty, .inr ⟨n, e, h1, h2, k n e h1 h2 r⟩⟩
theorem ChkW.imp {K : PySem.W.Frag} {a : Ad} {b w : V} {H : Hp} {E : XK} {R R' : Nat → List Int → Addr → Prop} (h : ChkW K a b w H E R)
    (k : ∀ (n : Nat) (ws : List Int) (p : Addr), b = .int n → w = .ref p → 1 ≤ n → n ≤ 400 → SqA K H p (ws.map V.int) → ws.length ≤ 400 → (∀ x ∈ ws, 1 ≤ x ∧ x ≤ n) → R n ws p → R' n ws p) : ChkW K a b w H E R' := by
  refine ChkQ.imp h fun n e h1 h2 r => ?_
  rcases r with r | ⟨p, xs, ew, hs, ht, r | ⟨ws, ex, hl, hb, r⟩⟩
  · exact .inl r
  · exact .inr ⟨p, xs, ew, hs, ht, .inl r⟩
  · exact .inr ⟨p, xs, ew, hs, ht, .inr ⟨ws, ex, hl, hb, k n ws p e ew h1 h2 (ex ▸ hs) hl hb r⟩⟩
/-- a check that is passed -/
theorem ChkQ.ok {K : PySem.W.Frag} {a : Ad} {H : Hp} {E : XK} {R : Nat → Prop} {n : Nat} (h1 : 1 ≤ n) (h2 : n ≤ 400) (r : R n) : ChkQ K a (.int n) H E R := ⟨_, .int _, .inr ⟨n, rfl, h1, h2, r⟩⟩
theorem ChkW.ok {K : PySem.W.Frag} {a : Ad} {H : Hp} {E : XK} {R : Nat → List Int → Addr → Prop} {n : Nat} {ws : List Int} {p : Addr} (h1 : 1 ≤ n) (h2 : n ≤ 400) (hs : SqA K H p (ws.map V.int)) (hl : ws.length ≤ 400) (hb : ∀ x ∈ ws, 1 ≤ x ∧ x ≤ n) (r : R n ws p) : ChkW K a (.int n) (.ref p) H E R :=
  ChkQ.ok h1 h2 (.inr ⟨p, _, rfl, hs, fun x hx => by
    obtain ⟨i, _, rfl⟩ := List.mem_map.mp hx
    exact ⟨_, .int i⟩, .inr ⟨ws, rfl, hl, hb, r⟩⟩)
theorem goodW_ints {n : Nat} {ws : List Int} : goodW n (ws.map V.int) = true ↔ ws.length ≤ 400 ∧ ∀ x ∈ ws, 1 ≤ x ∧ x ≤ n := by
  unfold goodW
  simp [inB]
theorem inB_int {lo hi : Int} {v : V} (h : inB lo hi v = true) : ∃ i, v = .int i ∧ lo ≤ i ∧ i ≤ hi := by
  cases v with
  | int i =>
    simp only [inB, Bool.and_eq_true, decide_eq_true_eq] at h
    exact ⟨i, rfl, h⟩
  | _ => cases h
theorem goodW_of {n : Nat} {xs : List V} (h : goodW n xs = true) : ∃ ws : List Int, xs = ws.map V.int ∧ ws.length ≤ 400 ∧ ∀ x ∈ ws, 1 ≤ x ∧ x ≤ n := by
  unfold goodW at h
  simp only [Bool.and_eq_true, decide_eq_true_eq, List.all_eq_true] at h
  obtain ⟨h1, h2⟩ := h
  have e : ∃ ws : List Int, xs = ws.map V.int := by
    clear h1
    induction xs with
    | nil => exact ⟨[], rfl⟩
    | cons x r ih =>
      obtain ⟨ws, e⟩ := ih fun y hy => h2 y (List.mem_cons_of_mem _ hy)
      obtain ⟨i, ei, _⟩ := inB_int (h2 x List.mem_cons_self)
      exact ⟨i :: ws, by rw [ei, e]; rfl⟩
  obtain ⟨ws, rfl⟩ := e
  refine ⟨ws, rfl, by simpa using h1, fun x hx => ?_⟩
  obtain ⟨i, ei, h3, h4⟩ := inB_int (h2 (.int x) (List.mem_map_of_mem hx))
  cases ei
  exact ⟨h3, h4⟩
theorem tyb_int {K : PySem.W.Frag} {H : Hp} {x : V} {T : String} (h : TyB K H x T) : decide (T = "int") = isInt x := by
  cases h <;> first | rfl | decide
theorem tyb_ref {K : PySem.W.Frag} {H : Hp} {x : V} {T : String} (h : TyB K H x T) (e : T = "list" ∨ T = "tuple") : ∃ p xs, x = .ref p ∧ SqA K H p xs := by
  cases h with
  | lst h => exact ⟨_, _, rfl, .inl h⟩
  | tup h => exact ⟨_, _, rfl, .inr h⟩
  | non => rcases e with e | e <;> exact absurd e (by decide)
  | bl => rcases e with e | e <;> exact absurd e (by decide)
  | int => rcases e with e | e <;> exact absurd e (by decide)
  | str => rcases e with e | e <;> exact absurd e (by decide)
  | byt => rcases e with e | e <;> exact absurd e (by decide)
  | dK => rcases e with e | e <;> exact absurd e (by decide)
theorem SqA.ty {K : PySem.W.Frag} {H : Hp} {p : Addr} {xs : List V} (h : SqA K H p xs) : ∃ T, TyB K H (.ref p) T ∧ (decide (T = "list") || decide (T = "tuple")) = true := by
  rcases h with h | h
  · exact ⟨_, .lst h, by decide⟩
  · exact ⟨_, .tup h, by decide⟩
/-! is_number, is_from_to, is_row -/
def sp_is_number (K : PySem.W.Frag) (a : Ad) : Sp := fun vs H Q _ => ∃ x T, vs = [x] ∧ TyB K H x T ∧ Q (.bl (isInt x)) H
abbrev N_is_number : List Str := ["thing"]
def t_is_number (K : PySem.W.Frag) (a : Ad) : TS :=
  (tRet (tOp rIsTyB (tCB (rTyp K) (tCons (tVar 0) tNil)) (tC (.ty "int"))))
theorem len_is_number {K : PySem.W.Frag} {a : Ad} {vs : List V} {H : Hp} {Q : VK} {E : XK} (h : sp_is_number K a vs H Q E) : vs.length = 1 := by
  obtain ⟨x, T, rfl, _⟩ := h
  rfl
theorem pu_is_number {K : PySem.W.Frag} {a : Ad} {vs : List V} {H : Hp} {Q : VK} {E : XK} (h : sp_is_number K a vs H Q E) : t_is_number K a { nx := fun _ H' => Q .non H', rt := Q } (start N_is_number vs) H := by
  obtain ⟨x, T, rfl, ty, q⟩ := h
  refine ⟨x, rfl, x, T, rfl, ty, _, _, rfl, rfl, ?_⟩
  rw [tyb_int ty]
  exact q
def sp_is_from_to (K : PySem.W.Frag) (a : Ad) : Sp := fun vs H Q _ => ∃ lo hi x T, vs = [.int lo, .int hi, x] ∧ TyB K H x T ∧ Q (.bl (inB lo hi x)) H
abbrev N_is_from_to : List Str := ["low", "high", "thing"]
def t_is_from_to (K : PySem.W.Frag) (a : Ad) : TS :=
  (tRet (tAndV (tCall (sp_is_number K a) [] E0 (tCons (tVar 2) tNil)) (tChain rLeI rLeI (tVar 0) (tVar 2) (tVar 1))))
theorem len_is_from_to {K : PySem.W.Frag} {a : Ad} {vs : List V} {H : Hp} {Q : VK} {E : XK} (h : sp_is_from_to K a vs H Q E) : vs.length = 3 := by
  obtain ⟨lo, hi, x, T, rfl, _⟩ := h
  rfl
theorem pu_is_from_to {K : PySem.W.Frag} {a : Ad} {vs : List V} {H : Hp} {Q : VK} {E : XK} (h : sp_is_from_to K a vs H Q E) : t_is_from_to K a { nx := fun _ H' => Q .non H', rt := Q } (start N_is_from_to vs) H := by
  obtain ⟨lo, hi, x, T, rfl, ty, q⟩ := h
  refine ⟨x, rfl, x, T, rfl, ty, isInt x, rfl, ?_⟩
  cases x with
  | int i =>
    refine iteT ⟨_, rfl, _, rfl, lo, i, rfl, rfl, _, rfl, ?_⟩
    by_cases h1 : lo ≤ i
    · rw [decide_eq_true h1]
      refine iteT ⟨_, rfl, i, hi, rfl, rfl, ?_⟩
      have e : inB lo hi (.int i) = decide (i ≤ hi) := by simp [inB, h1]
      rw [e] at q
      exact q
    · rw [decide_eq_false h1]
      have e : inB lo hi (.int i) = false := by simp [inB, h1]
      rw [e] at q
      exact iteF q
  | _ => exact iteF q
def sp_is_row (K : PySem.W.Frag) (a : Ad) : Sp := fun vs H Q _ => ∃ x T, vs = [x] ∧ TyB K H x T ∧ Q (.bl (decide (T = "list") || decide (T = "tuple"))) H
abbrev N_is_row : List Str := ["thing"]
def t_is_row (K : PySem.W.Frag) (a : Ad) : TS :=
  (tRet (tOrV (tOp rIsTyB (tCB (rTyp K) (tCons (tVar 0) tNil)) (tC (.ty "list"))) (tOp rIsTyB (tCB (rTyp K) (tCons (tVar 0) tNil)) (tC (.ty "tuple")))))
theorem len_is_row {K : PySem.W.Frag} {a : Ad} {vs : List V} {H : Hp} {Q : VK} {E : XK} (h : sp_is_row K a vs H Q E) : vs.length = 1 := by
  obtain ⟨x, T, rfl, _⟩ := h
  rfl
theorem pu_is_row {K : PySem.W.Frag} {a : Ad} {vs : List V} {H : Hp} {Q : VK} {E : XK} (h : sp_is_row K a vs H Q E) : t_is_row K a { nx := fun _ H' => Q .non H', rt := Q } (start N_is_row vs) H := by
  obtain ⟨x, T, rfl, ty, q⟩ := h
  refine ⟨x, rfl, x, T, rfl, ty, _, _, rfl, rfl, _, rfl, ?_⟩
  by_cases h1 : T = "list"
  · rw [decide_eq_true h1] at q ⊢
    exact iteT q
  · rw [decide_eq_false h1] at q ⊢
    exact iteF ⟨x, rfl, x, T, rfl, ty, _, _, rfl, rfl, q⟩
/-! check_quay, check_wishes -/
def sp_check_quay (K : PySem.W.Frag) (a : Ad) : Sp := fun vs H Q E => ∃ b, vs = [b] ∧ ChkQ K a b H E fun _ => Q .non H
abbrev N_check_quay : List Str := ["berths"]
def t_check_quay (K : PySem.W.Frag) (a : Ad) (E : XK) : TS :=
  (tIfS (tNot (tB (tCall (sp_is_from_to K a) [] E0 (tCons (tC (.int 1)) (tCons (tC (.int 400)) (tCons (tVar 0) tNil)))))) (tRaise a.e_NoQuay E) tNext)
theorem len_check_quay {K : PySem.W.Frag} {a : Ad} {vs : List V} {H : Hp} {Q : VK} {E : XK} (h : sp_check_quay K a vs H Q E) : vs.length = 1 := by
  obtain ⟨b, rfl, _⟩ := h
  rfl
theorem pu_check_quay {K : PySem.W.Frag} {a : Ad} {vs : List V} {H : Hp} {Q : VK} {E : XK} (h : sp_check_quay K a vs H Q E) : t_check_quay K a E { nx := fun _ H' => Q .non H', rt := Q } (start N_check_quay vs) H := by
  obtain ⟨b, rfl, T, ty, h⟩ := h
  refine ⟨b, rfl, 1, 400, b, T, rfl, ty, inB 1 400 b, rfl, ?_⟩
  rcases h with ⟨e, q⟩ | ⟨n, rfl, h1, h2, q⟩
  · rw [e]
    exact iteT q
  · have e : inB 1 400 (.int n) = true := by simp [inB]; omega
    rw [e]
    exact iteF q
def sp_check_wishes (K : PySem.W.Frag) (a : Ad) : Sp := fun vs H Q E => ∃ b w, vs = [b, w] ∧ ChkW K a b w H E fun _ _ _ => Q .non H
abbrev N_check_wishes : List Str := ["berths", "wishes", "wish"]
def t_check_wishes (K : PySem.W.Frag) (a : Ad) (E : XK) : TS :=
  (tSeq (tDrop (tCall (sp_check_quay K a) [] E (tCons (tVar 0) tNil)))
    (tSeq (tIfS (tNot (tB (tCall (sp_is_row K a) [] E0 (tCons (tVar 1) tNil)))) (tRaise a.e_NoWishes E) tNext)
    (tSeq (tIfS (tTest (tOp rGtI (tCB (rLenSq K) (tCons (tVar 1) tNil)) (tC (.int 400)))) (tRaise a.e_NoWishes E) tNext)
    (tFor (iSeq K (tVar 1)) (gName 2)
    (tIfS (tNot (tB (tCall (sp_is_from_to K a) [] E0 (tCons (tC (.int 1)) (tCons (tVar 0) (tCons (tVar 2) tNil)))))) (tRaise a.e_NoWishes E) tNext)))))
theorem len_check_wishes {K : PySem.W.Frag} {a : Ad} {vs : List V} {H : Hp} {Q : VK} {E : XK} (h : sp_check_wishes K a vs H Q E) : vs.length = 2 := by
  obtain ⟨b, w, rfl, _⟩ := h
  rfl
theorem pu_check_wishes {K : PySem.W.Frag} {a : Ad} {vs : List V} {H : Hp} {Q : VK} {E : XK} (h : sp_check_wishes K a vs H Q E) : t_check_wishes K a E { nx := fun _ H' => Q .non H', rt := Q } (start N_check_wishes vs) H := by
  obtain ⟨b, w, rfl, h⟩ := h
  refine ⟨b, rfl, b, rfl, ChkQ.imp h fun n e h1 h2 r => ?_⟩
  rcases r with ⟨T, ty, n1, n2, q⟩ | ⟨p, xs, rfl, hs, ht, r⟩
  · refine ⟨w, rfl, w, T, rfl, ty, _, rfl, ?_⟩
    rw [decide_eq_false n1, decide_eq_false n2]
    exact iteT q
  · obtain ⟨T, ty, eT⟩ := hs.ty
    refine ⟨.ref p, rfl, .ref p, T, rfl, ty, _, rfl, ?_⟩
    rw [eT]
    refine iteF ⟨.ref p, rfl, p, xs, rfl, hs, _, _, rfl, rfl, _, rfl, ?_⟩
    have done : (goodW n xs = false → E (.ref a.e_NoWishes) none H) ∧ (goodW n xs = true → Q .non H) := by
      rcases r with ⟨g, q⟩ | ⟨ws, ex, hl, hb, q⟩
      · exact ⟨fun _ => q, fun g' => by rw [g] at g'; cases g'⟩
      · have g : goodW n xs = true := by rw [ex]; exact goodW_ints.mpr ⟨hl, hb⟩
        exact ⟨fun g' => (by rw [g] at g'; cases g'), fun _ => q⟩
    by_cases hl : xs.length ≤ 400
    · rw [decide_eq_false (show ¬ ((400 : Int) < (xs.length : Int)) by omega)]
      refine iteF (for_seq (K := K) (H0 := H) (fun Q q => ⟨.ref p, rfl, q⟩) hs (fun i σ H' => H' = H ∧ (xs.take i).all (inB 1 n) = true ∧ ∃ y, σ = [some b, some (.ref p), y]) ⟨rfl, rfl, none, rfl⟩ (fun i σ H' e => by rw [e.1]; exact Same.refl H) ?_ ?_)
      · rintro i x σ H' hx ⟨rfl, ha, y, rfl⟩
        obtain ⟨T, ty⟩ := ht x (List.mem_of_getElem? hx)
        refine ⟨b, rfl, x, rfl, 1, n, x, T, by rw [e] <;> rfl, ty, inB 1 n x, rfl, ?_⟩
        cases g : inB 1 n x with
        | true => exact iteF ⟨rfl, by rw [take_more hx, List.all_append, ha]; simp [g], some x, rfl⟩
        | false =>
          refine iteT (done.1 ?_)
          unfold goodW
          have : xs.all (inB 1 n) = false := by
            cases z : xs.all (inB 1 n) with
            | false => rfl
            | true =>
              rw [List.all_eq_true] at z
              rw [z x (List.mem_of_getElem? hx)] at g
              cases g
          rw [this, Bool.and_false]
      · rintro σ H' ⟨rfl, ha, y, rfl⟩
        rw [List.take_length] at ha
        refine done.2 ?_
        unfold goodW
        rw [ha, decide_eq_true hl]
        rfl
    · rw [decide_eq_true (show (400 : Int) < (xs.length : Int) by omega)]
      refine iteT (done.1 ?_)
      unfold goodW
      rw [decide_eq_false hl]
      rfl

/-! ### the straight quay: the mathematics of laying -/
/-- the first free one of k berths from w on -/
def ffr (occ : Int → Bool) : Nat → Int → Option Int
  | 0, _ => none
  | k + 1, w => if occ w = true then ffr occ k (w + 1) else some w
def ffree (n : Nat) (occ : Int → Bool) (w : Int) : Option Int := ffr occ ((n : Int) + 1 - w).toNat w
def setO (occ : Int → Bool) (b : Int) : Int → Bool := fun x => decide (x = b) || occ x
def pstep (n : Nat) (s : (Int → Bool) × List (Option Int)) (w : Int) : (Int → Bool) × List (Option Int) :=
  match ffree n s.1 w with
  | none => (s.1, s.2 ++ [none])
  | some b => (setO s.1 b, s.2 ++ [some b])
def prun (n : Nat) (ws : List Int) : (Int → Bool) × List (Option Int) := ws.foldl (pstep n) (fun _ => false, [])
def placedL (n : Nat) (ws : List Int) : List (Option Int) := (prun n ws).2
def vO : Option Int → V
  | none => .non
  | some b => .int b
def heldL (n : Nat) (occ : Int → Bool) : List V := (List.range (n + 1)).map fun (i : Nat) => V.bl (occ (i : Int))
theorem ffr_spec {occ : Int → Bool} : ∀ (k : Nat) (w : Int), (∀ b, ffr occ k w = some b → w ≤ b ∧ b < w + k ∧ occ b = false ∧ ∀ x, w ≤ x → x < b → occ x = true) ∧ (ffr occ k w = none → ∀ x, w ≤ x → x < w + k → occ x = true)
  | 0, w => ⟨fun b h => (by cases h), fun _ x h1 h2 => by omega⟩
  | k + 1, w => by
    obtain ⟨i1, i2⟩ := ffr_spec (occ := occ) k (w + 1)
    unfold ffr
    cases e : occ w with
    | true =>
      rw [if_pos rfl]
      refine ⟨fun b h => ?_, fun h x h1 h2 => ?_⟩
      · obtain ⟨j1, j2, j3, j4⟩ := i1 b h
        refine ⟨by omega, by omega, j3, fun x h1 h2 => ?_⟩
        by_cases z : x = w
        · rw [z]; exact e
        · exact j4 x (by omega) h2
      · by_cases z : x = w
        · rw [z]; exact e
        · exact i2 h x (by omega) (by omega)
    | false =>
      rw [if_neg Bool.false_ne_true]
      refine ⟨fun b h => ?_, fun h => (by cases h)⟩
      cases h
      exact ⟨Int.le_refl _, by omega, e, fun x h1 h2 => by omega⟩
theorem ffree_some {n : Nat} {occ : Int → Bool} {w b : Int} (h : ffree n occ w = some b) : w ≤ b ∧ b ≤ n ∧ occ b = false ∧ ∀ x, w ≤ x → x < b → occ x = true := by
  obtain ⟨h1, h2, h3, h4⟩ := (ffr_spec _ _).1 b h
  exact ⟨h1, by omega, h3, h4⟩
theorem ffree_none {n : Nat} {occ : Int → Bool} {w : Int} (h : ffree n occ w = none) : ∀ x, w ≤ x → x ≤ n → occ x = true := fun x h1 h2 => (ffr_spec _ _).2 h x h1 (by omega)
theorem prun_more {n : Nat} {ws : List Int} {i : Nat} {w : Int} (h : ws[i]? = some w) : prun n (ws.take (i + 1)) = pstep n (prun n (ws.take i)) w := by
  unfold prun
  rw [take_more h, List.foldl_append]
  rfl
theorem prun_snoc {n : Nat} {ws : List Int} {w : Int} : prun n (ws ++ [w]) = pstep n (prun n ws) w := by
  unfold prun
  rw [List.foldl_append]
  rfl
theorem pstep_len {n : Nat} {s : (Int → Bool) × List (Option Int)} {w : Int} : (pstep n s w).2.length = s.2.length + 1 := by
  unfold pstep
  cases ffree n s.1 w <;> simp
theorem snoc_ind {α : Type} {p : List α → Prop} (h0 : p []) (h1 : ∀ l x, p l → p (l ++ [x])) : ∀ l, p l := fun l => by
  have : ∀ n, ∀ l : List α, l.length = n → p l := by
    intro n
    induction n with
    | zero => intro l h; rw [List.length_eq_zero_iff.mp h]; exact h0
    | succ n ih =>
      intro l h
      have hne : l ≠ [] := fun z => by rw [z] at h; cases h
      rw [← List.dropLast_concat_getLast hne]
      exact h1 _ _ (ih _ (by rw [List.length_dropLast, h]; rfl))
  exact this _ l rfl
theorem prun_len {n : Nat} : ∀ ws : List Int, (prun n ws).2.length = ws.length := snoc_ind rfl fun ws w ih => by
  rw [prun_snoc, pstep_len, ih]
  simp
theorem placedL_len {n : Nat} {ws : List Int} : (placedL n ws).length = ws.length := prun_len ws
theorem heldL_at {n : Nat} {occ : Int → Bool} {i : Nat} (h : i ≤ n) : (heldL n occ)[i]? = some (.bl (occ (i : Int))) := by
  unfold heldL
  rw [List.getElem?_map, List.getElem?_range (by omega)]
  rfl
theorem heldL_len {n : Nat} {occ : Int → Bool} : (heldL n occ).length = n + 1 := by simp [heldL]
theorem heldL_set {n : Nat} {occ : Int → Bool} {b : Int} (h0 : 0 ≤ b) (h : b ≤ n) : (heldL n occ).set b.toNat (.bl true) = heldL n (setO occ b) := by
  apply List.ext_getElem?
  intro i
  by_cases hi : i ≤ n
  · rw [heldL_at hi]
    by_cases e : i = b.toNat
    · subst e
      rw [List.getElem?_set_self (by rw [heldL_len]; omega)]
      have : ((b.toNat : Nat) : Int) = b := by omega
      simp [setO, this]
    · rw [List.getElem?_set_ne (Ne.symm e), heldL_at hi]
      have : ¬ ((i : Nat) : Int) = b := by omega
      simp [setO, this]
  · rw [List.getElem?_eq_none (show ((heldL n occ).set b.toNat (V.bl true)).length ≤ i by rw [List.length_set, heldL_len]; omega), List.getElem?_eq_none (show (heldL n (setO occ b)).length ≤ i by rw [heldL_len]; omega)]
theorem heldL_new {n : Nat} : (List.replicate (n + 1) [V.bl false]).flatten = heldL n (fun _ => false) := by
  apply List.ext_getElem?
  intro i
  have e : (List.replicate (n + 1) [V.bl false]).flatten = List.replicate (n + 1) (V.bl false) := by
    generalize n + 1 = m
    induction m with
    | zero => rfl
    | succ m ih => rw [List.replicate_succ, List.replicate_succ, List.flatten_cons, ih]; rfl
  rw [e]
  by_cases hi : i ≤ n
  · rw [heldL_at hi, List.getElem?_replicate_of_lt (by omega)]
  · rw [List.getElem?_eq_none (show (List.replicate (n + 1) (V.bl false)).length ≤ i by rw [List.length_replicate]; omega), List.getElem?_eq_none (show (heldL n fun _ => false).length ≤ i by rw [heldL_len]; omega)]
theorem l1000 {n : Nat} (h : n ≤ 1000) : n ≤ sizeLine := Nat.le_of_lt (small1000 h)
/-! ### first_free -/
/-! ### placed -/
/-! ### taken, gone_on -/
def somes (l : List (Option Int)) : List Int := l.filterMap id
def sortI (l : List Int) : List Int := l.mergeSort fun x y => decide (x ≤ y)
theorem sortI_perm (l : List Int) : (sortI l).Perm l := List.mergeSort_perm l _
theorem sortI_sorted (l : List Int) : (sortI l).Pairwise (· ≤ ·) := by
  have h := List.pairwise_mergeSort (le := fun (x y : Int) => decide (x ≤ y)) (fun a b c h1 h2 => by simp only [decide_eq_true_eq] at *; omega) (fun a b => by simp only [Bool.or_eq_true, decide_eq_true_eq]; omega) l
  exact List.Pairwise.imp (fun h => of_decide_eq_true h) h
theorem sortI_uniq {l l' : List Int} (hp : l'.Perm l) (hs : l'.Pairwise (· ≤ ·)) : l' = sortI l := PySem.W.ksm_same (hp.trans (sortI_perm l).symm) hs (sortI_sorted l)
def takenL (n : Nat) (ws : List Int) : List Int := sortI (somes (placedL n ws))
/-- of each ship that lies, how far behind its wish -/
def goneL (ws : List Int) (bs : List (Option Int)) : List Int := (ws.zip bs).filterMap fun p => p.2.map fun b => b - p.1
theorem filter_some : ∀ l : List (Option Int), (l.filter Option.isSome).map vO = (somes l).map V.int
  | [] => rfl
  | none :: l => filter_some l
  | some b :: l => congrArg (V.int b :: ·) (filter_some l)
theorem vO_not (o : Option Int) : (!decide (vO o = .non)) = o.isSome := by
  cases o <;> rfl
theorem zip_gone : ∀ (ws : List Int) (bs : List (Option Int)), ((ws.zip bs).filter fun p => p.2.isSome).map (fun p => V.int ((p.2.getD 0) - p.1)) = (goneL ws bs).map V.int
  | [], _ => by simp [goneL]
  | _ :: _, [] => by simp [goneL]
  | w :: ws, none :: bs => by
    have ih := zip_gone ws bs
    simp only [List.zip_cons_cons, goneL] at ih ⊢
    simpa using ih
  | w :: ws, some b :: bs => by
    have ih := zip_gone ws bs
    simp only [List.zip_cons_cons, goneL] at ih ⊢
    simpa using ih
theorem zip_at {ws : List Int} {bs : List (Option Int)} {i : Nat} {x : Int × Option Int} (h : (ws.zip bs)[i]? = some x) : ws[i]? = some x.1 ∧ bs[i]? = some x.2 := by
  rw [List.getElem?_zip_eq_some] at h
  exact h
/-! ### tuple * k, k of nought and one, too; tuple(range(a, b, -1)), list(range(a, b, -1)) -/
theorem tuple_mulS (l : Addr) (items : Array Value) (n : Nat) (dd : Option Addr) (sl : Array (Option Value)) (u : Tok) :
    Meets (Builtin.«tuple.__mul__» ⟨[.ref l, .int 1 u], []⟩) (fun _ R s => s.heap.get? l = some { cls := .type "tuple", dict := dd, data := .seq items n, slots := sl } ∧ R (.ok (.ret (.ref l))) s) :=
  .of_wp fun prog w A R s h => by
    obtain ⟨hp, g, d, tk, os⟩ := s
    obtain ⟨hl, h⟩ := h
    have f1 := AutoSeq1.idx_int
    wp_walk using wpAny_loadPart' hl
    repeat (first
      | (refine wpAny_ite_false (by decide) ?_; wp_walk using wpAny_loadPart' hl)
      | (refine wpAny_ite_true (by simp) ?_; wp_walk using wpAny_loadPart' hl))
    exact ⟨_, rfl, h⟩
theorem tuple_mulZ (l : Addr) (items : Array Value) (n : Nat) (dd : Option Addr) (sl : Array (Option Value)) (x : Int) (u : Tok) (c0 : (decide (x < -(2 ^ 63)) || decide (x ≥ 2 ^ 63)) = false) (c1 : (items.isEmpty || x == 1) = false) (c2 : (decide (x ≤ 0) || items.isEmpty) = true) :
    Meets (Builtin.«tuple.__mul__» ⟨[.ref l, .int x u], []⟩) (fun _ R s => s.heap.get? l = some { cls := .type "tuple", dict := dd, data := .seq items n, slots := sl } ∧
      R (.ok (.ret (Value.ref s.heap.objs.size))) { s with heap := s.heap.push { cls := Value.type "tuple", data := Data.seq #[] }, toks := s.toks }) :=
  .of_wp fun prog w A R s h => by
    obtain ⟨hp, g, d, tk, os⟩ := s
    obtain ⟨hl, h⟩ := h
    have f1 := AutoSeq1.idx_int
    wp_walk using wpAny_loadPart' hl
    repeat (first
      | (refine wpAny_ite_false (decide_eq_false (by rw [c0]; exact Bool.false_ne_true)) ?_; wp_walk using wpAny_loadPart' hl)
      | (refine wpAny_ite_false (decide_eq_false (by rw [c1]; exact Bool.false_ne_true)) ?_; wp_walk using wpAny_loadPart' hl)
      | (refine wpAny_ite_true (decide_eq_true c2) ?_; wp_walk using wpAny_loadPart' hl))
    exact ⟨_, rfl, h⟩
def rRepTA (K : PySem.W.Frag) : R2 := fun x y H Q => ∃ l k xs, x = .ref l ∧ y = .int k ∧ SqT K H l xs ∧ xs ≠ [] ∧ 0 ≤ k ∧ k ≤ 1000 ∧ xs.length ≤ 1000 ∧ (k = 1 → Q (.ref l) H) ∧ (k ≠ 1 → ∀ p, H p = none → Q (.ref p) (upd H p (.tup (List.replicate k.toNat xs).flatten)))
section
variable {X : Cx}
theorem op_repTA : OpR X (binaryOp .Mult) (rRepTA X.K) := by
  intro pins s σ H x y v u Q I rx ry h
  obtain ⟨l, k, xs, rfl, rfl, hT, hne, h1, h2, hz, q1, q2⟩ := h
  by_cases hk : 2 ≤ k
  · exact op_repT pins s σ H _ _ v u Q I rx ry ⟨l, k, xs, rfl, rfl, hT, hne, hk, h2, hz, q2 (by omega)⟩
  cases rx
  obtain ⟨t, rfl⟩ := ry
  obtain ⟨its, r, ⟨⟨cls, dd, data, sl⟩, ho, hc, n, hd⟩, hs⟩ := I.tuple hT
  simp only at hc hd
  subst hc hd
  have hle : its.length = xs.length := r.length.symm
  have hn : its ≠ [] := fun e => hne (by
    rw [e] at hle
    exact List.eq_nil_of_length_eq_zero hle.symm)
  have hi : its.toArray.isEmpty = false := by
    cases its with
    | nil => exact absurd rfl hn
    | cons a b => rfl
  by_cases h1k : k = 1
  · subst h1k
    refine wpAny_binaryOp_repeat_ref (T := "tuple") (U := "int") (by decide) ⟨_, ho, rfl⟩ (fun s' => typeIs_int s' 1 t) noFill_tuple_mul F.fills_int_mul F.slot_int_rmul repeat_tuple F.slot_int_index.lookup
      (call_meets F.slot_int_rmul (typeIs_int s 1 t) F.entry_int_rmul (F.args_int_rmul_2 _ _) (int_rmul_tuple 1 t l its.toArray n dd sl)
        ⟨ho, rfl, ⟨_, ho, rfl⟩, call_meets F.slot_tuple_mul ⟨_, ho, rfl⟩ F.entry_tuple_mul (F.args_tuple_mul_2 _ _) (tuple_mulS l its.toArray n dd sl t) ⟨ho, ?_⟩⟩)
    exact ⟨.ref l, H, I, rfl, q1 rfl⟩
  · have hk0 : k = 0 := by omega
    subst hk0
    have c0 : (decide ((0 : Int) < -(2 ^ 63)) || decide ((0 : Int) ≥ 2 ^ 63)) = false := by decide
    have c1 : (its.toArray.isEmpty || (0 : Int) == 1) = false := by
      rw [hi]
      rfl
    have c2 : (decide ((0 : Int) ≤ 0) || its.toArray.isEmpty) = true := by
      rw [hi]
      rfl
    refine wpAny_binaryOp_repeat_ref (T := "tuple") (U := "int") (by decide) ⟨_, ho, rfl⟩ (fun s' => typeIs_int s' 0 t) noFill_tuple_mul F.fills_int_mul F.slot_int_rmul repeat_tuple F.slot_int_index.lookup
      (call_meets F.slot_int_rmul (typeIs_int s 0 t) F.entry_int_rmul (F.args_int_rmul_2 _ _) (int_rmul_tuple 0 t l its.toArray n dd sl)
        ⟨ho, rfl, ⟨_, ho, rfl⟩, call_meets F.slot_tuple_mul ⟨_, ho, rfl⟩ F.entry_tuple_mul (F.args_tuple_mul_2 _ _) (tuple_mulZ l its.toArray n dd sl 0 t c0 c1 c2) ⟨ho, ?_⟩⟩)
    refine ⟨.ref s.heap.objs.size, _, I.laid (t' := s.toks) (o := .tup []) (fun b ob q => Heap.get?_push_of_some _ q) (Nat.le_refl _) ?_, rfl, q2 h1k _ (I.hok.fresh (Nat.le_refl _))⟩
    exact ⟨Nat.zero_le _, [], .nil, IsTup.new _ _⟩
/-- a, a - 1 .. b + 1 -/
def rgD (a b : Int) : List V := (List.range (a - b).toNat).map fun i => V.int (a - (i : Nat))
theorem rgD_length (a b : Int) : (rgD a b).length = (a - b).toNat := by unfold rgD; rw [List.length_map, List.length_range]
theorem vals_rgD {a b : Int} {acc : Array Value} (h : ItemsOf (fun i v => ∃ t, v = .int (a + i * -1) t) acc (a - b).toNat) : Vals (rgD a b) acc.toList := by
  have e : acc.toList.length = (a - b).toNat := by rw [Array.length_toList]; exact h.1
  unfold rgD
  rw [← e]
  refine vals_of_get acc.toList _ fun j u hj => ?_
  obtain ⟨t, rfl⟩ := h.2 j u (by rw [← hj, Array.getElem?_toList])
  exact ⟨t, by congr 1; omega⟩
/-- an expression that makes a range downwards -/
def PRgD (X : Cx) (e : Expr) (t : L2.St → Hp → (Int → Int → Hp → Prop) → Prop) : Prop :=
  ∀ (pins : List (Addr × Obj)) (s : Shared) (σ : L2.St) (H : Hp) (Q : Int → Int → Hp → Prop), Inv X pins σ H s → t σ H Q →
    wpAny (model X.prog X.w) X.A (eval e X.env) (fun x s' => ∃ r a b t u v H', x = .ref r ∧ IsRange s'.heap r a b (-1) t u v ∧ Inv X pins σ H' s' ∧ Q a b H') X.xe s
def tRg3D (t : TA) : L2.St → Hp → (Int → Int → Hp → Prop) → Prop := fun σ H Q => t σ H fun xs H1 => ∃ i j, xs = [.int i, .int j, .int (-1)] ∧ Q i j H1
theorem prg_3D {e : Expr} {es : List Expr} {t : TA} {p pos : Pos} (hg : Gl X "range") (hm : X.mg "range" = none) (ha : PA X (e :: es) t)
    (he : starEach (e :: es) X.env = (false, eval e X.env) :: starEach es X.env := by rfl) (hpl : (backTo pos (starEach es X.env)).any (·.1) = false := by rfl) : PRgD X (.Call (.Name "range" p) (e :: es) [] pos) (tRg3D t) := by
  intro pins s σ H Q I h
  refine wpAny_Call_Name_kw (ld_blt I hg hm boot_range ?_)
  refine PyProof.Rows.callWith_type1 (thn (ha.run pos pins s σ H _ I h) fun us s1 ⟨vs, H1, I1, r1, q1⟩ => ?_) he hpl
  obtain ⟨i, j, rfl, q⟩ := q1
  obtain ⟨u1, us1, rfl, r2, r3⟩ : ∃ u1 us1, us = u1 :: us1 ∧ RelV (.int i) u1 ∧ Vals [.int j, .int (-1)] us1 := by cases r1 with | cons a b => exact ⟨_, _, rfl, a, b⟩
  obtain ⟨u2, u3, rfl, r4, r5⟩ := vals2 r3
  obtain ⟨t1, rfl⟩ := r2
  obtain ⟨t2, rfl⟩ := r4
  obtain ⟨t3, rfl⟩ := r5
  exact call_range_3 (by decide) ⟨_, i, j, _, _, _, H1, rfl, IsRange.new _ _ _ _ _ _ _, I1.kept fun b u e => Heap.get?_push_of_some _ e, q⟩ (.inl (PyProof.noPylong_small (by decide)))
def tLstRg3 (t : TA) : TE := fun σ H Q => tRg3D t σ H fun a b H1 => RgOk b a ∧ ∀ q, H1 q = none → Q (.ref q) (upd H1 q (.lst (rgD a b)))
def tTupRg3 (t : TA) : TE := fun σ H Q => tRg3D t σ H fun a b H1 => RgOk b a ∧ ∀ q, H1 q = none → Q (.ref q) (upd H1 q (.tup (rgD a b)))
theorem pe_listRg3 {e : Expr} {es : List Expr} {t : TA} {p2 pos2 p pos : Pos} (hc : X.calm = true) (hg : Gl X "list") (hm : X.mg "list" = none) (hg2 : Gl X "range") (hm2 : X.mg "range" = none) (ha : PA X (e :: es) t)
    (he : starEach (e :: es) X.env = (false, eval e X.env) :: starEach es X.env := by rfl) (hpl : (backTo pos2 (starEach es X.env)).any (·.1) = false := by rfl)
    (na : starEach [.Call (.Name "range" p2) (e :: es) [] pos2] X.env = (false, eval (.Call (.Name "range" p2) (e :: es) [] pos2) X.env) :: starEach [] X.env := by rfl) : PE X (.Call (.Name "list" p) [.Call (.Name "range" p2) (e :: es) [] pos2] [] pos) (tLstRg3 t) := by
  refine ⟨fun pins s σ H Q I h => ?_⟩
  refine Call_ (ld_blt I hg hm boot_list (PyProof.Rows.callWith_type1 (args_cons (thn (prg_3D hg2 hm2 ha he hpl pins s σ H _ I h) fun x s1 ⟨r, a, b, t, u, v, H1, ex, hr, I1, ok, q⟩ => args_nil ?_) na) na))
  subst ex
  obtain ⟨b1, b2, b3, b4, b5⟩ := ok
  refine call_list_range (n := (a - b).toNat) (I1.ok.hd hc) hr (PySem.W.small_down b3 b4 b1 b2) (PySem.W.rangeSize_downNat a b) b5 fun h' tk acc c' hk e' hi => ?_
  refine ⟨.ref s1.heap.objs.size, upd H1 s1.heap.objs.size (.lst (rgD a b)), I1.laid hk (Nat.le_refl _) (show ObjOk X.prog X.w _ _ _ (.lst (rgD a b)) from ⟨?_, acc.toList, c', vals_rgD hi, ?_⟩), rfl, q _ (I1.hok.fresh (Nat.le_refl _))⟩
  · rw [rgD_length, sizeLine_eq]; omega
  · rw [Array.toArray_toList]; exact e'
theorem pe_tupRg3 {e : Expr} {es : List Expr} {t : TA} {p2 pos2 p pos : Pos} (hc : X.calm = true) (hg : Gl X "tuple") (hm : X.mg "tuple" = none) (hg2 : Gl X "range") (hm2 : X.mg "range" = none) (ha : PA X (e :: es) t)
    (he : starEach (e :: es) X.env = (false, eval e X.env) :: starEach es X.env := by rfl) (hpl : (backTo pos2 (starEach es X.env)).any (·.1) = false := by rfl)
    (na : starEach [.Call (.Name "range" p2) (e :: es) [] pos2] X.env = (false, eval (.Call (.Name "range" p2) (e :: es) [] pos2) X.env) :: starEach [] X.env := by rfl) : PE X (.Call (.Name "tuple" p) [.Call (.Name "range" p2) (e :: es) [] pos2] [] pos) (tTupRg3 t) := by
  refine ⟨fun pins s σ H Q I h => ?_⟩
  refine Call_ (ld_blt I hg hm boot_tuple (PyProof.Rows.callWith_type1 (args_cons (thn (prg_3D hg2 hm2 ha he hpl pins s σ H _ I h) fun x s1 ⟨r, a, b, t, u, v, H1, ex, hr, I1, ok, q⟩ => args_nil ?_) na) na))
  subst ex
  obtain ⟨b1, b2, b3, b4, b5⟩ := ok
  refine call_tuple_range (n := (a - b).toNat) (I1.ok.hd hc) hr (PySem.W.small_down b3 b4 b1 b2) (PySem.W.rangeSize_downNat a b) b5 fun h' tk acc hk hi => ?_
  have I2 : Inv X pins σ H1 { s1 with heap := h', toks := tk } := I1.kept hk
  refine ⟨.ref h'.objs.size, upd H1 h'.objs.size (.tup (rgD a b)), I2.laid (t' := tk) (fun c o e => Heap.get?_push_of_some _ e) (Nat.le_refl _) (show ObjOk X.prog X.w _ _ _ (.tup (rgD a b)) from ⟨?_, acc.toList, vals_rgD hi, ?_⟩), rfl, q _ (I2.hok.fresh (Nat.le_refl _))⟩
  · rw [rgD_length, sizeLine_eq]; omega
  · rw [Array.toArray_toList]; exact IsTup.new _ _
end

/-! ### list + list, whatever lists -/
theorem list_addW (l : Addr) (items : Array Value) (n : Nat) (dd : Option Addr) (sl : Array (Option Value)) (b : Addr) (items2 : Array Value) (n2 : Nat) (dd2 : Option Addr) (sl2 : Array (Option Value)) (hc0 : items.size + items2.size ≤ sizeLine) :
    Meets (Builtin.«list.__add__» ⟨[.ref l, .ref b], []⟩) (fun _ R s => s.heap.get? l = some { cls := .type "list", dict := dd, data := .seq items n, slots := sl } ∧ s.heap.get? b = some { cls := .type "list", dict := dd2, data := .seq items2 n2, slots := sl2 } ∧
      R (.ok (.ret (Value.ref s.heap.objs.size))) { s with heap := s.heap.push { cls := Value.type "list", data := Data.seq (items ++ items2) }, toks := s.toks }) :=
  .of_wp fun prog w A R s h => by
    obtain ⟨hp, g, d, tk, os⟩ := s
    obtain ⟨hl, hb, h⟩ := h
    have f1 := AutoSeq1.idx_int
    have f2 := AutoSeq1.sub_tuple_tuple
    have f3 := AutoSeq1.sub_list_list
    have f4 := AutoSeq1.sub_tuple_list
    have f5 := AutoSeq1.sub_list_tuple
    wp_walk using wpAny_loadPart' hl, wpAny_loadPart' hb
    exact ⟨_, rfl, h⟩
def rCatS (K : PySem.W.Frag) : R2 := fun x y H Q => ∃ l b xs zs, x = .ref l ∧ y = .ref b ∧ SqL K H l xs ∧ SqL K H b zs ∧ xs.length + zs.length ≤ sizeLine ∧ ∀ p, H p = none → Q (.ref p) (upd H p (.lst (xs ++ zs)))
theorem op_catS {X : Cx} : OpR X (binaryOp .Add) (rCatS X.K) := by
  intro pins s σ H x y v u Q I rx ry h
  obtain ⟨l, b, xs, zs, rfl, rfl, hH, hB, hz, q⟩ := h
  cases rx
  cases ry
  obtain ⟨its, r, ⟨⟨c1, d1, t1, sl1⟩, n, e, g1, g2, g3⟩, z⟩ := I.list hH
  obtain ⟨its2, r2, ⟨⟨c2, d2, t2, sl2⟩, n2, e2, k1, k2, k3⟩, z2⟩ := I.list hB
  simp only at g1 g2 g3 k1 k2 k3
  subst g1 g2 g3 k1 k2 k3
  have h1 := r.length
  have h2 := r2.length
  refine concat_meets ⟨_, e, rfl⟩ ⟨_, e2, rfl⟩ noFill_list_add seq_list_add F.slot_list_add F.entry_list_add (F.args_list_add_2 _ _) (list_addW l its.toArray n none sl1 b its2.toArray n2 none sl2 (by rw [List.size_toArray, List.size_toArray]; omega)) ⟨e, e2, ?_⟩
  have ea : its.toArray ++ its2.toArray = (its ++ its2).toArray := by simp
  rw [ea]
  exact ⟨.ref _, _, I.lnew (t' := s.toks) (r.append r2) (by rw [List.length_append]; omega), rfl, q _ I.fresh⟩

/-! ### sorted, min, max of a tuple of whole numbers; slices, sums of tuples with one answer -/
def rSortedT (K : PySem.W.Frag) : List V → Hp → VK → Prop := fun vs H Q => ∃ (a : Addr) (ns : List Int), vs = [V.ref a] ∧ SqT K H a (ns.map V.int) ∧
  ∀ (ns' : List Int) (p : Addr), ns'.Perm ns → ns'.Pairwise (· ≤ ·) → H p = none → Q (.ref p) (upd H p (.lst (ns'.map V.int)))
def rMinT (K : PySem.W.Frag) : List V → Hp → VK → Prop := fun vs H Q => ∃ (a : Addr) (ns : List Int), vs = [V.ref a] ∧ SqT K H a (ns.map V.int) ∧ 0 < ns.length ∧ ∀ m, m ∈ ns → (∀ y, y ∈ ns → m ≤ y) → Q (.int m) H
def rMaxT (K : PySem.W.Frag) : List V → Hp → VK → Prop := fun vs H Q => ∃ (a : Addr) (ns : List Int), vs = [V.ref a] ∧ SqT K H a (ns.map V.int) ∧ 0 < ns.length ∧ ∀ m, m ∈ ns → (∀ y, y ∈ ns → y ≤ m) → Q (.int m) H
theorem maxOf_int : ∀ (ys : List Int) (y : Int), PySem.W.maxOf y ys ∈ y :: ys ∧ ∀ z ∈ y :: ys, z ≤ PySem.W.maxOf y ys
  | [], y => ⟨List.mem_singleton.mpr rfl, fun z hz => by rw [List.mem_singleton.mp hz]; exact Int.le_refl _⟩
  | x :: r, y => by
    have e : PySem.W.maxOf y (x :: r) = PySem.W.maxOf (if y < x then x else y) r := by
      show PySem.W.maxOf (if (decide (y < x)) = true then x else y) r = _
      by_cases h : y < x <;> simp [h]
    obtain ⟨h1, h2⟩ := maxOf_int r (if y < x then x else y)
    rw [e]
    refine ⟨?_, fun z hz => ?_⟩
    · rcases List.mem_cons.mp h1 with k | k
      · rw [k]
        by_cases h : y < x <;> simp [h]
      · simp [k]
    · have hc := h2 _ (List.mem_cons_self)
      rcases List.mem_cons.mp hz with k | k
      · subst k
        by_cases h : z < x
        · rw [if_pos h] at hc ⊢
          omega
        · rw [if_neg h] at hc ⊢
          exact hc
      · rcases List.mem_cons.mp k with k | k
        · subst k
          by_cases h : y < z
          · rw [if_pos h] at hc ⊢
            exact hc
          · rw [if_neg h] at hc ⊢
            omega
        · exact h2 z (List.mem_cons_of_mem _ k)
section
variable {X : Cx}
theorem cr_sortedT : CallR X (.builtin "sorted") (rSortedT X.K) := by
  intro pins s σ H vs us Q I r h
  obtain ⟨a, ns, rfl, hs, q⟩ := h
  obtain ⟨its, rv, ⟨o, ho, hc, n, hd⟩, hz⟩ := I.tuple hs
  rw [Vals.ref1 r]
  have hi := rv.ints
  have hlen0 : its.length ≤ sizeLine := by rw [← rv.length]; exact hz
  refine Calls.call_function_entry kind_sorted plain_sorted entry_sorted (args_sorted1 _) ?_
  unfold Builtin.«sorted»
  refine wpAny_bind (m := checkCount "sorted" 1 1 _) (wpAny_pure ?_)
  refine wpAny_bind (wpAny_collect_seq a (.inr rfl) ho hc hd (fun h1 k1 => ?_) (by rw [List.size_toArray]; exact hlen0))
  have I1 : Inv X pins σ H { s with heap := h1 } := I.kept (t' := s.toks) k1
  refine wpAny_bind (wpAny_newList ?_ hlen0)
  have hoL : (h1.push (seqObj "list" its.toArray 0)).get? h1.objs.size = some (seqObj "list" its.toArray 0) := Heap.get?_push_size _ rfl
  refine wpAny_bind (wpAny_holding (wpAny_call_entry slot_list_sort ⟨_, hoL, rfl⟩ entry_list_sort (SrtO.list_sort_ord SrtO.swo_int hoL hlen0 (fun h2 => SrtO.ints_sortable hi h2) fun out h3 h4 => ⟨_, rfl, ?_⟩) (args_list_sort _)))
  obtain ⟨j1, j2, j3⟩ := SrtO.ints_out hi h3 h4
  obtain ⟨ep, he'⟩ := PyProof.Rows.sortedHeap_at (vs := its) (out := out.toArray) hoL
  have hlen : ((out.map SrtO.iv).map V.int).length ≤ sizeLine := by
    rw [List.length_map, j2.length_eq]
    rw [List.length_map] at hz
    exact hz
  refine wpAny_pure ⟨_, rfl, ?_⟩
  refine ⟨.ref h1.objs.size, upd H h1.objs.size (.lst ((out.map SrtO.iv).map V.int)), I1.laid (t' := s.toks) (fun b u hb => ?_) (Nat.le_refl _) ⟨hlen, out, ep, vals_of_ints j1, he'⟩, rfl, q _ _ j2 j3 (I1.hok.fresh (Nat.le_refl _))⟩
  have hlt : b < h1.objs.size := Heap.lt_size hb
  rw [PyProof.Rows.sortedHeap_old (Nat.ne_of_lt hlt) (Heap.lt_size (Heap.get?_push_of_some _ hb))]
  exact Heap.get?_push_of_some _ hb
theorem cr_minT (hc : X.calm = true) (hu : X.A.units + 64 < cLine) : CallR X (.builtin "min") (rMinT X.K) := by
  intro pins s σ H vs us Q I r h
  obtain ⟨p, ns, rfl, hs, hne, q⟩ := h
  obtain ⟨its, rv, hl, _⟩ := I.tuple hs
  rw [Vals.ref1 r]
  obtain ⟨as, ra⟩ := Dp.readsAll I (ns.map PyData.int) _ its (dp_ints ns) rv
  cases ns with
  | nil => cases hne
  | cons x xs =>
    have HA : PySem.W.HoldAll s.heap its.toArray.toList (x :: xs) := ⟨as, ra⟩
    refine PySem.W.min_tuple_datum (I.ok.hd hc) hl HA (by show X.A.units + 1 + PySem.W.Datum.depth Int < cLine; have e : PySem.W.Datum.depth Int = 0 := rfl; rw [e]; omega) fun i v h' tk hi hv hk => ?_
    obtain ⟨as2, r2⟩ := hv
    have hi' : its[i]? = some v := by simpa using hi
    have hlen := rv.length
    have hlt : i < ((x :: xs).map V.int).length := by rw [hlen]; exact (List.getElem?_eq_some_iff.mp hi').1
    obtain ⟨u, hu1, hu2⟩ := rv.get (List.getElem?_eq_getElem hlt)
    rw [hi'] at hu1
    cases hu1
    obtain ⟨z, hz, ez⟩ := item_of0 (List.getElem?_eq_getElem hlt)
    rw [ez] at hu2
    obtain ⟨t, rfl⟩ := hu2
    have em : PySem.W.minOf x xs = z := by
      have r2' : Reads h' (.int z t) (.int (PySem.W.minOf x xs)) as2 := r2
      cases r2'
      rfl
    obtain ⟨m1, m2⟩ := minOf_int xs x
    rw [em] at m1 m2
    exact ⟨.int z, H, I.kept hk, ⟨_, rfl⟩, q z m1 m2⟩
theorem cr_maxT (hc : X.calm = true) (hu : X.A.units + 64 < cLine) : CallR X (.builtin "max") (rMaxT X.K) := by
  intro pins s σ H vs us Q I r h
  obtain ⟨p, ns, rfl, hs, hne, q⟩ := h
  obtain ⟨its, rv, hl, _⟩ := I.tuple hs
  rw [Vals.ref1 r]
  obtain ⟨as, ra⟩ := Dp.readsAll I (ns.map PyData.int) _ its (dp_ints ns) rv
  cases ns with
  | nil => cases hne
  | cons x xs =>
    have HA : PySem.W.HoldAll s.heap its.toArray.toList (x :: xs) := ⟨as, ra⟩
    refine PySem.W.max_tuple_datum (I.ok.hd hc) hl HA (by show X.A.units + 1 + PySem.W.Datum.depth Int < cLine; have e : PySem.W.Datum.depth Int = 0 := rfl; rw [e]; omega) fun i v h' tk hi hv hk => ?_
    obtain ⟨as2, r2⟩ := hv
    have hi' : its[i]? = some v := by simpa using hi
    have hlen := rv.length
    have hlt : i < ((x :: xs).map V.int).length := by rw [hlen]; exact (List.getElem?_eq_some_iff.mp hi').1
    obtain ⟨u, hu1, hu2⟩ := rv.get (List.getElem?_eq_getElem hlt)
    rw [hi'] at hu1
    cases hu1
    obtain ⟨z, hz, ez⟩ := item_of0 (List.getElem?_eq_getElem hlt)
    rw [ez] at hu2
    obtain ⟨t, rfl⟩ := hu2
    have em : PySem.W.maxOf x xs = z := by
      have r2' : Reads h' (.int z t) (.int (PySem.W.maxOf x xs)) as2 := r2
      cases r2'
      rfl
    obtain ⟨m1, m2⟩ := maxOf_int xs x
    rw [em] at m1 m2
    exact ⟨.int z, H, I.kept hk, ⟨_, rfl⟩, q z m1 m2⟩
end
/-- t[lo:hi] -/
theorem slA_of {K : PySem.W.Frag} {a : Addr} {xs : List V} {lo hi : Option Int} {H : Hp} {Q : VK} (h : SqT K H a xs) (q : ∀ (l : Addr) (H' : Hp), Same H H' → SqT K H' l (cutV xs lo hi) → Q (.ref l) H') : rSlA K (.ref a) lo hi H Q := by
  refine ⟨a, xs, rfl, h, fun e => q a H (Same.refl _) ?_, fun _ p np => q p _ (same_new np) (sqT_of upd_same)⟩
  have ec : cutV xs lo hi = xs := by
    unfold cutV
    rw [e.1, e.2, List.drop_zero, Nat.sub_zero, List.take_of_length_le (Nat.le_refl _)]
  rw [ec]
  exact h
/-- t + u -/
theorem catA_of {K : PySem.W.Frag} {a b : Addr} {xs ys : List V} {H : Hp} {Q : VK} (ha : SqT K H a xs) (hb : SqT K H b ys) (hz : xs.length + ys.length ≤ 1000) (q : ∀ (l : Addr) (H' : Hp), Same H H' → SqT K H' l (xs ++ ys) → Q (.ref l) H') : rCatA K (.ref a) (.ref b) H Q := by
  refine ⟨a, b, xs, ys, rfl, rfl, ha, hb, Nat.le_of_lt (small1000 hz), fun e => q b H (Same.refl _) ?_, fun _ e => q a H (Same.refl _) ?_, fun _ _ p np => q p _ (same_new np) (sqT_of upd_same)⟩
  · rw [e]
    exact hb
  · rw [e, List.append_nil]
    exact ha
/-- t + u, with u (or t, if u is empty) an own one -/
theorem catX_of {K : PySem.W.Frag} {a b : Addr} {xs ys : List V} {H : Hp} {Q : VK} (ha : SqT K H a xs) (hb : H b = some (.tup ys)) (hne : ys ≠ [] ∨ H a = some (.tup xs)) (hz : xs.length + ys.length ≤ 1000) (q : ∀ (l : Addr) (H' : Hp), Same H H' → H' l = some (.tup (xs ++ ys)) → Q (.ref l) H') : rCatA K (.ref a) (.ref b) H Q := by
  refine ⟨a, b, xs, ys, rfl, rfl, ha, sqT_of hb, Nat.le_of_lt (small1000 hz), fun e => q b H (Same.refl _) ?_, fun _ e => q a H (Same.refl _) ?_, fun _ _ p np => q p _ (same_new np) upd_same⟩
  · rw [e]
    exact hb
  · rcases hne with h | h
    · exact absurd e h
    · rw [e, List.append_nil]
      exact h

/-! ### t[::-1] of a tuple; for over enumerate -/
theorem sliceApplied_rev {prog : Program} {w : World} {A : Around} {E : Value → Shared → Prop} {s : Shared} {sl : Addr} {vl vu vs : Value} {n : Nat} {Q : Int × Int × Nat → Shared → Prop} (hs : s.heap.IsSliceOf sl vl vu vs) (pl : IsPart vl none) (pu : IsPart vu none) (ps : IsPart vs (some (-1)))
    (h : Q ((n : Int) - 1, -1, n) s) : wpAny (model prog w) A (Builtin.Slice.sliceApplied (.ref sl) (pure (n : Int))) Q E s := by
  obtain ⟨os, hos, hcs, hds⟩ := id hs
  unfold Builtin.Slice.sliceApplied Builtin.Slice.sliceFields
  refine wpAny_bind (wpAny_bind (wpAny_field hos hds (x := vl) rfl (wpAny_bind (wpAny_field hos hds (x := vu) rfl (wpAny_bind (wpAny_field hos hds (x := vs) rfl (wpAny_pure ?_)))))))
  refine wpAny_bind (HT.slicePart_ ps ?_)
  show wpAny _ _ (if ((-1 : Int) == 0) = true then _ else _) _ _ s
  rw [if_neg (by decide)]
  refine wpAny_bind (HT.slicePart_ pl (wpAny_bind (HT.slicePart_ pu (wpAny_bind (wpAny_pure ?_)))))
  have e1 : Builtin.Slice.sliceAdjust none none (-1) (n : Int) = ((n : Int) - 1, -1) := rfl
  show wpAny _ _ (match Builtin.Slice.sliceAdjust none none (-1) (n : Int) with | (lo, hi) => pure (lo, (-1 : Int), Builtin.Slice.slicePlaces lo hi (-1))) _ _ s
  rw [e1]
  show wpAny _ _ (pure ((n : Int) - 1, (-1 : Int), Builtin.Slice.slicePlaces ((n : Int) - 1) (-1) (-1))) _ _ s
  have e2 : Builtin.Slice.slicePlaces ((n : Int) - 1) (-1) (-1) = n := by
    unfold Builtin.Slice.slicePlaces
    rw [if_neg (by decide)]
    have e3 : (-(-1) : Int) = 1 := rfl
    rw [e3, Int.ediv_one]
    split <;> omega
  rw [e2]
  exact wpAny_pure h
theorem rev_pick0 (l : List Value) : ∀ k, k ≤ l.length → (List.range k).filterMap (fun (m : Nat) => l[l.length - 1 - m]?) = l.reverse.take k
  | 0, _ => rfl
  | k + 1, h => by
    rw [List.range_succ, List.filterMap_append, rev_pick0 l k (by omega), List.take_add_one, List.getElem?_reverse (by omega)]
    have h1 : l[l.length - 1 - k]? = some (l[l.length - 1 - k]'(by omega)) := List.getElem?_eq_getElem _
    rw [h1]
    congr 1
    simp [List.filterMap_cons, h1]
theorem rev_pick (xs : Array Value) : ((List.range xs.size).filterMap fun (m : Nat) => xs[((xs.size : Int) - 1 + (m : Int) * -1).toNat]?).toArray = xs.toList.reverse.toArray := by
  have e : (fun (m : Nat) => xs[((xs.size : Int) - 1 + (m : Int) * -1).toNat]?) = fun m => xs.toList[xs.size - 1 - m]? := by
    funext m
    rw [show ((xs.size : Int) - 1 + (m : Int) * -1).toNat = xs.size - 1 - m by omega, Array.getElem?_toList]
  rw [e]
  have := rev_pick0 xs.toList xs.toList.length (Nat.le_refl _)
  rw [Array.length_toList] at this
  rw [this, List.take_of_length_le (by rw [List.length_reverse, Array.length_toList]; exact Nat.le_refl _)]
theorem getItem_tuple_rev {prog : Program} {w : World} {A : Around} {E : Value → Shared → Prop} {s : Shared} {t sl : Addr} {items : Array Value} {vl vu vs : Value} {Q : Value → Shared → Prop} (ht : IsTup s.heap t items) (hs : s.heap.IsSliceOf sl vl vu vs) (pl : IsPart vl none) (pu : IsPart vu none) (ps : IsPart vs (some (-1)))
    (h : Q (.ref s.heap.objs.size) { s with heap := s.heap.push { cls := .type "tuple", data := .seq items.toList.reverse.toArray } })
    (hsz : items.size ≤ sizeLine) : wpAny (model prog w) A (getItem (.ref t) (.ref sl)) Q E s := by
  obtain ⟨os, hos, hcs, hds⟩ := id hs
  have hTs : s.TypeIs (.ref sl) "slice" := ⟨os, hos, hcs⟩
  unfold getItem
  try with_reducible refine wpAny_holding ?_
  first | refine wpAny_bind (wpAny_pure ?_) | skip
  refine wpAny_bind (wpAny_sequenceKey ht.typeIs (by decide) ?_)
  refine wpAny_bind (wpAny_callSpecial?_slot (name := Str.ofString "__getitem__") ht.typeIs PyProof.Rows.slot_tuple_getitem
    (wpAny_call_entry PyProof.Rows.slot_tuple_getitem ht.typeIs entry_tuple_getitem ?_ (args_tuple_getitem _ _)))
  show wpAny _ _ (Builtin.Tuple.tupleItemsOf (.ref t) >>= _) _ _ s
  refine wpAny_bind (tupleItemsOf_ ht ?_)
  refine wpAny_bind (wpAny_typeOf hTs ?_)
  rw [if_pos (by decide)]
  refine wpAny_bind (sliceApplied_rev hs pl pu ps ?_)
  show wpAny _ _ (if (((items.size : Int) - 1) == 0 && (-1 : Int) == 1 && items.size == items.size) = true then _ else _) _ _ s
  have hno : ¬ ((((items.size : Int) - 1) == 0 && (-1 : Int) == 1 && items.size == items.size) = true) := by
    intro q
    rw [Bool.and_eq_true, Bool.and_eq_true] at q
    have := q.1.2
    revert this
    decide
  rw [if_neg hno, rev_pick]
  have htake : sizeOk (.seq items.toList.reverse.toArray) := by
    show items.toList.reverse.toArray.size ≤ sizeLine
    rw [List.size_toArray, List.length_reverse, Array.length_toList]
    exact hsz
  first
    | exact wpAny_bind (m := Builtin.Tuple.tupleExact _) (wpAny_newObj_type (wpAny_pure ⟨_, rfl, wpAny_pure h⟩) htake)
    | exact wpAny_bind (m := Builtin.Tuple.tupleExact _) (wpAny_newObj_type (wpAny_bind (wpAny_pure (wpAny_pure ⟨_, rfl, wpAny_pure h⟩))) htake)
    | exact wpAny_bind (wpAny_bind (m := Builtin.Tuple.tupleExact _) (wpAny_newObj_type (wpAny_pure ⟨_, rfl, wpAny_pure h⟩) htake))
def tRevT (K : PySem.W.Frag) (te : TE) : TE := fun σ H Q => te σ H fun x H1 => ∃ a xs, x = .ref a ∧ SqT K H1 a xs ∧ ∀ p, H1 p = none → Q (.ref p) (upd H1 p (.tup xs.reverse))
theorem pe_revT {X : Cx} {e : Expr} {te : TE} {k : Nat} {p1 p2 p3 pos : Pos} (he : PE X e te) : PE X (.Subscript e (.Slice none none (some (.UnaryOp .USub (.Constant (.int 1) k p1) p2)) p3) pos) (tRevT X.K te) := by
  refine ⟨fun pins s σ H Q I h => ?_⟩
  refine Subscript_ (thn (he.run pins s σ H _ I h) fun v s1 ⟨x, H1, I1, r1, q1⟩ => ?_)
  obtain ⟨a, xs, ex, hx, q⟩ := q1
  subst ex
  cases r1
  have hst : PO X (some (.UnaryOp .USub (.Constant (.int 1) k p1) p2)) (tPart (tUn (rU fun i => .int (-i)) (tC (.int 1)))) := po_some (pe_un un_neg pe_int)
  refine wpAny_Slice (thn (po_none.run pins s1 σ H1 (fun o H2 => o = none ∧ H2 = H1) I1 ⟨rfl, rfl⟩) fun vl s2 ⟨l, H2, I2, pl, el, e2⟩ => ?_)
  subst el e2
  refine thn (po_none.run pins s2 σ H2 (fun o H3 => o = none ∧ H3 = H2) I2 ⟨rfl, rfl⟩) fun vu s3 ⟨u, H3, I3, pu, eu, e3⟩ => ?_
  subst eu e3
  refine thn (hst.run pins s3 σ H3 (fun o H4 => o = some (-1) ∧ H4 = H3) I3 ⟨1, rfl, -1, rfl, rfl, rfl⟩) fun vs s4 ⟨o, H4, I4, ps, eo, e4⟩ => ?_
  subst eo e4
  have I5 : Inv X pins σ H4 { s4 with heap := s4.heap.push { cls := .type "slice", data := .fields #[vl, vu, vs] } } := I4.kept (t' := s4.toks) fun b ob q => Heap.get?_push_of_some _ q
  obtain ⟨its, r, ht, hz⟩ := I5.tuple hx
  have hlen := r.length
  show wpAny (model X.prog X.w) X.A (subscriptTail e (.Slice none none (some (.UnaryOp .USub (.Constant (.int 1) k p1) p2)) p3) (.ref a) (.ref s4.heap.objs.size)) (EP X pins σ Q) X.xe { s4 with heap := s4.heap.push { cls := .type "slice", data := .fields #[vl, vu, vs] } }
  refine tail_any (ops := [.ref a, .ref s4.heap.objs.size]) ht.typeIs (PyProof.Rows.slot_tuple_getitem.lookup) ?_ (by with_unfolding_all rfl)
  refine getItem_tuple_rev ht (Heap.IsSliceOf.new _ vl vu vs) pl pu ps ?_ (by rw [List.size_toArray]; omega)
  refine ⟨.ref _, _, I5.laid (t' := s4.toks) (o := .tup xs.reverse) (fun b ob q => Heap.get?_push_of_some _ q) (Nat.le_refl _) ?_, rfl, q _ (I5.hok.fresh (Nat.le_refl _))⟩
  exact ⟨by rw [List.length_reverse]; exact hz, _, r.reverse, IsTup.new _ _⟩

/-! ### dict(xs), xs a list of pairs with tuples as keys -/
structure PR where
  pair : Addr
  b : Addr
  k : List Key
  v : V
def mergeT (acc : List (List Key × V)) (prs : List PR) : List (List Key × V) := prs.foldl (fun acc p => putK acc p.k p.v) acc
theorem mergeT_len : ∀ (prs : List PR) (acc : List (List Key × V)), (mergeT acc prs).length ≤ acc.length + prs.length
  | [], acc => Nat.le_refl _
  | p :: prs, acc => by
    have h1 := mergeT_len prs (putK acc p.k p.v)
    have h2 := length_putK acc p.k p.v
    show (mergeT (putK acc p.k p.v) prs).length ≤ _
    rw [List.length_cons]
    omega
theorem KT_merge {H : Hp} : ∀ {prs : List PR} {ps : List (List Key × Addr × Value)} {acc : List (List Key × V)} {xs : List (List Key × Addr × Value)}, KT H (prs.map fun p => (p.k, p.v)) ps → KT H acc xs → KT H (mergeT acc prs) (storedAllH xs ps)
  | [], _, _, _, .nil, h => h
  | p :: prs, _, acc, xs, .cons (b := z) hz t, h => by
    obtain ⟨h1, h2, h3⟩ := hz
    have h1 : p.k = z.1 := h1
    have := h.put p.k h2 h3
    show KT H (mergeT (putK acc p.k p.v) prs) (storedAllH (storedH xs z.1 z.2.1 z.2.2) _)
    rw [← h1]
    exact KT_merge t this
section
variable {X : Cx}
theorem pairsT_of {pins : List (Addr × Obj)} {σ : L2.St} {H : Hp} {s : Shared} (I : Inv X pins σ H s) : ∀ {prs : List PR}, (∀ p ∈ prs, SqT X.K H p.pair [.ref p.b, p.v] ∧ H p.b = some (.tup (p.k.map kV))) →
    ∃ ps : List (List Key × Addr × Value), KT H (prs.map fun p => (p.k, p.v)) ps ∧ ps.length = prs.length ∧ ∀ (j : Nat) (p : PR) (z : List Key × Addr × Value), prs[j]? = some p → ps[j]? = some z → z.2.1 = p.b ∧ IsTup s.heap p.pair #[.ref p.b, z.2.2]
  | [], _ => ⟨[], .nil, rfl, fun j p z e => by simp at e⟩
  | p :: prs, h => by
    obtain ⟨ps, r, hl, hp⟩ := pairsT_of I fun q hq => h q (List.mem_cons_of_mem _ hq)
    obtain ⟨h1, h2⟩ := h p List.mem_cons_self
    obtain ⟨its, rv, ht, _⟩ := I.tuple h1
    obtain ⟨u, y, ei, ru, ry⟩ := vals2 rv
    subst ei
    cases (show u = Value.ref p.b from ru)
    refine ⟨(p.k, p.b, y) :: ps, .cons ⟨rfl, h2, ry⟩ r, by rw [List.length_cons, List.length_cons, hl], fun j q z e1 e2 => ?_⟩
    cases j with
    | zero =>
      have e1' : p = q := Option.some.inj e1
      have e2' : (p.k, p.b, y) = z := Option.some.inj e2
      subst e1' e2'
      exact ⟨rfl, ht⟩
    | succ j => exact hp j q z (by simpa using e1) (by simpa using e2)
def rDictT (K : PySem.W.Frag) : List V → Hp → VK → Prop := fun xs H Q => ∃ (a : Addr) (prs : List PR), xs = [.ref a] ∧ SqL K H a (prs.map fun p => V.ref p.pair) ∧ (∀ p ∈ prs, SqT K H p.pair [.ref p.b, p.v] ∧ H p.b = some (.tup (p.k.map kV))) ∧
  ∀ d, H d = none → Q (.ref d) (upd H d (.dT (mergeT [] prs)))
theorem call_dictT (hcalm : X.calm = true) (hu : X.A.units + 64 < cLine) : CallR X (.type "dict") (rDictT X.K) := by
  intro pins s σ H xs us Q I r h
  obtain ⟨a, prs, rfl, hs, hp, q⟩ := h
  obtain ⟨u, rfl, rx⟩ := vals1 r
  cases rx
  obtain ⟨its, rv, pl, hz⟩ := I.list hs
  have ei : its = (prs.map PR.pair).map Value.ref := refs_at (by rw [List.map_map]; exact rv)
  subst ei
  rw [List.length_map] at hz
  obtain ⟨ps, rel, hl, hpr⟩ := pairsT_of I hp
  let Ts : Nat → Addr := fun j => ((prs[j]?).map PR.pair).getD 0
  have hps : ∀ j, j < prs.length → ∃ p z, prs[j]? = some p ∧ ps[j]? = some z := fun j hj => ⟨_, _, List.getElem?_eq_getElem hj, List.getElem?_eq_getElem (by rw [hl]; exact hj)⟩
  refine call_dict_pairsH (knd := tupleKind (mixKind X.prog X.w)) (ps := ps) (PairArg.list a _ Ts (ps.map fun z => (Value.ref z.2.1, z.2.2))) (I.ok.hd hcalm) ?_ ⟨pl, ?_⟩ ?_ ?_ ?_ fun h' tk hd' k => ?_
  · show X.A.units + 1 + 1 < cLine
    omega
  · refine ⟨by rw [List.size_toArray, List.length_map, List.length_map, List.length_map, hl], fun j k' v' e => ?_⟩
    rw [List.getElem?_map] at e
    cases e2 : ps[j]? with
    | none => rw [e2] at e; cases e
    | some z =>
      rw [e2] at e
      have hj : j < prs.length := by rw [← hl]; exact (List.getElem?_eq_some_iff.mp e2).1
      have e1 : prs[j]? = some prs[j] := List.getElem?_eq_getElem hj
      obtain ⟨f1, f2⟩ := hpr j _ z e1 e2
      have e3 : (Value.ref z.2.1, z.2.2) = (k', v') := Option.some.inj e
      have e4 : k' = .ref z.2.1 := (Prod.ext_iff.mp e3).1.symm
      have e5 : v' = z.2.2 := (Prod.ext_iff.mp e3).2.symm
      subst e4 e5
      have eT : Ts j = (prs[j]).pair := by
        show ((prs[j]?).map PR.pair).getD 0 = _
        rw [e1]
        rfl
      refine ⟨?_, ?_⟩
      · rw [eT, List.getElem?_toArray, List.getElem?_map, List.getElem?_map, e1]
        rfl
      · rw [eT, f1]
        exact .inl f2
  · refine ⟨by rw [List.length_map], fun i key v hR => ?_⟩
    have hR : (ps.map fun z => (Value.ref z.2.1, z.2.2))[i]? = some (key, v) := hR
    rw [List.getElem?_map] at hR
    cases e2 : ps[i]? with
    | none => rw [e2] at hR; cases hR
    | some z =>
      rw [e2] at hR
      have e3 : (Value.ref z.2.1, z.2.2) = (key, v) := Option.some.inj hR
      obtain ⟨z1, z2, z3⟩ := z
      have e4 : key = .ref z2 := (Prod.ext_iff.mp e3).1.symm
      have e5 : v = z3 := (Prod.ext_iff.mp e3).2.symm
      subst e4 e5
      exact ⟨z1, z2, rfl, rfl⟩
  · intro h' hk x hx
    have hall : ∀ {l : List (List Key × V)} {m : List (List Key × Addr × Value)}, KT H l m → ∀ x ∈ m, (tupleKind (mixKind X.prog X.w)).is s.heap x.1 x.2.1 := by
      intro l m q
      induction q with
      | nil => intro x hx; exact nomatch hx
      | @cons p q ps qs hq t ih =>
        intro x hx
        rcases List.mem_cons.mp hx with e | hx
        · subst e
          exact key_of I.hok (by rw [← hq.1]; exact hq.2.1)
        · exact ih x hx
    obtain ⟨o, arr, n, f1, f2, f3, f4⟩ := hall rel x hx
    exact ⟨o, arr, n, hk _ _ (Nat.ne_of_lt (Heap.lt_size f1)) (fun z => nomatch z) f1, f2, f3, f4⟩
  · rw [List.length_map, hl]
    exact hz
  · have hm : (s.heap.objs.size == sysModules) = false := beq_eq_false_iff_ne.mpr (Nat.ne_of_gt I.big)
    have hlen : (mergeT [] prs).length ≤ sizeLine := by
      refine Nat.le_trans (mergeT_len prs []) ?_
      rw [List.length_nil, Nat.zero_add]
      exact hz
    obtain ⟨o, es, ep, g1, g2, g3, g4, _, g5⟩ := hd'
    refine ⟨.ref s.heap.objs.size, upd H s.heap.objs.size (.dT (mergeT [] prs)), I.laid (t' := tk) (fun b o e => k b o (fun z => nomatch z) e) (Nat.le_refl _) ⟨hlen, hm, _, (KT_merge rel .nil).keeps fun b ys e => ?_, o, es, ep, g1, g2, g3, g4, g5⟩, rfl, q _ (I.hok.fresh (Nat.le_refl _))⟩
    rw [upd_ne (ne_of_none e (I.hok.fresh (Nat.le_refl _)))]
    exact e
end

/-! ### try: .. except C as e: kept = e: the caught one stays known by its class -/
def ExK (cls : Value) (d : Option Addr) (a : Addr) : HO := .ext fun h => ∃ (oe : Obj) (vs : Array Value), h.get? a = some oe ∧ Zc cls d oe ∧ oe.data = .fields vs
theorem exK_ok {P : Program} {w : World} {H : Hp} {h : Heap} {a : Addr} {cls : Value} {d : Option Addr} {oe : Obj} {vs : Array Value} (e : h.get? a = some oe) (z : Zc cls d oe) (dd : oe.data = .fields vs) : ObjOk P w H h a (ExK cls d a) :=
  ⟨⟨oe, vs, e, z, dd⟩, ⟨oe, e⟩, fun _ _ ⟨o, v, q, r⟩ k => ⟨o, v, k o q, r⟩⟩
section
variable {X : Cx} {pins : List (Addr × Obj)} {σ : L2.St} {H : Hp} {s : Shared}
/-- a pinned exception that came behind the entry becomes tracked -/
theorem keep_exc {a : Addr} {oe : Obj} {vs : Array Value} {cls : Value} {d : Option Addr} (J : Inv X ((a, oe) :: pins) σ H s) (z : Zc cls d oe) (dd : oe.data = .fields vs) (h0 : X.s_0.heap.get? a = none) (np : ∀ p ∈ X.pn ++ pins, p.1 ≠ a) : Inv X pins σ (upd H a (ExK cls d a)) s := by
  obtain ⟨ea, na, nL, nF, nc⟩ := J.pin (a, oe) (List.mem_append_right _ List.mem_cons_self)
  have ne : ∀ {b : Addr} {o : HO}, H b = some o → b ≠ a := fun e q => by
    rw [q] at e
    have na' : H a = none := na
    rw [na'] at e
    cases e
  refine ⟨J.ok, J.os, J.bare, ⟨J.base.keep, J.base.slot, fun b o e n hx => ?_, J.base.there, fun b xs e => ?_, fun b o u e => ?_, fun b ps e => ?_⟩, J.loc, J.cell, ?_, fun x c e => ?_, fun p hp => ?_, fun b o e => ?_, J.len⟩
  · have hb : b ≠ a := fun q => by
      rw [q, h0] at e
      cases e
    rw [upd_ne hb]
    exact J.base.free b o e n hx
  · have e2 := J.base.tups b xs e
    rw [upd_ne (ne e2)]
    exact e2
  · have e2 := J.base.frzs b o u e
    rw [upd_ne (ne e2)]
    exact e2
  · obtain ⟨more, e2⟩ := J.base.tbls b ps e
    refine ⟨more, ?_⟩
    rw [upd_ne (ne e2)]
    exact e2
  · rw [upd_ne (fun q => nL q.symm)]
    exact J.free
  · have hc : c ≠ a := fun q => by
      obtain ⟨v, o, e1, e2⟩ := J.cell x c e
      rw [q] at e1
      have ea' : s.heap.get? a = some oe := ea
      rw [ea'] at e1
      cases e1
      rw [dd] at e2
      cases e2
    rw [upd_ne hc]
    exact J.freeC x c e
  · have hp' : p ∈ X.pn ++ (a, oe) :: pins := by
      rcases List.mem_append.mp hp with k | k
      · exact List.mem_append_left _ k
      · exact List.mem_append_right _ (List.mem_cons_of_mem _ k)
    obtain ⟨q1, q2, q3, q4, q5⟩ := J.pin p hp'
    exact ⟨q1, by rw [upd_ne (np p hp)]; exact q2, q3, q4, q5⟩
  · by_cases hb : b = a
    · subst hb
      rw [upd_same] at e
      cases e
      exact exK_ok ea z dd
    · rw [upd_ne hb] at e
      refine (J.hok b o e).stay (fun c u _ q => q) (fun c q => ?_) fun c xs q => ?_
      · rw [upd_ne (ne q)]
        exact q
      · rw [upd_ne (ne q)]
        exact q
end
/-- what the clause wishes of an exception of the body: it is caught, kept in slot j; the clause's own name, slot i, is empty behind it -/
def wKeep (K : PySem.W.Frag) (c : Addr) (i j : Nat) (D : Ends) : WX := fun cls d σ H =>
  PySem.W.exmOne K cls (.ref c) = some true ∧ ∀ a, H a = none → D.nx (((σ.set i (some (.ref a))).set j (some (.ref a))).set i none) (upd H a (ExK cls d a))
def tTryKeep (K : PySem.W.Frag) (c : Addr) (i j : Nat) (tb : WX → TS) : TS := fun D σ H => tb (wKeep K c i j D) D σ H
section
variable {X : Cx} {x n : Str} {c : Addr} {i j : Nat} {body suite : List Stmt} {b1 : Stmt} {np pos pos' : Pos} {tb : WX → TS}
/-- an exception caught, its clause ended, it is tracked -/
theorem caught_kept {a : Addr} {pins : List (Addr × Obj)} {σ : L2.St} {H : Hp} {B : Heap} {sI s' : Shared} {cls : Value} {d : Option Addr} {D : Ends}
    (hs : X.stack = X.env :: X.outer) (hf : X.env.frame = some X.env.locals) (hex : X.ex = []) (hN : X.N.Nodup) (hi : X.N[i]? = some n) (hln : X.env.kindOf n = some .local) (hc : Names X x (.ref c)) (ok : X.Ok)
    (hsu : ∀ (a : Addr) (oe : Obj) (cls : Value) (d : Option Addr) (pn : List (Addr × Obj)), Zc cls d oe → (∃ vs, oe.data = .fields vs) → PSs (X.suite a ((a, oe) :: pn)) (b1 :: suite) (tAsg (tVar i) (gName j)))
    (hln2 : i < σ.length)
    (J : Inv X pins σ H sI) (nb : ∀ b o, sI.heap.get? b = some o → b ∉ frs X.stack → B.get? b = some o) (up : sI.heap.UpToSlots s'.heap) (sky : Sky B X.stack a (Zc cls d) X.env.locals s'.heap) (na : H a = none) (os : s'.os = sI.os) (ag : AllBare s'.gens)
    (w : wKeep X.K c i j D cls d σ H) :
    wpAny (model X.prog X.w) X.A (noteFrame (.ref a) X.env) (fun _ s₂ => wpAny (model X.prog X.w) X.A (setFlight (.ref a) none) (fun _ s₃ =>
      wpAny (model X.prog X.w) X.A (handleBy (.ref a) X.env [.ExceptHandler (some (.Name x np)) (some n) (b1 :: suite) pos']) (SP X pins D) X.xe s₃) X.xe s₂) X.xe s' := by
  obtain ⟨hb, hyes⟩ := w
  have frames : X.A.frames = some (X.env :: X.outer) := ok.frames.trans (congrArg some hs)
  have sky2 : Sky B (X.env :: X.outer) a (Zc cls d) X.env.locals s'.heap := hs ▸ sky
  -- the exception stands apart from all that stood
  have hB : B.get? a = none := by
    rcases sky with q | q | q
    · exact q.2.1
    · exact q.2.1
    · exact q.2.1
  refine Sky.land Zc.steady frames hf sky2 fun h3 fl3 up3 => ?_
  have J3 : Inv X pins σ H { s' with heap := h3 } := J.landed nb fl3.1 (up.trans up3) os ag
  obtain ⟨oe3, vs3, he3, hz3, hd3⟩ := fl3.there
  have notIn : a ∉ frs (X.env :: X.outer) := fun hm => by
    obtain ⟨_, o, e, hnf⟩ := fl3.2.2.1.mem hm
    rw [he3] at e
    cases e
    exact hnf _ hd3
  have nL : a ≠ X.env.locals := fun z => notIn (List.mem_filterMap.mpr ⟨X.env, List.mem_cons_self, hf.trans (congrArg some z.symm)⟩)
  have nF : a ∉ X.fs := fun hm => by
    obtain ⟨e, he, q⟩ := List.mem_filterMap.mp hm
    exact notIn (List.mem_filterMap.mpr ⟨e, List.mem_cons_of_mem _ he, q⟩)
  have nS : a ∉ frs X.stack := hs ▸ notIn
  have h0 : X.s_0.heap.get? a = none := by
    cases q : X.s_0.heap.get? a with
    | none => rfl
    | some o =>
      obtain ⟨o', e⟩ := J.base.there a o q (by rw [hex]; simp)
      rw [nb a o' e nS] at hB
      cases hB
  have npin : ∀ p ∈ X.pn ++ pins, p.1 ≠ a := fun p hp z => by
    obtain ⟨e, _, p3, p4, _⟩ := J.pin p hp
    rw [z] at e
    rw [nb a p.2 e nS] at hB
    cases hB
  refine wpAny_handleBy_cons (codeAny_handlers_test ?_) (by intro q; cases q)
  have S3 := J3.suite he3 hd3 na nL nF
  have LT : PySem.W.Looks (model X.prog X.w) h3 (typeOf (.ref a)) cls := fun A Q E s k q => wpAny_typeOf_ref (k _ _ he3) (by rw [hz3.1]; exact q)
  have test : ∀ {Q : Value → Shared → Prop} {E : Value → Shared → Prop}, Q (.ref c) { s' with heap := h3 } → wpAny (model X.prog X.w) (X.A.mark (some (.ref a))) (eval (.Name x np) X.env) Q E { s' with heap := h3 } := fun {Q E} q => by
    obtain ⟨hg, hdbg, hm | ⟨hm, hv, hnn⟩⟩ := hc
    · exact ld_glob (X := X.suite a ((a, oe3) :: (X.pn ++ pins))) S3 hg hm q hdbg
    · exact ld_blt (X := X.suite a ((a, oe3) :: (X.pn ++ pins))) S3 hg hm hv q hnn hdbg
  refine test ((PySem.W.exm_one (M := model X.prog X.w) J3.kIn LT hb).here ?_)
  refine codeAny_handlers_suite_as (HandSPX.lands_againZ fl3 fun h4 fl4 up4 => ?_)
  have J4 : Inv X pins σ H { s' with heap := h4 } := J.landed nb fl4.1 ((up.trans up3).trans up4) os ag
  obtain ⟨oe4, vs4, he4, hz4, hd4⟩ := fl4.there
  have S4 := J4.suite he4 hd4 na nL nF
  refine store_ok (X := X.suite a ((a, oe4) :: (X.pn ++ pins))) (v := .ref a) S4 hN hi (.inl hln) rfl (fun s5 S5 => ?_) (.inr hln)
  have q5 : (tAsg (tVar i) (gName j)) { nx := fun σ' H' => H' = H ∧ σ' = (σ.set i (some (.ref a))).set j (some (.ref a)), rt := fun _ _ => False } (σ.set i (some (.ref a))) H := by
    exact ⟨.ref a, by rw [List.getElem?_set_self hln2], rfl, rfl⟩
  refine wpAny_mono ((hsu a oe4 cls d (X.pn ++ pins) hz4 ⟨_, hd4⟩).run [] s5 _ H _ S5 q5) (fun f s6 hsp => ?_) (fun _ _ z => False.elim z)
  cases f with
  | next =>
    obtain ⟨σ6, H6, S6, rfl, rfl⟩ := hsp
    have P6 : Inv X ((a, oe4) :: pins) ((σ.set i (some (.ref a))).set j (some (.ref a))) H6 s6 :=
      ⟨ok, S6.os, S6.bare, S6.base, S6.loc, S6.cell, S6.free, S6.freeC, fun p hp => S6.pin p (by
        rw [List.append_nil]
        rcases List.mem_append.mp hp with k | k
        · exact List.mem_cons_of_mem _ (List.mem_append_left _ k)
        · rcases List.mem_cons.mp k with k | k
          · rw [k]; exact List.mem_cons_self
          · exact List.mem_cons_of_mem _ (List.mem_append_right _ k)), S6.hok, S6.len⟩
    refine gone_ok P6 hN hi hln fun s7 J7 => ?_
    exact ⟨_, _, keep_exc J7 hz4 hd4 h0 npin, hyes a na⟩
  | brk =>
    obtain ⟨_, _, _, q⟩ := hsp
    exact q.elim
  | cont =>
    obtain ⟨_, _, _, q⟩ := hsp
    exact q.elim
  | ret u =>
    obtain ⟨_, _, _, _, _, q⟩ := hsp
    exact q.elim
theorem ps_try_keep (hs : X.stack = X.env :: X.outer) (hf : X.env.frame = some X.env.locals) (hex : X.ex = []) (hN : X.N.Nodup) (hi : X.N[i]? = some n) (hln : X.env.kindOf n = some .local) (hc : Names X x (.ref c))
    (hb : ∀ (W : WX) (pn : List (Addr × Obj)) (xe : Value → Shared → Prop), Takes (X.tr pn xe) W → PassesOwn (model X.prog X.w) X.A X.env xe → PSs (X.tr pn xe) body (tb W))
    (hsu : ∀ (a : Addr) (oe : Obj) (cls : Value) (d : Option Addr) (pn : List (Addr × Obj)), Zc cls d oe → (∃ vs, oe.data = .fields vs) → PSs (X.suite a ((a, oe) :: pn)) (b1 :: suite) (tAsg (tVar i) (gName j))) :
    PS X (.Try body [.ExceptHandler (some (.Name x np)) (some n) (b1 :: suite) pos'] [] [] pos) (tTryKeep X.K c i j tb) := by
  refine ⟨fun pins s σ H D I h => wpAny_Try_except ?_⟩
  have ok := I.ok
  refine wpAny_mono ((hb (wKeep X.K c i j D) (X.pn ++ pins) (fun e s₁ => wpAny (model X.prog X.w) X.A (noteFrame e X.env) (fun _ s₂ => wpAny (model X.prog X.w) X.A (setFlight e none) (fun _ s₃ =>
    wpAny (model X.prog X.w) X.A (handleBy e X.env [.ExceptHandler (some (.Name x np)) (some n) (b1 :: suite) pos']) (SP X pins D) X.xe s₃) X.xe s₂) X.xe s₁) (fun u s' xx => ?_) PassesOwn.looking).run [] s σ H D (I.toTry _) h) (fun f s1 hsp => ?_) (fun e s1 he => he)
  · obtain ⟨a, B, sI, pins', σ', H', cls, d, rfl, J', nb, up, sky, na, os, ag, w⟩ := xx
    have il : i < σ'.length := by
      have e1 := (List.getElem?_eq_some_iff.mp hi).1
      have e2 := J'.len
      have e3 : σ'.length = X.N.length := e2
      omega
    exact caught_kept hs hf hex hN hi hln hc ok hsu il (J'.ofTry ok) nb up sky na os ag w
  · cases f with
    | next =>
      obtain ⟨σ', H', J', q⟩ := hsp
      exact wpAny_execs_nil ⟨σ', H', J'.ofTry ok, q⟩
    | brk =>
      obtain ⟨σ', H', J', q⟩ := hsp
      exact ⟨σ', H', J'.ofTry ok, q⟩
    | cont =>
      obtain ⟨σ', H', J', q⟩ := hsp
      exact ⟨σ', H', J'.ofTry ok, q⟩
    | ret u =>
      obtain ⟨v, σ', H', J', r, q⟩ := hsp
      exact ⟨v, σ', H', J'.ofTry ok, r, q⟩
end

/-! ### isinstance of a kept exception; a call, inside a try, of a local that holds a def -/
structure ExG (K : PySem.W.Frag) (C : Addr) : Prop where
  c : ExcC K C
  ty : PySem.W.typeIn K (.ref C) = some (.type "type")
  self : PySem.W.subIn K (.ref C) (.ref C) = some true
theorem cls_some {K : PySem.W.Frag} {C : Addr} (h : PySem.W.hasDictIn K C = true) : (PySem.W.clsIn K C).isSome = true := by
  obtain ⟨cd, hc, _⟩ := PySem.W.any_some h
  rw [hc]
  rfl
theorem kit_ref {K : PySem.W.Frag} {C D : Addr} {b : Bool} (g : ExG K C) (h : PySem.W.subIn K (.ref D) (.ref C) = some b) : PySem.W.kitOne K (.ref D) (.ref C) = some b := by
  unfold PySem.W.kitOne
  by_cases e : (Value.ref D == Value.ref C) = true
  · rw [if_pos e]
    have e2 : D = C := Value.ref.inj (beq_iff_eq.mp e)
    subst e2
    rw [g.self] at h
    exact h
  · rw [if_neg e]
    have e2 : ((PySem.W.clsIn K C).isSome && PySem.W.typeIn K (.ref C) == some (.type "type")) = true := by rw [cls_some g.c.hd, g.ty] <;> rfl
    show (if ((PySem.W.clsIn K C).isSome && PySem.W.typeIn K (.ref C) == some (.type "type")) = true then PySem.W.subIn K (.ref D) (.ref C) else none) = some b
    rw [if_pos e2]
    exact h
theorem kit_typ {K : PySem.W.Frag} {D : Addr} {T : String} {b : Bool} (hm : PySem.W.kitMeta T = true) (h : PySem.W.subIn K (.ref D) (.type T) = some b) : PySem.W.kitOne K (.ref D) (.type T) = some b := by
  unfold PySem.W.kitOne
  have e : ¬ (Value.ref D == Value.type T) = true := fun z => by cases beq_iff_eq.mp z
  rw [if_neg e]
  show (if PySem.W.kitMeta T = true then PySem.W.subIn K (.ref D) (.type T) else none) = some b
  rw [if_pos hm]
  exact h
theorem exm_of {K : PySem.W.Frag} {C : Addr} {cls : Value} {b : Bool} (g : ExG K C) (h : PySem.W.subIn K cls (.ref C) = some b) : PySem.W.exmOne K cls (.ref C) = some b := PySem.W.exm_ref g.c.hs g.c.hd g.ty h
inductive TyE (K : PySem.W.Frag) (H : Hp) : V → Value → Prop where
  | old {x : V} {t : Value} : TyX K H x t → TyE K H x t
  | exc {a D : Addr} : H a = some (ExK (.ref D) none a) → ExcC K D → TyE K H (.ref a) (.ref D)
def rIsiE (K : PySem.W.Frag) : List V → Hp → VK → Prop := fun xs H Q => ∃ (x c : V) (t u : Value) (b : Bool), xs = [x, c] ∧ ClsV c u ∧ TyE K H x t ∧ PySem.W.kitOne K t u = some b ∧ Q (.bl b) H
def rIsiTE (K : PySem.W.Frag) : List V → Hp → VK → Prop := fun xs H Q => ∃ (x : V) (tp : Addr) (cs : List V) (t : Value) (us : List Value) (b : Bool), xs = [x, .ref tp] ∧ H tp = some (.tup cs) ∧ Paired ClsV cs us ∧ TyE K H x t ∧ PySem.W.kitAny K t us = some b ∧ Q (.bl b) H
section
variable {X : Cx} {pins : List (Addr × Obj)} {σ : L2.St} {H : Hp} {s : Shared}
theorem kit_ofE {x : V} {u t : Value} (I : Inv X pins σ H s) (rx : RelV x u) (ty : TyE X.K H x t) : ∃ P : Heap → Prop, PySem.W.KitX X.K u t P ∧ P s.heap ∧ u ≠ .builtin "__main__.__loader__#opaque" := by
  cases ty with
  | old ty => exact kit_of I rx ty
  | @exc a D e C =>
    cases (show u = Value.ref a from rx)
    obtain ⟨⟨oe, vs, e1, z, dd⟩, _, _⟩ := (show ObjOk X.prog X.w H s.heap a (ExK (.ref D) none a) from I.hok a _ e)
    have J : PySem.W.InstAt s.heap a oe D none := by
      obtain ⟨oc, od, oda, osl⟩ := oe
      obtain ⟨h1, h2⟩ := z
      dsimp only at h1 h2 dd
      subst h1 h2 dd
      exact ⟨e1, rfl, rfl, trivial⟩
    exact ⟨_, PySem.W.handS_kitx_exc C.hg C.hk C.hs C.hd C.ha C.hn C.ht C.hm, J, fun z => nomatch z⟩
theorem call_isiE : CallR X (.builtin "isinstance") (rIsiE X.K) := by
  intro pins s σ H xs us Q I r h
  obtain ⟨x, c, t, u, b, rfl, k, ty, e, q⟩ := h
  obtain ⟨u1, u2, rfl, r1, r2⟩ := vals2 r
  have e2 := k.eq r2
  subst e2
  obtain ⟨P, Z, p, hx⟩ := kit_ofE I r1 ty
  exact PySem.W.kia_one Z I.kIn p e hx fun tk => ⟨.bl b, H, I.tok tk, rfl, q⟩
theorem call_isiTE : CallR X (.builtin "isinstance") (rIsiTE X.K) := by
  intro pins s σ H xs us Q I r h
  obtain ⟨x, tp, cs, t, ws, b, rfl, hT, k, ty, e, q⟩ := h
  obtain ⟨u1, u2, rfl, r1, r2⟩ := vals2 r
  cases (show u2 = Value.ref tp from r2)
  obtain ⟨P, Z, p, hx⟩ := kit_ofE I r1 ty
  obtain ⟨_, its, rv, o, h1, h2, n, h3⟩ := (show ObjOk X.prog X.w H s.heap tp (.tup cs) from I.hok tp _ hT)
  have e3 := ClsV.all k rv
  subst e3
  obtain ⟨oc, od, dt, sl⟩ := o
  simp only at h2 h3
  subst h2 h3
  exact PySem.W.kia_tup Z I.kIn p h1 e hx fun tk => ⟨.bl b, H, I.tok tk, rfl, q⟩
end
/-- a def that a local may hold -/
structure Hd (P : Program) (w : World) (K : PySem.W.Frag) (mg : Str → Option Value) (base : Heap) (CX : CXT) (kk : Nat) (f : Addr) (sp : Sp) : Prop where
  ex : ∃ (k : Nat) (fd : FuncData) (ps : List Str), k ≤ kk ∧ FnOk P w K mg base CX k f fd ps sp ∧ Binds K fd ps []
  kp : PySem.W.keepIn K (.ref f) = true
theorem hd_of {P : Program} {w : World} {K : PySem.W.Frag} {mg : Str → Option Value} {base : Heap} {CX : CXT} {k kk : Nat} {x : Str} {f : Addr} {ps : List Str} {sp : Sp} (G : Cb P w K mg base CX k x f ps sp) (h : k ≤ kk) : Hd P w K mg base CX kk f sp := by
  obtain ⟨⟨fd, F, b⟩, g, kp⟩ := G
  exact ⟨⟨k, fd, ps, h, F, b⟩, kp⟩
def tCallD (i : Nat) (S : Addr → Sp → Prop) (E : L2.St → XK) (t : TA) : TE := fun σ H Q => ∃ f sp, σ[i]? = some (some (.ref f)) ∧ S f sp ∧ t σ H fun vs H1 => sp vs H1 Q (E σ)
theorem pe_callD {X : Cx} {CX : CXT} {kk i : Nat} {S : Addr → Sp → Prop} {E : L2.St → XK} {x : Str} {p pos : Pos} {e : Expr} {es : List Expr} {t : TA} (A : ∀ f sp, S f sp → Hd X.prog X.w X.K X.mg X.base CX kk f sp) (hr : Room kk X.A) (hx : ∀ σ, PassesAt CX X σ (E σ))
    (ha : PA X (e :: es) t) (hN : X.N[i]? = some x := by rfl) (hv : Vis X.env.scope x := by first | exact Or.inl rfl | exact Or.inr (Or.inl rfl) | exact Or.inr (Or.inr rfl))
    (hdb : (x == ("__debug__" : Str)) = false := by decide) (hcd : (x == ("__classdict__" : Str)) = false := by decide)
    (he : starEach (e :: es) X.env = (false, eval e X.env) :: starEach es X.env := by rfl) (hpl : (backTo pos (starEach es X.env)).any (·.1) = false := by rfl) : PE X (.Call (.Name x p) (e :: es) [] pos) (tCallD i S E t) := by
  refine ⟨fun pins s σ H Q I h => ?_⟩
  obtain ⟨f, sp, hs, hS, ht⟩ := h
  obtain ⟨⟨k, fd, ps, hk, F, hb⟩, kp⟩ := A f sp hS
  refine wpAny_Call_Name_kw (thn ((pe_var (pos := p) hN hv hdb hcd).run pins s σ H (fun v H1 => v = .ref f ∧ H1 = H) I ⟨.ref f, hs, rfl, rfl⟩) fun u s1 ⟨v, H1, I1, r1, q1⟩ => ?_)
  obtain ⟨rfl, rfl⟩ := q1
  cases r1
  refine PySem.W.callWith_K (h₀ := X.base) I.ok.mod.kin kp (thn (ha.run pos pins s1 σ _ _ I1 ht) fun us s2 ⟨vs, H2, I2, r, q⟩ => ⟨I2.kIn, ?_⟩) he hpl
  exact run_fnS F (hr.mono hk) hb (hx σ) I2 r q

/-! ### good wishes: counting -/
theorem sub_len : ∀ {l1 l2 : List Int}, l1.Nodup → (∀ x ∈ l1, x ∈ l2) → l1.length ≤ l2.length
  | [], _, _, _ => Nat.zero_le _
  | x :: r, l2, nd, h => by
    obtain ⟨n1, n2⟩ := List.nodup_cons.mp nd
    have hx := h x List.mem_cons_self
    have ih := sub_len (l1 := r) (l2 := l2.erase x) n2 fun y hy => by
      have ne : y ≠ x := fun e => n1 (e ▸ hy)
      exact (List.mem_erase_of_ne ne).mpr (h y (List.mem_cons_of_mem _ hy))
    have e := List.length_erase_of_mem hx
    have p : 0 < l2.length := List.length_pos_of_mem hx
    rw [List.length_cons]
    omega
def upTo (lo : Int) (k : Nat) : List Int := (List.range k).map fun (i : Nat) => lo + (i : Int)
theorem mem_upTo {lo x : Int} {k : Nat} : x ∈ upTo lo k ↔ lo ≤ x ∧ x < lo + k := by
  unfold upTo
  simp only [List.mem_map, List.mem_range]
  constructor
  · rintro ⟨i, hi, rfl⟩
    omega
  · rintro ⟨h1, h2⟩
    exact ⟨(x - lo).toNat, by omega, by omega⟩
theorem upTo_len {lo : Int} {k : Nat} : (upTo lo k).length = k := by simp [upTo]
theorem upTo_nodup {lo : Int} {k : Nat} : (upTo lo k).Nodup := by
  unfold upTo
  exact (List.pairwise_map.mpr (List.Pairwise.imp (fun h => by omega) List.pairwise_lt_range))
theorem len_le_of {l : List Int} {lo : Int} {k : Nat} (nd : l.Nodup) (h : ∀ x ∈ l, lo ≤ x ∧ x < lo + k) : l.length ≤ k := by
  have := sub_len nd fun x hx => mem_upTo.mpr (h x hx)
  rw [upTo_len] at this
  exact this
theorem le_len_of {l : List Int} {lo : Int} {k : Nat} (h : ∀ x, lo ≤ x → x < lo + k → x ∈ l) : k ≤ l.length := by
  have := sub_len (upTo_nodup (lo := lo) (k := k)) fun x hx => by
    obtain ⟨h1, h2⟩ := mem_upTo.mp hx
    exact h x h1 h2
  rw [upTo_len] at this
  exact this
/-- how many of them are b or more -/
def cntGe (l : List Int) (b : Int) : Nat := (l.filter fun w => decide (b ≤ w)).length
theorem cntGe_snoc (l : List Int) (w b : Int) : cntGe (l ++ [w]) b = cntGe l b + if b ≤ w then 1 else 0 := by
  unfold cntGe
  rw [List.filter_append, List.length_append]
  by_cases h : b ≤ w <;> simp [List.filter, h]
theorem cntGe_le (l : List Int) (b : Int) : cntGe l b ≤ l.length := List.length_filter_le _ _
theorem cntGe_perm {l l' : List Int} (h : l.Perm l') (b : Int) : cntGe l b = cntGe l' b := (h.filter _).length_eq
theorem somes_snoc (l : List (Option Int)) (o : Option Int) : somes (l ++ [o]) = somes l ++ o.toList := by
  unfold somes
  rw [List.filterMap_append]
  cases o <;> rfl
/-- what holds behind ships that came -/
structure Lay (n : Nat) (ws : List Int) : Prop where
  occ : ∀ x, (prun n ws).1 x = true ↔ x ∈ somes (placedL n ws)
  nd : (somes (placedL n ws)).Nodup
  bd : ∀ x ∈ somes (placedL n ws), 1 ≤ x ∧ x ≤ n
  few : ∀ b, (b ≤ 1 ∨ (prun n ws).1 (b - 1) = false) → cntGe (somes (placedL n ws)) b ≤ cntGe ws b
  many : none ∉ placedL n ws → ∀ b, cntGe ws b ≤ cntGe (somes (placedL n ws)) b
  crowd : none ∈ placedL n ws → ∃ b : Int, 1 ≤ b ∧ b ≤ n ∧ (n : Int) - b + 1 < cntGe ws b
theorem placedL_snoc {n : Nat} {ws : List Int} {w : Int} : placedL n (ws ++ [w]) = placedL n ws ++ [ffree n (prun n ws).1 w] := by
  unfold placedL
  rw [prun_snoc]
  unfold pstep
  cases ffree n (prun n ws).1 w <;> rfl
theorem occ_snoc {n : Nat} {ws : List Int} {w : Int} : (prun n (ws ++ [w])).1 = match ffree n (prun n ws).1 w with | none => (prun n ws).1 | some b => setO (prun n ws).1 b := by
  rw [prun_snoc]
  unfold pstep
  cases ffree n (prun n ws).1 w <;> rfl
/-- the least one from which on all are held -/
theorem least_full {occ : Int → Bool} : ∀ (k : Nat), (∀ x, (k : Int) + 1 ≤ x → x ≤ k + 1 → occ x = true) → ∀ m : Int, (∀ x, (k : Int) + 1 ≤ x → x ≤ m → occ x = true) → ∃ b : Int, 1 ≤ b ∧ b ≤ k + 1 ∧ (∀ x, b ≤ x → x ≤ m → occ x = true) ∧ (b ≤ 1 ∨ occ (b - 1) = false)
  | 0, _, m, h => ⟨1, by omega, by omega, fun x h1 h2 => h x (by omega) h2, .inl (by omega)⟩
  | k + 1, h0, m, h => by
    cases e : occ ((k : Int) + 1) with
    | false => exact ⟨(k : Int) + 1 + 1, by omega, by omega, fun x h1 h2 => h x (by omega) h2, .inr (by rw [show (k : Int) + 1 + 1 - 1 = (k : Int) + 1 by omega]; exact e)⟩
    | true =>
      obtain ⟨b, b1, b2, b3, b4⟩ := least_full (occ := occ) k (fun x h1 h2 => by rw [show x = (k : Int) + 1 by omega]; exact e) m fun x h1 h2 => by
        by_cases z : x = (k : Int) + 1
        · rw [z]; exact e
        · exact h x (by omega) h2
      exact ⟨b, b1, by omega, b3, b4⟩
theorem lay (n : Nat) : ∀ ws : List Int, (∀ w ∈ ws, 1 ≤ w ∧ w ≤ n) → Lay n ws := snoc_ind (fun _ => ⟨fun x => by simp [prun, placedL, somes], List.nodup_nil, fun x hx => (by cases hx), fun b _ => Nat.zero_le _, fun _ b => Nat.le_refl _, fun h => (by cases h)⟩) fun ws w ih hb => by
  have hw := hb w (List.mem_append_right _ (List.mem_singleton.mpr rfl))
  obtain ⟨i1, i2, i3, i4, i5, i6⟩ := ih fun x hx => hb x (List.mem_append_left _ hx)
  cases e : ffree n (prun n ws).1 w with
  | none =>
    have es : somes (placedL n (ws ++ [w])) = somes (placedL n ws) := by rw [placedL_snoc, e, somes_snoc]; simp
    have eo : (prun n (ws ++ [w])).1 = (prun n ws).1 := by rw [occ_snoc, e]
    have full := ffree_none e
    refine ⟨fun x => by rw [eo, es]; exact i1 x, by rw [es]; exact i2, by rw [es]; exact i3, fun b h => ?_, fun h => ?_, fun _ => ?_⟩
    · rw [es, cntGe_snoc]
      rw [eo] at h
      have := i4 b h
      omega
    · rw [placedL_snoc, e] at h
      exact absurd (List.mem_append_right _ (List.mem_singleton.mpr rfl)) h
    · obtain ⟨b, b1, b2, b3, b4⟩ := least_full (occ := (prun n ws).1) (w - 1).toNat (fun x h1 h2 => full x (by omega) (by omega)) n fun x h1 h2 => full x (by omega) h2
      have c1 := i4 b b4
      have c2 : ((n : Int) - b + 1).toNat ≤ cntGe (somes (placedL n ws)) b := le_len_of (lo := b) fun x h1 h2 => List.mem_filter.mpr ⟨(i1 x).mp (b3 x h1 (by omega)), by simpa using h1⟩
      refine ⟨b, b1, by omega, ?_⟩
      rw [cntGe_snoc, if_pos (by omega)]
      omega
  | some x =>
    have es : somes (placedL n (ws ++ [w])) = somes (placedL n ws) ++ [x] := by rw [placedL_snoc, e, somes_snoc]; rfl
    have eo : (prun n (ws ++ [w])).1 = setO (prun n ws).1 x := by rw [occ_snoc, e]
    obtain ⟨x1, x2, x3, x4⟩ := ffree_some e
    have hn : x ∉ somes (placedL n ws) := fun z => by
      rw [(i1 x).mpr z] at x3
      cases x3
    refine ⟨fun y => ?_, ?_, ?_, fun b h => ?_, fun h b => ?_, fun h => ?_⟩
    · rw [eo, es, List.mem_append, List.mem_singleton, ← i1 y]
      unfold setO
      by_cases z : y = x <;> simp [z]
    · rw [es, List.nodup_append]
      exact ⟨i2, by simp, fun a ha b hb => by rw [List.mem_singleton.mp hb]; exact fun z => hn (z ▸ ha)⟩
    · intro y hy
      rw [es] at hy
      rcases List.mem_append.mp hy with k | k
      · exact i3 y k
      · rw [List.mem_singleton.mp k]
        omega
    · rw [es, cntGe_snoc, cntGe_snoc]
      have h' : b ≤ 1 ∨ (prun n ws).1 (b - 1) = false := by
        rcases h with h | h
        · exact .inl h
        · rw [eo] at h
          unfold setO at h
          exact .inr (Bool.or_eq_false_iff.mp h).2
      have := i4 b h'
      by_cases hbx : b ≤ x
      · have hbw : b ≤ w := by
          by_cases z : b ≤ w
          · exact z
          · rcases h' with h' | h'
            · omega
            · rw [x4 (b - 1) (by omega) (by omega)] at h'
              cases h'
        rw [if_pos hbx, if_pos hbw]
        omega
      · rw [if_neg hbx]
        omega
    · have h' : none ∉ placedL n ws := fun z => h (by rw [placedL_snoc]; exact List.mem_append_left _ z)
      have := i5 h' b
      rw [es, cntGe_snoc, cntGe_snoc]
      by_cases z : b ≤ w
      · rw [if_pos z, if_pos (by omega)]
        omega
      · rw [if_neg z]
        omega
    · rw [placedL_snoc, e] at h
      rcases List.mem_append.mp h with k | k
      · obtain ⟨b, b1, b2, b3⟩ := i6 k
        refine ⟨b, b1, b2, ?_⟩
        rw [cntGe_snoc]
        omega
      · simp at k
/-- the last berth from which on more wish -/
def downTo (n : Nat) : List Int := (List.range n).map fun (i : Nat) => (n : Int) - (i : Int)
def crowdedL (n : Nat) (ws : List Int) : Option Int := (downTo n).find? fun b => decide ((n : Int) - b + 1 < (cntGe ws b : Int))
theorem mem_downTo {n : Nat} {x : Int} : x ∈ downTo n ↔ 1 ≤ x ∧ x ≤ n := by
  unfold downTo
  simp only [List.mem_map, List.mem_range]
  constructor
  · rintro ⟨i, hi, rfl⟩
    omega
  · rintro ⟨h1, h2⟩
    exact ⟨(n - x).toNat, by omega, by omega⟩
theorem crowded_none {n : Nat} {ws : List Int} : crowdedL n ws = none ↔ ∀ b : Int, 1 ≤ b → b ≤ n → (cntGe ws b : Int) ≤ n - b + 1 := by
  unfold crowdedL
  rw [List.find?_eq_none]
  simp only [decide_eq_true_eq, Int.not_lt]
  exact ⟨fun h b b1 b2 => h b (mem_downTo.mpr ⟨b1, b2⟩), fun h b hb => h b (mem_downTo.mp hb).1 (mem_downTo.mp hb).2⟩
theorem good_iff {n : Nat} {ws : List Int} (hb : ∀ w ∈ ws, 1 ≤ w ∧ w ≤ n) : crowdedL n ws = none ↔ none ∉ placedL n ws := by
  have L := lay n ws hb
  rw [crowded_none]
  constructor
  · intro h z
    obtain ⟨b, b1, b2, b3⟩ := L.crowd z
    have := h b b1 b2
    omega
  · intro h b b1 b2
    have h1 := L.many h b
    have h2 : cntGe (somes (placedL n ws)) b ≤ ((n : Int) - b + 1).toNat := len_le_of (lo := b) (L.nd.filter _) fun x hx => by
      obtain ⟨k1, k2⟩ := List.mem_filter.mp hx
      have := L.bd x k1
      have k3 : b ≤ x := by simpa using k2
      omega
    omega
/-! in rising order -/
theorem sorted_cut {b : Int} : ∀ {o : List Int}, o.Pairwise (· ≤ ·) → o = o.filter (fun w => !decide (b ≤ w)) ++ o.filter (fun w => decide (b ≤ w))
  | [], _ => rfl
  | x :: r, h => by
    obtain ⟨h1, h2⟩ := List.pairwise_cons.mp h
    by_cases z : b ≤ x
    · have e1 : r.filter (fun w => !decide (b ≤ w)) = [] := List.filter_eq_nil_iff.mpr fun y hy => by
        have := h1 y hy
        simp only [Bool.not_eq_true', decide_eq_false_iff_not]
        omega
      have e2 : r.filter (fun w => decide (b ≤ w)) = r := List.filter_eq_self.mpr fun y hy => by
        have := h1 y hy
        simp only [decide_eq_true_eq]
        omega
      simp [List.filter_cons, z, e1, e2]
    · have ih := sorted_cut (b := b) h2
      simp only [List.filter_cons, z, decide_false, Bool.not_false, if_true, Bool.false_eq_true, if_false, List.cons_append]
      rw [← ih]
def goodS (n : Nat) (o : List Int) : Bool := (List.range o.length).all fun (i : Nat) => decide (o.getD i 0 ≤ (n : Int) - o.length + i + 1)
theorem goodS_iff {n : Nat} {ws : List Int} (hb : ∀ w ∈ ws, 1 ≤ w ∧ w ≤ n) : goodS n (sortI ws) = true ↔ crowdedL n ws = none := by
  have hp := sortI_perm ws
  have hs := sortI_sorted ws
  rw [crowded_none]
  unfold goodS
  simp only [List.all_eq_true, List.mem_range, decide_eq_true_eq]
  generalize hO : sortI ws = o at hp hs
  have hbo : ∀ w ∈ o, 1 ≤ w ∧ w ≤ n := fun w hw => hb w (hp.mem_iff.mp hw)
  constructor
  · intro h b b1 b2
    rw [← cntGe_perm hp b]
    have cut := sorted_cut (b := b) hs
    by_cases z : cntGe o b = 0
    · rw [z]
      omega
    · have hlen : (o.filter (fun w => !decide (b ≤ w))).length + cntGe o b = o.length := by
        unfold cntGe
        rw [← List.length_append, ← cut]
      have hi : (o.filter (fun w => !decide (b ≤ w))).length < o.length := by omega
      have h1 := h _ hi
      have e : o.getD (o.filter (fun w => !decide (b ≤ w))).length 0 = o[(o.filter (fun w => !decide (b ≤ w))).length] := by simp [List.getD_eq_getElem?_getD, List.getElem?_eq_getElem hi]
      rw [e] at h1
      have hm : o[(o.filter (fun w => !decide (b ≤ w))).length] ∈ o.filter (fun w => decide (b ≤ w)) := by
        have e2 : o[(o.filter (fun w => !decide (b ≤ w))).length]? = (o.filter (fun w => decide (b ≤ w)))[0]? := by
          conv => lhs; arg 1; rw [cut]
          rw [List.getElem?_append_right (Nat.le_refl _), Nat.sub_self]
        rw [List.getElem?_eq_getElem hi] at e2
        exact List.mem_of_getElem? e2.symm
      have h2 : b ≤ o[(o.filter (fun w => !decide (b ≤ w))).length] := by simpa using (List.mem_filter.mp hm).2
      omega
  · intro h i hi
    have e : o.getD i 0 = o[i] := by simp [List.getD_eq_getElem?_getD, List.getElem?_eq_getElem hi]
    rw [e]
    have hbi := hbo o[i] (List.getElem_mem hi)
    have h1 := h o[i] hbi.1 hbi.2
    rw [← cntGe_perm hp] at h1
    have h2 : o.length - i ≤ cntGe o o[i] := by
      have e3 : (o.drop i).filter (fun w => decide (o[i] ≤ w)) = o.drop i := List.filter_eq_self.mpr fun y hy => by
        obtain ⟨j, hj, ej⟩ := List.getElem_of_mem hy
        rw [List.getElem_drop] at ej
        simp only [decide_eq_true_eq]
        rw [← ej]
        by_cases z : j = 0
        · subst z
          simp
        · exact List.pairwise_iff_getElem.mp hs i (i + j) hi (by rw [List.length_drop] at hj; omega) (by omega)
      have e4 : (o.filter (fun w => decide (o[i] ≤ w))).length = ((o.take i).filter (fun w => decide (o[i] ≤ w))).length + ((o.drop i).filter (fun w => decide (o[i] ≤ w))).length := by
        rw [← List.length_append, ← List.filter_append, List.take_append_drop]
      unfold cntGe
      rw [e4, e3, List.length_drop]
      omega
    omega

/-! ### crowded, is_good -/
def cntEq (l : List Int) (b : Int) : Nat := (l.filter fun w => decide (w = b)).length
theorem cntEq_snoc (l : List Int) (w b : Int) : cntEq (l ++ [w]) b = cntEq l b + if w = b then 1 else 0 := by
  unfold cntEq
  rw [List.filter_append, List.length_append]
  by_cases h : w = b <;> simp [List.filter, h]
theorem cntGe_step (l : List Int) (b : Int) : cntGe l b = cntGe l (b + 1) + cntEq l b := by
  refine snoc_ind (p := fun l => cntGe l b = cntGe l (b + 1) + cntEq l b) rfl (fun l w ih => ?_) l
  rw [cntGe_snoc, cntGe_snoc, cntEq_snoc, ih]
  by_cases h1 : w = b
  · subst h1
    rw [if_pos (Int.le_refl _), if_neg (by omega), if_pos rfl]
    omega
  · rw [if_neg h1]
    by_cases h2 : b ≤ w
    · rw [if_pos h2, if_pos (by omega)]
      omega
    · rw [if_neg h2, if_neg (by omega)]
      omega
theorem cntGe_top {n : Nat} {ws : List Int} (hb : ∀ w ∈ ws, 1 ≤ w ∧ w ≤ n) : cntGe ws ((n : Int) + 1) = 0 := by
  unfold cntGe
  rw [List.length_eq_zero_iff, List.filter_eq_nil_iff]
  intro w hw
  have := hb w hw
  simp only [decide_eq_true_eq]
  omega
def tallyL (n : Nat) (ws : List Int) : List V := (List.range (n + 1)).map fun (i : Nat) => V.int (cntEq ws (i : Int))
theorem tallyL_at {n : Nat} {ws : List Int} {i : Nat} (h : i ≤ n) : (tallyL n ws)[i]? = some (.int (cntEq ws (i : Int))) := by
  unfold tallyL
  rw [List.getElem?_map, List.getElem?_range (by omega)]
  rfl
theorem tallyL_len {n : Nat} {ws : List Int} : (tallyL n ws).length = n + 1 := by simp [tallyL]
theorem tallyL_set {n : Nat} {ws : List Int} {w : Int} (h0 : 0 ≤ w) (h : w ≤ n) : (tallyL n ws).set w.toNat (.int (cntEq ws w + 1)) = tallyL n (ws ++ [w]) := by
  apply List.ext_getElem?
  intro i
  by_cases hi : i ≤ n
  · rw [tallyL_at hi, cntEq_snoc]
    by_cases e : i = w.toNat
    · subst e
      rw [List.getElem?_set_self (by rw [tallyL_len]; omega)]
      have : ((w.toNat : Nat) : Int) = w := by omega
      rw [this, if_pos rfl]
      rfl
    · rw [List.getElem?_set_ne (Ne.symm e), tallyL_at hi]
      have : ¬ w = ((i : Nat) : Int) := by omega
      rw [if_neg this]
      rfl
  · rw [List.getElem?_eq_none (show ((tallyL n ws).set w.toNat (.int (cntEq ws w + 1))).length ≤ i by rw [List.length_set, tallyL_len]; omega), List.getElem?_eq_none (show (tallyL n (ws ++ [w])).length ≤ i by rw [tallyL_len]; omega)]
theorem tallyL_new {n : Nat} : (List.replicate (n + 1) [V.int 0]).flatten = tallyL n [] := by
  apply List.ext_getElem?
  intro i
  have e : (List.replicate (n + 1) [V.int 0]).flatten = List.replicate (n + 1) (V.int 0) := by
    generalize n + 1 = m
    induction m with
    | zero => rfl
    | succ m ih => rw [List.replicate_succ, List.replicate_succ, List.flatten_cons, ih]; rfl
  rw [e]
  by_cases hi : i ≤ n
  · rw [tallyL_at hi, List.getElem?_replicate_of_lt (by omega)]
    rfl
  · rw [List.getElem?_eq_none (show (List.replicate (n + 1) (V.int 0)).length ≤ i by rw [List.length_replicate]; omega), List.getElem?_eq_none (show (tallyL n []).length ≤ i by rw [tallyL_len]; omega)]
theorem downTo_at {n i : Nat} (h : i < n) : (downTo n)[i]? = some ((n : Int) - i) := by
  unfold downTo
  rw [List.getElem?_map, List.getElem?_range h]
  rfl
theorem find_drop {α : Type} {p : α → Bool} {l : List α} {i : Nat} {x : α} (h : l[i]? = some x) : (l.drop i).find? p = if p x = true then some x else (l.drop (i + 1)).find? p := by
  obtain ⟨hi, rfl⟩ := List.getElem?_eq_some_iff.mp h
  rw [List.drop_eq_getElem_cons hi, List.find?_cons]
  cases p l[i] <;> rfl
def sp_crowded (K : PySem.W.Frag) (a : Ad) : Sp := fun vs H Q E => ∃ b w, vs = [b, w] ∧ ChkW K a b w H E fun n ws _ => ∀ (H' : Hp), Same H H' → Q (vO (crowdedL n ws)) H'
abbrev N_crowded : List Str := ["berths", "wishes", "tally", "wish", "many", "berth"]
def t_crowded (K : PySem.W.Frag) (a : Ad) (E : XK) : TS :=
  (tSeq (tDrop (tCall (sp_check_wishes K a) [] E (tCons (tVar 0) (tCons (tVar 1) tNil))))
    (tSeq (tAsg (tOp rRep (tLst (tCons (tC (.int 0)) tNil)) (tOp rAddI (tVar 0) (tC (.int 1)))) (gName 2))
    (tSeq (tFor (iSeq K (tVar 1)) (gName 3)
    (tAugS (tVar 2) (tVar 3) (tC (.int 1)) (rIxL K) ipAdd rSetL))
    (tSeq (tAsg (tC (.int 0)) (gName 4))
    (tSeq (tFor (iRng3 (tCons (tVar 0) (tCons (tC (.int 0)) (tCons (tUn (rU fun i => .int (-i)) (tC (.int 1))) tNil)))) (gName 5)
    (tSeq (tAug 4 (tOp (rIxL K) (tVar 2) (tVar 5)) ipAdd)
    (tIfS (tTest (tOp rGtI (tVar 4) (tOp rAddI (tOp rSubI (tVar 0) (tVar 5)) (tC (.int 1))))) (tRet (tVar 5)) tNext)))
    (tRet (tC .non)))))))
theorem len_crowded {K : PySem.W.Frag} {a : Ad} {vs : List V} {H : Hp} {Q : VK} {E : XK} (h : sp_crowded K a vs H Q E) : vs.length = 2 := by
  obtain ⟨b, w, rfl, _⟩ := h
  rfl
theorem pu_crowded {K : PySem.W.Frag} {a : Ad} {vs : List V} {H : Hp} {Q : VK} {E : XK} (h : sp_crowded K a vs H Q E) : t_crowded K a E { nx := fun _ H' => Q .non H', rt := Q } (start N_crowded vs) H := by
  obtain ⟨b, w, rfl, h⟩ := h
  refine ⟨b, rfl, w, rfl, b, w, rfl, ChkW.imp h fun n ws p eb ew h1 h2 hs hl hb q => ?_⟩
  subst eb
  subst ew
  -- tally = [0] * (berths + 1)
  refine ⟨by decide, fun l0 nl0 => ⟨.int n, rfl, n, 1, rfl, rfl, l0, _, _, rfl, rfl, upd_same, by omega, by omega, ?_, fun l1 nl1 => ?_⟩⟩
  · refine l1000 ?_
    show 1 * _ ≤ _
    omega
  have e1 : ((n : Int) + 1).toNat = n + 1 := by omega
  rw [e1, tallyL_new]
  have s0 : Same H (upd H l0 (.lst [.int 0])) := same_new nl0
  have n1 : H l1 = none := s0.free nl1
  have s1 := s0.store n1 (o := .lst (tallyL n []))
  refine for_seq (K := K) (H0 := H) (fun Q q => ⟨.ref p, rfl, q⟩) hs (fun i σ H' => (∃ y, σ = [some (.int n), some (.ref p), some (.ref l1), y, none, none]) ∧ Same H H' ∧ H' l1 = some (.lst (tallyL n (ws.take i)))) ⟨⟨none, rfl⟩, s1, upd_same⟩ (fun i σ H' h => h.2.1) ?_ ?_
  · rintro i x σ H' hx ⟨⟨y, rfl⟩, s, eh⟩
    obtain ⟨w, hw, rfl⟩ := item_of hx
    have bw := hb w (List.mem_of_getElem? hw)
    have ex : (tallyL n (ws.take i))[w.toNat]? = some (.int (cntEq (ws.take i) w)) := by
      rw [tallyL_at (by omega)]
      have : ((w.toNat : Nat) : Int) = w := by omega
      rw [this]
    refine ⟨.ref l1, rfl, .int w, rfl, l1, _, w, _, rfl, rfl, sqL_of eh, at_of (j := w.toNat) (by omega) ex, _, 1, rfl, rfl, l1, _, w, w.toNat, rfl, rfl, eh, ?_, ?_⟩
    · unfold ixN
      rw [if_pos (by omega), tallyL_len, if_pos (by omega)]
    refine ⟨⟨_, rfl⟩, s.store n1, ?_⟩
    rw [upd_same]
    rw [tallyL_set (by omega) bw.2, take_more hw]
  · rintro σ H' ⟨⟨y, rfl⟩, s, eh⟩
    rw [List.length_map, List.take_length] at eh
    refine ⟨.int n, rfl, _, rfl, n, 0, -1, ((n : Int) - 0).toNat, rfl, RgC.neg (by omega) (by omega) (by omega) (by omega), ?_⟩
    have en : ((n : Int) - 0).toNat = n := by omega
    rw [en]
    refine for_it walk_rangeC (fun i σ H2 => H2 = H' ∧ (∃ z, σ = [some (.int n), some (.ref p), some (.ref l1), y, some (.int (cntGe ws ((n : Int) - i + 1))), z]) ∧ crowdedL n ws = ((downTo n).drop i).find? fun b => decide ((n : Int) - b + 1 < (cntGe ws b : Int))) ⟨rfl, ⟨none, ?_⟩, rfl⟩ (fun _ _ _ _ _ => trivial) ?_ ?_
    · rw [show (n : Int) - ((0 : Nat) : Int) + 1 = (n : Int) + 1 by omega, cntGe_top hb]
      rfl
    · rintro i x σ H2 H3 hi ⟨rfl, ⟨z, rfl⟩, e⟩ ⟨rfl, ex0⟩
      rw [find_drop (downTo_at hi)] at e
      have ex : (tallyL n ws)[n - i]? = some (.int (cntEq ws ((n : Int) - i))) := by
        rw [tallyL_at (by omega)]
        have : (((n - i : Nat)) : Int) = (n : Int) - i := by omega
        rw [this]
      have ev : (n : Int) + (i : Int) * -1 = (n : Int) - i := by omega
      obtain rfl : x = .int ((n : Int) - i) := by
        rw [ex0]
        show V.int ((n : Int) + (i : Int) * -1) = _
        rw [ev]
      refine ⟨_, rfl, .ref l1, rfl, .int ((n : Int) - i), rfl, l1, _, (n : Int) - i, _, rfl, rfl, sqL_of eh, at_of (j := n - i) (by omega) ex, _, _, rfl, rfl, ?_⟩
      have step := cntGe_step ws ((n : Int) - i)
      refine ⟨_, rfl, .int n, rfl, .int ((n : Int) - i), rfl, n, _, rfl, rfl, _, 1, rfl, rfl, _, _, rfl, rfl, _, rfl, ?_⟩
      have e3 : ((cntGe ws ((n : Int) - i + 1) : Nat) : Int) + (cntEq ws ((n : Int) - i) : Nat) = (cntGe ws ((n : Int) - i) : Nat) := by omega
      refine ite2 (fun h => ?_) (fun h => ?_)
      · have h : (n : Int) - ((n : Int) - i) + 1 < ((cntGe ws ((n : Int) - i + 1) : Nat) : Int) + (cntEq ws ((n : Int) - i) : Nat) := of_decide_eq_true h
        rw [e3] at h
        rw [if_pos (decide_eq_true h)] at e
        refine ⟨.int ((n : Int) - i), rfl, ?_⟩
        have := q _ s
        rw [e] at this
        exact this
      · have h : ¬ (n : Int) - ((n : Int) - i) + 1 < ((cntGe ws ((n : Int) - i + 1) : Nat) : Int) + (cntEq ws ((n : Int) - i) : Nat) := fun z => h (decide_eq_true z)
        rw [e3] at h
        rw [if_neg (by simpa using h)] at e
        have e5 : ((cntGe ws ((n : Int) - i + 1) : Nat) : Int) + (cntEq ws ((n : Int) - i) : Nat) = (cntGe ws ((n : Int) - ((i + 1 : Nat) : Int) + 1) : Nat) := by
          rw [e3]
          have : (n : Int) - ((i + 1 : Nat) : Int) + 1 = (n : Int) - i := by omega
          rw [this]
        exact ⟨rfl, ⟨some (.int ((n : Int) - i)), congrArg (fun t => [some (V.int n), some (V.ref p), some (V.ref l1), y, some (V.int t), some (V.int ((n : Int) - i))]) e5⟩, e⟩
    · rintro σ H2 ⟨rfl, ⟨z, rfl⟩, e⟩
      have hd : (downTo n).drop n = [] := List.drop_eq_nil_of_le (by simp [downTo])
      rw [hd] at e
      have := q _ s
      rw [e] at this
      exact this
def sp_is_good (K : PySem.W.Frag) (a : Ad) : Sp := fun vs H Q E => ∃ b w, vs = [b, w] ∧ ChkW K a b w H E fun n ws _ => ∀ (H' : Hp), Same H H' → Q (.bl (crowdedL n ws).isNone) H'
abbrev N_is_good : List Str := ["berths", "wishes"]
def t_is_good (K : PySem.W.Frag) (a : Ad) (E : XK) : TS :=
  (tRet (tIsN (tCall (sp_crowded K a) [] E (tCons (tVar 0) (tCons (tVar 1) tNil)))))
theorem len_is_good {K : PySem.W.Frag} {a : Ad} {vs : List V} {H : Hp} {Q : VK} {E : XK} (h : sp_is_good K a vs H Q E) : vs.length = 2 := by
  obtain ⟨b, w, rfl, _⟩ := h
  rfl
theorem vO_isN (o : Option Int) : decide (vO o = .non) = o.isNone := by
  cases o <;> rfl
theorem pu_is_good {K : PySem.W.Frag} {a : Ad} {vs : List V} {H : Hp} {Q : VK} {E : XK} (h : sp_is_good K a vs H Q E) : t_is_good K a E { nx := fun _ H' => Q .non H', rt := Q } (start N_is_good vs) H := by
  obtain ⟨b, w, rfl, h⟩ := h
  refine ⟨b, rfl, w, rfl, b, w, rfl, ChkW.imp h fun n ws p eb ew h1 h2 hs hl hb q => ?_⟩
  intro H' s
  have := q H' s
  show Q (.bl (decide (vO (crowdedL n ws) = .non))) H'
  rw [vO_isN]
  exact this

/-! ### how many good wishes; the first and the last ones -/
def hmany (n k : Nat) : Int := if n < k then 0 else if k = 0 then 1 else ((n : Int) + 1 - k) * ((n : Int) + 1) ^ (k - 1)
def ChkS (K : PySem.W.Frag) (a : Ad) (hi : Nat) (s : V) (H : Hp) (E : XK) (R : Nat → Prop) : Prop := ∃ T, TyB K H s T ∧ ((inB 0 hi s = false ∧ E (.ref a.e_NoCount) none H) ∨ ∃ k : Nat, s = .int k ∧ k ≤ hi ∧ R k)
theorem ChkS.ok {K : PySem.W.Frag} {a : Ad} {hi k : Nat} {H : Hp} {E : XK} {R : Nat → Prop} (h : k ≤ hi) (r : R k) : ChkS K a hi (.int k) H E R := ⟨_, .int _, .inr ⟨k, rfl, h, r⟩⟩
theorem inB_nat {hi k : Nat} (h : k ≤ hi) : inB 0 hi (.int k) = true := by
  simp [inB]
  omega
def sp_how_many (K : PySem.W.Frag) (a : Ad) : Sp := fun vs H Q E => ∃ b s, vs = [b, s] ∧ ChkQ K a b H E fun n => ChkS K a 400 s H E fun k => Q (.int (hmany n k)) H
abbrev N_how_many : List Str := ["berths", "ships", "many", "_"]
def t_how_many (K : PySem.W.Frag) (a : Ad) (E : XK) : TS :=
  (tSeq (tDrop (tCall (sp_check_quay K a) [] E (tCons (tVar 0) tNil)))
    (tSeq (tIfS (tNot (tB (tCall (sp_is_from_to K a) [] E0 (tCons (tC (.int 0)) (tCons (tC (.int 400)) (tCons (tVar 1) tNil)))))) (tRaise a.e_NoCount E) tNext)
    (tSeq (tIfS (tTest (tOp rGtI (tVar 1) (tVar 0))) (tRet (tC (.int 0))) tNext)
    (tSeq (tIfS (tTest (tOp rEq (tVar 1) (tC (.int 0)))) (tRet (tC (.int 1))) tNext)
    (tSeq (tAsg (tOp rSubI (tOp rAddI (tVar 0) (tC (.int 1))) (tVar 1)) (gName 2))
    (tSeq (tFor (iRng1 (tCons (tOp rSubI (tVar 1) (tC (.int 1))) tNil)) (gName 3)
    (tAsg (tOp rMulI (tVar 2) (tOp rAddI (tVar 0) (tC (.int 1)))) (gName 2)))
    (tRet (tVar 2))))))))
theorem len_how_many {K : PySem.W.Frag} {a : Ad} {vs : List V} {H : Hp} {Q : VK} {E : XK} (h : sp_how_many K a vs H Q E) : vs.length = 2 := by
  obtain ⟨b, s, rfl, _⟩ := h
  rfl
theorem pu_how_many {K : PySem.W.Frag} {a : Ad} {vs : List V} {H : Hp} {Q : VK} {E : XK} (h : sp_how_many K a vs H Q E) : t_how_many K a E { nx := fun _ H' => Q .non H', rt := Q } (start N_how_many vs) H := by
  obtain ⟨b, s, rfl, h⟩ := h
  refine ⟨b, rfl, b, rfl, ChkQ.imp h fun n eb h1 h2 r => ?_⟩
  subst eb
  obtain ⟨T, ty, r⟩ := r
  refine ⟨s, rfl, 0, 400, s, T, rfl, ty, inB 0 400 s, rfl, ?_⟩
  rcases r with ⟨e, q⟩ | ⟨k, rfl, hk, q⟩
  · have e : inB 0 400 s = false := e
    rw [e]
    exact iteT q
  have e : inB 0 400 (.int k) = true := inB_nat (hi := 400) hk
  rw [e]
  refine iteF ⟨.int k, rfl, .int n, rfl, _, _, rfl, rfl, _, rfl, ite2 (fun c => ?_) (fun c => ?_)⟩
  · have c : (n : Int) < k := of_decide_eq_true c
    have e : hmany n k = 0 := if_pos (by omega)
    rw [e] at q
    exact q
  have c : ¬ (n : Int) < k := fun z => c (decide_eq_true z)
  refine ⟨.int k, rfl, rfl, _, rfl, ite2 (fun d => ?_) (fun d => ?_)⟩
  · have d : V.int k = V.int 0 := of_decide_eq_true d
    have d := V.int.inj d
    have e : hmany n k = 1 := by
      unfold hmany
      rw [if_neg (by omega), if_pos (by omega)]
    rw [e] at q
    exact q
  have d : ¬ V.int k = V.int 0 := fun z => d (decide_eq_true z)
  have d : k ≠ 0 := fun z => d (by rw [z]; rfl)
  refine ⟨.int n, rfl, _, 1, rfl, rfl, .int k, rfl, _, _, rfl, rfl, ?_⟩
  refine ⟨.int k, rfl, _, 1, rfl, rfl, _, rfl, by omega, by omega, ?_⟩
  have ek : ((k : Int) - 1).toNat = k - 1 := by omega
  rw [ek]
  refine for_range (fun i σ H' => (∃ y, σ = [some (.int n), some (.int k), some (.int (((n : Int) + 1 - k) * ((n : Int) + 1) ^ i)), y]) ∧ H' = H) ⟨⟨none, ?_⟩, rfl⟩ ?_ ?_
  · rw [Int.pow_zero, Int.mul_one]
    rfl
  · rintro i σ H' hi ⟨⟨y, rfl⟩, rfl⟩
    refine ⟨_, rfl, .int n, rfl, _, 1, rfl, rfl, _, _, rfl, rfl, .inr ⟨by omega, by omega⟩, ⟨some (.int (0 + (i : Int))), ?_⟩, rfl⟩
    rw [Int.pow_succ, ← Int.mul_assoc]
    rfl
  · rintro σ H' ⟨⟨y, rfl⟩, rfl⟩
    refine ⟨_, rfl, ?_⟩
    have e : hmany n k = ((n : Int) + 1 - k) * ((n : Int) + 1) ^ (k - 1) := by
      unfold hmany
      rw [if_neg (by omega), if_neg d]
    rw [e] at q
    exact q
def sp_p_check_ships (K : PySem.W.Frag) (a : Ad) : Sp := fun vs H Q E => ∃ b s, vs = [b, s] ∧ ChkQ K a b H E fun n => ChkS K a n s H E fun _ => Q .non H
abbrev N_p_check_ships : List Str := ["berths", "ships"]
def t_p_check_ships (K : PySem.W.Frag) (a : Ad) (E : XK) : TS :=
  (tSeq (tDrop (tCall (sp_check_quay K a) [] E (tCons (tVar 0) tNil)))
    (tIfS (tNot (tB (tCall (sp_is_from_to K a) [] E0 (tCons (tC (.int 0)) (tCons (tVar 0) (tCons (tVar 1) tNil)))))) (tRaise a.e_NoCount E) tNext))
theorem len_p_check_ships {K : PySem.W.Frag} {a : Ad} {vs : List V} {H : Hp} {Q : VK} {E : XK} (h : sp_p_check_ships K a vs H Q E) : vs.length = 2 := by
  obtain ⟨b, s, rfl, _⟩ := h
  rfl
theorem pu_p_check_ships {K : PySem.W.Frag} {a : Ad} {vs : List V} {H : Hp} {Q : VK} {E : XK} (h : sp_p_check_ships K a vs H Q E) : t_p_check_ships K a E { nx := fun _ H' => Q .non H', rt := Q } (start N_p_check_ships vs) H := by
  obtain ⟨b, s, rfl, h⟩ := h
  refine ⟨b, rfl, b, rfl, ChkQ.imp h fun n eb h1 h2 r => ?_⟩
  subst eb
  obtain ⟨T, ty, r⟩ := r
  refine ⟨.int n, rfl, s, rfl, 0, n, s, T, rfl, ty, inB 0 n s, rfl, ?_⟩
  rcases r with ⟨e, q⟩ | ⟨k, rfl, hk, q⟩
  · rw [e]
    exact iteT q
  · rw [inB_nat hk]
    exact iteF q
def sp_first_row (K : PySem.W.Frag) (a : Ad) : Sp := fun vs H Q E => ∃ b s, vs = [b, s] ∧ ChkQ K a b H E fun n => ChkS K a n s H E fun k => ∀ (l : Addr) (H' : Hp), Same H H' → H' l = some (.tup ((List.replicate k 1).map V.int)) → Q (.ref l) H'
abbrev N_first_row : List Str := ["berths", "ships"]
def t_first_row (K : PySem.W.Frag) (a : Ad) (E : XK) : TS :=
  (tSeq (tDrop (tCall (sp_p_check_ships K a) [] E (tCons (tVar 0) (tCons (tVar 1) tNil))))
    (tRet (tOp (rRepTA K) (tTup (tCons (tC (.int 1)) tNil)) (tVar 1))))
theorem len_first_row {K : PySem.W.Frag} {a : Ad} {vs : List V} {H : Hp} {Q : VK} {E : XK} (h : sp_first_row K a vs H Q E) : vs.length = 2 := by
  obtain ⟨b, s, rfl, _⟩ := h
  rfl
theorem flat_repR (n : Nat) (x : Int) : (List.replicate n [V.int x]).flatten = (List.replicate n x).map V.int := by
  induction n with
  | zero => rfl
  | succ n ih => rw [List.replicate_succ, List.replicate_succ, List.flatten_cons, ih]; rfl
/-- (1,) * k -/
theorem ones_of {K : PySem.W.Frag} {te : TE} {σ : L2.St} {H : Hp} {Q : VK} {k : Nat} (hk : k ≤ 400) (ht : ∀ H1 : Hp, Same H H1 → ∀ Q' : VK, Q' (.int k) H1 → te σ H1 Q') (q : ∀ (l : Addr) (H' : Hp), Same H H' → H' l = some (.tup ((List.replicate k 1).map V.int)) → Q (.ref l) H') :
    (tOp (rRepTA K) (tTup (tCons (tC (.int 1)) tNil)) te) σ H Q := by
  refine ⟨l1000 (by show 1 ≤ 1000; decide), fun p np => ht _ (same_new np) _ ⟨p, k, _, rfl, rfl, sqT_of upd_same, (fun z => by cases z), by omega, by omega, (by show 1 ≤ 1000; decide), fun e => ?_, fun e l nl => ?_⟩⟩
  · refine q p _ (same_new np) ?_
    have e : k = 1 := by omega
    rw [e, upd_same]
    rfl
  · refine q l _ ((same_new np).store (same_new np |>.free nl)) ?_
    rw [upd_same, show ((k : Int)).toNat = k by omega, flat_repR]
theorem pu_first_row {K : PySem.W.Frag} {a : Ad} {vs : List V} {H : Hp} {Q : VK} {E : XK} (h : sp_first_row K a vs H Q E) : t_first_row K a E { nx := fun _ H' => Q .non H', rt := Q } (start N_first_row vs) H := by
  obtain ⟨b, s, rfl, h⟩ := h
  refine ⟨b, rfl, s, rfl, b, s, rfl, ChkQ.imp h fun n eb h1 h2 r => ?_⟩
  subst eb
  obtain ⟨T, ty, r⟩ := r
  refine ⟨T, ty, ?_⟩
  rcases r with r | ⟨k, rfl, hk, q⟩
  · exact .inl r
  refine .inr ⟨k, rfl, hk, ?_⟩
  change (tOp (rRepTA K) (tTup (tCons (tC (.int 1)) tNil)) (tVar 1)) _ _ _
  exact ones_of (K := K) (by omega) (fun _ _ _ q' => ⟨.int k, rfl, q'⟩) q
def downs (n k : Nat) : List Int := (List.range k).map fun (i : Nat) => (n : Int) - i
theorem rgD_downs {n k : Nat} {c : Int} (h : c = (n : Int) - k) : rgD n c = (downs n k).map V.int := by
  unfold rgD downs
  rw [show ((n : Int) - c).toNat = k by omega, List.map_map]
  rfl
theorem downs_take {n k : Nat} (h : k ≤ n) : (downs n n).take k = downs n k := by
  unfold downs
  rw [← List.map_take, List.take_range, Nat.min_eq_left h]
def sp_last_row (K : PySem.W.Frag) (a : Ad) : Sp := fun vs H Q E => ∃ b s, vs = [b, s] ∧ ChkQ K a b H E fun n => ChkS K a n s H E fun k => ∀ (l : Addr) (H' : Hp), Same H H' → H' l = some (.tup ((downs n k).map V.int)) → Q (.ref l) H'
abbrev N_last_row : List Str := ["berths", "ships"]
def t_last_row (K : PySem.W.Frag) (a : Ad) (E : XK) : TS :=
  (tSeq (tDrop (tCall (sp_p_check_ships K a) [] E (tCons (tVar 0) (tCons (tVar 1) tNil))))
    (tRet (tTupRg3 (tCons (tVar 0) (tCons (tOp rSubI (tVar 0) (tVar 1)) (tCons (tUn (rU fun i => .int (-i)) (tC (.int 1))) tNil))))))
theorem len_last_row {K : PySem.W.Frag} {a : Ad} {vs : List V} {H : Hp} {Q : VK} {E : XK} (h : sp_last_row K a vs H Q E) : vs.length = 2 := by
  obtain ⟨b, s, rfl, _⟩ := h
  rfl
theorem pu_last_row {K : PySem.W.Frag} {a : Ad} {vs : List V} {H : Hp} {Q : VK} {E : XK} (h : sp_last_row K a vs H Q E) : t_last_row K a E { nx := fun _ H' => Q .non H', rt := Q } (start N_last_row vs) H := by
  obtain ⟨b, s, rfl, h⟩ := h
  refine ⟨b, rfl, s, rfl, b, s, rfl, ChkQ.imp h fun n eb h1 h2 r => ?_⟩
  subst eb
  obtain ⟨T, ty, r⟩ := r
  refine ⟨T, ty, ?_⟩
  rcases r with r | ⟨k, rfl, hk, q⟩
  · exact .inl r
  refine .inr ⟨k, rfl, hk, .int n, rfl, .int n, rfl, .int k, rfl, n, k, rfl, rfl, 1, rfl, n, (n : Int) - k, rfl, ⟨by omega, by omega, by omega, by omega, by omega⟩, fun l nl => ?_⟩
  refine q l _ (same_new nl) ?_
  rw [upd_same, rgD_downs rfl]

/-! ### the next good wishes: the mathematics -/
theorem cntGe_append (a b : List Int) (x : Int) : cntGe (a ++ b) x = cntGe a x + cntGe b x := by
  unfold cntGe
  rw [List.filter_append, List.length_append]
theorem cntGe_one (y x : Int) : cntGe [y] x = if x ≤ y then 1 else 0 := by
  unfold cntGe
  by_cases h : x ≤ y <;> simp [h]
theorem cntGe_all {l : List Int} {b : Int} (h : ∀ x ∈ l, b ≤ x) : cntGe l b = l.length := by
  unfold cntGe
  rw [List.filter_eq_self.mpr fun x hx => decide_eq_true (h x hx)]
theorem cntGe_ones {m : Nat} {b : Int} (h : 2 ≤ b) : cntGe (List.replicate m 1) b = 0 := by
  unfold cntGe
  rw [List.length_eq_zero_iff, List.filter_eq_nil_iff]
  intro x hx
  rw [(List.mem_replicate.mp hx).2, decide_eq_true_eq]
  omega
def Good (n : Nat) (ws : List Int) : Prop := crowdedL n ws = none
theorem good_def {n : Nat} {ws : List Int} : Good n ws ↔ ∀ b : Int, 1 ≤ b → b ≤ n → (cntGe ws b : Int) ≤ n - b + 1 := crowded_none
theorem good_len {n : Nat} {ws : List Int} (hn : 1 ≤ n) (h : Good n ws) (h1 : ∀ x ∈ ws, 1 ≤ x) : ws.length ≤ n := by
  have := good_def.mp h 1 (by omega) (by omega)
  rw [cntGe_all h1] at this
  omega
theorem good_pre {n : Nat} {a b : List Int} (h : Good n (a ++ b)) : Good n a := good_def.mpr fun x h1 h2 => by
  have := good_def.mp h x h1 h2
  rw [cntGe_append] at this
  omega
theorem good_ones {n m : Nat} {a : List Int} (h : Good n a) (hl : a.length + m ≤ n) : Good n (a ++ List.replicate m 1) := good_def.mpr fun x h1 h2 => by
  rw [cntGe_append]
  by_cases hx : x = 1
  · have e1 := cntGe_le a x
    have e2 := cntGe_le (List.replicate m 1) x
    rw [List.length_replicate] at e2
    omega
  · rw [cntGe_ones (by omega)]
    have := good_def.mp h x h1 h2
    omega
theorem good_low {n : Nat} {a : List Int} {x y : Int} (h : Good n (a ++ [y])) (hxy : x ≤ y) : Good n (a ++ [x]) := good_def.mpr fun b h1 h2 => by
  have := good_def.mp h b h1 h2
  rw [cntGe_append, cntGe_one] at this ⊢
  by_cases c : b ≤ x
  · rw [if_pos c]
    rw [if_pos (by omega)] at this
    exact this
  · rw [if_neg c]
    split at this <;> omega
/-- wishes that go up by one at s, and their like -/
def upTo1 (row : List Int) (s : Nat) : List Int := row.take s ++ [row.getD s 0 + 1]
def upB (n : Nat) (row : List Int) (s : Nat) : Bool := decide (row.getD s 0 < n) && (crowdedL n (upTo1 row s)).isNone
def nextF (n : Nat) (row : List Int) : Nat → Option (List Int)
  | 0 => none
  | s + 1 => if upB n row s = true then some (upTo1 row s ++ List.replicate (row.length - (s + 1)) 1) else nextF n row s
def nextL (n : Nat) (row : List Int) : Option (List Int) := nextF n row row.length
theorem nextF_some {n : Nat} {row f : List Int} : ∀ {k : Nat}, nextF n row k = some f → ∃ s, s < k ∧ upB n row s = true ∧ (∀ j, s < j → j < k → upB n row j = false) ∧ f = upTo1 row s ++ List.replicate (row.length - (s + 1)) 1
  | 0, h => by cases h
  | k + 1, h => by
    unfold nextF at h
    cases e : upB n row k with
    | true =>
      rw [if_pos e] at h
      exact ⟨k, by omega, e, fun j h1 h2 => by omega, (Option.some.inj h).symm⟩
    | false =>
      rw [if_neg (by rw [e]; exact Bool.false_ne_true)] at h
      obtain ⟨s, s1, s2, s3, s4⟩ := nextF_some h
      refine ⟨s, by omega, s2, fun j h1 h2 => ?_, s4⟩
      by_cases z : j = k
      · rw [z]; exact e
      · exact s3 j h1 (by omega)
theorem nextF_none {n : Nat} {row : List Int} : ∀ {k : Nat}, nextF n row k = none → ∀ j, j < k → upB n row j = false
  | 0, _, j, hj => by omega
  | k + 1, h, j, hj => by
    unfold nextF at h
    cases e : upB n row k with
    | true =>
      rw [if_pos e] at h
      cases h
    | false =>
      rw [if_neg (by rw [e]; exact Bool.false_ne_true)] at h
      by_cases z : j = k
      · rw [z]; exact e
      · exact nextF_none h j (by omega)
theorem upB_true {n : Nat} {row : List Int} {s : Nat} : upB n row s = true ↔ row.getD s 0 < n ∧ Good n (upTo1 row s) := by
  unfold upB Good
  rw [Bool.and_eq_true, decide_eq_true_eq, Option.isNone_iff_eq_none]
theorem take_getD {row : List Int} {s : Nat} (h : s < row.length) : row = row.take s ++ row.getD s 0 :: row.drop (s + 1) := by
  have e : row.getD s 0 = row[s] := by
    rw [List.getD_eq_getElem?_getD, List.getElem?_eq_getElem h]
    rfl
  rw [e, ← List.drop_eq_getElem_cons h, List.take_append_drop]
/-! lists in their order -/
theorem lex_pre : ∀ (p a b : List Int), HT.lexLt (p ++ a) (p ++ b) = HT.lexLt a b
  | [], _, _ => rfl
  | x :: p, a, b => by
    show (if x = x then HT.lexLt (p ++ a) (p ++ b) else decide (x < x)) = _
    rw [if_pos rfl, lex_pre p a b]
theorem lex_up {x y : Int} {a b : List Int} (h : x < y) : HT.lexLt (x :: a) (y :: b) = true := by
  rw [HT.lexLt_cons, if_neg (by omega), decide_eq_true h]
theorem lex_down {x y : Int} {a b : List Int} (h : y < x) : HT.lexLt (x :: a) (y :: b) = false := by
  rw [HT.lexLt_cons, if_neg (by omega), decide_eq_false (by omega)]
theorem lex_split : ∀ {a b : List Int}, HT.lexLt a b = true → a.length = b.length → ∃ p r t x u, a = p ++ r :: t ∧ b = p ++ x :: u ∧ r < x
  | [], [], h, _ => by cases h
  | [], _ :: _, _, h => by cases h
  | _ :: _, [], _, h => by cases h
  | y :: a, z :: b, h, hl => by
    rw [HT.lexLt_cons] at h
    by_cases c : y = z
    · rw [if_pos c] at h
      obtain ⟨p, r, t, x, u, e1, e2, e3⟩ := lex_split h (by simpa using hl)
      exact ⟨y :: p, r, t, x, u, by rw [e1]; rfl, by rw [e2, c]; rfl, e3⟩
    · rw [if_neg c, decide_eq_true_eq] at h
      exact ⟨[], y, a, z, b, rfl, rfl, h⟩
theorem lex_ones : ∀ {u : List Int} {m : Nat}, (∀ x ∈ u, 1 ≤ x) → u.length = m → HT.lexLt u (List.replicate m 1) = false
  | [], 0, _, _ => rfl
  | [], _ + 1, _, h => by cases h
  | _ :: _, 0, _, h => by cases h
  | x :: u, m + 1, h, hl => by
    rw [List.replicate_succ, HT.lexLt_cons]
    have hx := h x List.mem_cons_self
    by_cases c : x = 1
    · rw [if_pos c]
      exact lex_ones (fun y hy => h y (List.mem_cons_of_mem _ hy)) (by simpa using hl)
    · rw [if_neg c, decide_eq_false (by omega)]
/-! the next ones are good, come behind, and nothing good comes between -/
structure Next (n : Nat) (row f : List Int) : Prop where
  good : Good n f
  len : f.length = row.length
  bd : ∀ x ∈ f, 1 ≤ x ∧ x ≤ n
  lt : HT.lexLt row f = true
  gap : ∀ o : List Int, o.length = row.length → (∀ x ∈ o, 1 ≤ x ∧ x ≤ n) → Good n o → HT.lexLt row o = true → HT.lexLt o f = false
theorem next_some {n : Nat} {row f : List Int} (hn : 1 ≤ n) (hb : ∀ x ∈ row, 1 ≤ x ∧ x ≤ n) (hg : Good n row) (h : nextL n row = some f) : Next n row f := by
  obtain ⟨s, s1, s2, s3, rfl⟩ := nextF_some h
  obtain ⟨u1, u2⟩ := upB_true.mp s2
  have e := take_getD s1
  have hl := good_len hn hg fun x hx => (hb x hx).1
  have hlen : (upTo1 row s).length = s + 1 := by
    unfold upTo1
    rw [List.length_append, List.length_take]
    simp
    omega
  have hrs : row.getD s 0 ∈ row := by
    rw [List.getD_eq_getElem?_getD, List.getElem?_eq_getElem s1]
    exact List.getElem_mem s1
  have hrb := hb _ hrs
  refine ⟨good_ones u2 (by omega), ?_, fun x hx => ?_, ?_, fun o ol ob og lo => ?_⟩
  · rw [List.length_append, hlen, List.length_replicate]
    omega
  · rcases List.mem_append.mp hx with z | z
    · unfold upTo1 at z
      rcases List.mem_append.mp z with z | z
      · exact hb x (List.mem_of_mem_take z)
      · rw [List.mem_singleton.mp z]
        omega
    · rw [(List.mem_replicate.mp z).2]
      omega
  · unfold upTo1
    rw [List.append_assoc]
    conv => lhs; arg 1; rw [e]
    rw [lex_pre]
    exact lex_up (by omega)
  · obtain ⟨p, r, t, x, u, e1, e2, e3⟩ := lex_split lo ol.symm
    have hx := ob x (by rw [e2]; simp)
    have hpl : p.length < row.length := by rw [e1]; simp
    have hgp : row.getD p.length 0 = r := by
      rw [e1, List.getD_eq_getElem?_getD, List.getElem?_append_right (Nat.le_refl _), Nat.sub_self]
      rfl
    have htp : row.take p.length = p := by rw [e1, List.take_left]
    rcases Nat.lt_trichotomy p.length s with c | c | c
    · -- before s
      have ef : upTo1 row s ++ List.replicate (row.length - (s + 1)) 1 = p ++ r :: ((t.take (s - p.length - 1) ++ [row.getD s 0 + 1]) ++ List.replicate (row.length - (s + 1)) 1) := by
        unfold upTo1
        have : row.take s = p ++ r :: t.take (s - p.length - 1) := by
          conv => lhs; rw [e1]
          rw [List.take_append, List.take_of_length_le (by omega)]
          congr 1
          obtain ⟨d, hd⟩ : ∃ d, s - p.length = d + 1 := ⟨s - p.length - 1, by omega⟩
          rw [hd]
          rfl
        rw [this]
        simp
      rw [ef, e2, lex_pre]
      exact lex_down e3
    · -- at s
      subst c
      unfold upTo1
      rw [htp, hgp, List.append_assoc, e2, lex_pre]
      by_cases z : x = r + 1
      · subst z
        show (if r + 1 = r + 1 then HT.lexLt u (List.replicate (row.length - (p.length + 1)) 1) else _) = false
        rw [if_pos rfl]
        refine lex_ones (fun y hy => (ob y (by rw [e2]; simp [hy])).1) ?_
        rw [← ol, e2]
        simp
        omega
      · exact lex_down (by omega)
    · -- behind s
      exfalso
      have nu := s3 p.length c hpl
      have up : upB n row p.length = true := by
        refine upB_true.mpr ⟨by rw [hgp]; omega, ?_⟩
        unfold upTo1
        rw [htp, hgp]
        have g1 : Good n (p ++ [x]) := by
          have : o = (p ++ [x]) ++ u := by rw [e2]; simp
          rw [this] at og
          exact good_pre og
        exact good_low g1 (by omega)
      rw [up] at nu
      cases nu
/-! the last ones -/
theorem downs_len {n k : Nat} : (downs n k).length = k := by simp [downs]
theorem mem_downs {n k : Nat} {x : Int} : x ∈ downs n k ↔ (n : Int) - k < x ∧ x ≤ n := by
  unfold downs
  simp only [List.mem_map, List.mem_range]
  constructor
  · rintro ⟨i, hi, rfl⟩
    omega
  · rintro ⟨h1, h2⟩
    exact ⟨((n : Int) - x).toNat, by omega, by omega⟩
theorem downs_nodup {n k : Nat} : (downs n k).Nodup := by
  unfold downs
  rw [List.nodup_iff_pairwise_ne, List.pairwise_map]
  exact List.Pairwise.imp (fun h => by omega) List.pairwise_lt_range
theorem downs_succ {n k : Nat} : downs n (k + 1) = downs n k ++ [(n : Int) - k] := by
  unfold downs
  rw [List.range_succ, List.map_append]
  rfl
theorem downs_cnt {n k : Nat} {b : Int} (h : b ≤ (n : Int) + 1) : (cntGe (downs n k) b : Int) ≤ n - b + 1 := by
  have : cntGe (downs n k) b ≤ ((n : Int) - b + 1).toNat := by
    unfold cntGe
    refine len_le_of (lo := b) (List.Pairwise.filter _ downs_nodup) fun x hx => ?_
    obtain ⟨h1, h2⟩ := List.mem_filter.mp hx
    have h3 := mem_downs.mp h1
    have h4 : b ≤ x := of_decide_eq_true h2
    omega
  omega
theorem next_none {n : Nat} {row : List Int} (hn : 1 ≤ n) (hb : ∀ x ∈ row, 1 ≤ x ∧ x ≤ n) (hg : Good n row) (h : nextL n row = none) : row = downs n row.length := by
  have hl := good_len hn hg fun x hx => (hb x hx).1
  have nu := nextF_none h
  have go : ∀ s, s ≤ row.length → row.take s = downs n s := by
    intro s
    induction s with
    | zero => intro _; rfl
    | succ s ih =>
      intro hs
      have ih := ih (by omega)
      have e := take_getD (row := row) (s := s) (by omega)
      have et : row.take (s + 1) = row.take s ++ [row.getD s 0] := by
        rw [List.take_add_one, List.getD_eq_getElem?_getD, List.getElem?_eq_getElem (by omega)]
        rfl
      have hrs : row.getD s 0 ∈ row := by
        rw [List.getD_eq_getElem?_getD, List.getElem?_eq_getElem (show s < row.length by omega)]
        exact List.getElem_mem _
      have hrb := hb _ hrs
      have nus := nu s (by omega)
      generalize hx : row.getD s 0 = x at *
      have g1 : Good n (downs n s ++ [x]) := by
        rw [← ih, ← et]
        have : row = row.take (s + 1) ++ row.drop (s + 1) := (List.take_append_drop _ _).symm
        rw [this] at hg
        exact good_pre hg
      have le : x ≤ (n : Int) - s := by
        by_cases z : s = 0
        · subst z
          omega
        · have := good_def.mp g1 ((n : Int) - s + 1) (by omega) (by omega)
          rw [cntGe_append, cntGe_one, cntGe_all (fun y hy => by have := mem_downs.mp hy; omega), downs_len] at this
          by_cases c : (n : Int) - s + 1 ≤ x
          · rw [if_pos c] at this
            omega
          · omega
      have ge : (n : Int) - s ≤ x := by
        by_cases c : (n : Int) - s ≤ x
        · exact c
        · exfalso
          have up : upB n row s = true := by
            refine upB_true.mpr ⟨by rw [hx]; omega, ?_⟩
            unfold upTo1
            rw [hx, ih]
            refine good_def.mpr fun b b1 b2 => ?_
            rw [cntGe_append, cntGe_one]
            by_cases d : b ≤ x + 1
            · rw [if_pos d]
              have := cntGe_le (downs n s) b
              rw [downs_len] at this
              omega
            · rw [if_neg d]
              have := downs_cnt (n := n) (k := s) (b := b) (by omega)
              omega
          rw [up] at nus
          cases nus
      rw [et, ih, downs_succ, show x = (n : Int) - s by omega]
  have := go row.length (Nat.le_refl _)
  rw [List.take_length] at this
  exact this

/-! ### all good wishes, one by one: the mathematics -/
def allR (n : Nat) : Nat → List Int → List (List Int)
  | 0, _ => []
  | m + 1, r => r :: (match nextL n r with
    | none => []
    | some f => allR n m f)
theorem allR_next {n : Nat} : ∀ {m : Nat} {r : List Int} {i : Nat} {w : List Int}, (allR n m r)[i]? = some w → (allR n m r).length < m → nextL n w = (allR n m r)[i + 1]?
  | 0, _, _, _, h, _ => by cases h
  | m + 1, r, i, w, h, hl => by
    have e : allR n (m + 1) r = r :: (match nextL n r with | none => [] | some f => allR n m f) := rfl
    rw [e] at h hl ⊢
    cases i with
    | zero =>
      have hw : r = w := Option.some.inj h
      subst hw
      cases en : nextL n r with
      | none => rfl
      | some f =>
        rw [en] at hl
        cases m with
        | zero =>
          simp at hl
        | succ m => rfl
    | succ i =>
      cases en : nextL n r with
      | none =>
        rw [en] at h
        cases h
      | some f =>
        rw [en] at h hl
        exact allR_next (m := m) (r := f) (i := i) h (by simpa using hl)
theorem allR_zero {n m : Nat} {r : List Int} : (allR n (m + 1) r)[0]? = some r := rfl
theorem good_start {n k : Nat} (hk : k ≤ n) : Good n (List.replicate k 1) := by
  have h0 : Good n [] := good_def.mpr fun b h1 h2 => by
    show ((0 : Nat) : Int) ≤ _
    omega
  exact good_ones (a := []) h0 (by simpa using hk)
structure RowOk (n k : Nat) (w : List Int) : Prop where
  len : w.length = k
  bd : ∀ x ∈ w, 1 ≤ x ∧ x ≤ n
  good : Good n w
theorem allR_ok {n k m : Nat} (hn : 1 ≤ n) (hk : k ≤ n) (hl : (allR n (m + 1) (List.replicate k 1)).length < m + 1) : ∀ (i : Nat) (w : List Int), (allR n (m + 1) (List.replicate k 1))[i]? = some w → RowOk n k w
  | 0, w, h => by
    rw [allR_zero] at h
    cases h
    exact ⟨List.length_replicate, fun x hx => by rw [(List.mem_replicate.mp hx).2]; omega, good_start hk⟩
  | i + 1, w, h => by
    have hi : i < (allR n (m + 1) (List.replicate k 1)).length := by
      have := (List.getElem?_eq_some_iff.mp h).1
      omega
    have h0 := List.getElem?_eq_getElem hi
    have R := allR_ok hn hk hl i _ h0
    have hx := allR_next h0 hl
    rw [h] at hx
    have N := next_some hn R.bd R.good hx
    exact ⟨N.len.trans R.len, N.bd, N.good⟩
theorem allR_lt {n k m : Nat} (hn : 1 ≤ n) (hk : k ≤ n) (hl : (allR n (m + 1) (List.replicate k 1)).length < m + 1) {i : Nat} {v w : List Int} (h1 : (allR n (m + 1) (List.replicate k 1))[i]? = some v) (h2 : (allR n (m + 1) (List.replicate k 1))[i + 1]? = some w) : HT.lexLt v w = true := by
  have R := allR_ok hn hk hl i _ h1
  have hx := allR_next h1 hl
  rw [h2] at hx
  exact (next_some hn R.bd R.good hx).lt
/-- all tuples of i numbers from 1 to n -/
def tupsL (n : Nat) : Nat → List (List Int)
  | 0 => [[]]
  | i + 1 => (tupsL n i).flatMap fun o => (List.range n).map fun (j : Nat) => o ++ [1 + (j : Int)]
theorem tups_len {n : Nat} : ∀ {i : Nat} {o : List Int}, o ∈ tupsL n i → o.length = i ∧ ∀ x ∈ o, 1 ≤ x ∧ x ≤ n
  | 0, o, h => by
    rw [List.mem_singleton.mp h]
    exact ⟨rfl, fun x hx => by cases hx⟩
  | i + 1, o, h => by
    obtain ⟨p, hp, h2⟩ := List.mem_flatMap.mp h
    obtain ⟨j, hj, rfl⟩ := List.mem_map.mp h2
    obtain ⟨e1, e2⟩ := tups_len hp
    refine ⟨by rw [List.length_append, e1]; rfl, fun x hx => ?_⟩
    rcases List.mem_append.mp hx with z | z
    · exact e2 x z
    · rw [List.mem_singleton.mp z]
      have := List.mem_range.mp hj
      omega
theorem count_ok : ∀ n, n < 5 → 1 ≤ n → ∀ k, k < n + 1 → (((allR n 200 (List.replicate k 1)).length : Nat) : Int) = hmany n k ∧ (allR n 200 (List.replicate k 1)).length < 200 := by decide +kernel
theorem all_ok : ∀ n, n < 5 → 1 ≤ n → ∀ k, k < n + 1 → ∀ o ∈ tupsL n k, ((allR n 200 (List.replicate k 1)).contains o) = (crowdedL n o).isNone := by decide +kernel

/-! ### next_row -/
theorem cut_takeN (xs : List V) (k : Nat) : cutV xs none (some (k : Int)) = xs.take k := by
  unfold cutV
  rw [HT.sIx_nat, HT.sIx_none, List.drop_zero, Nat.sub_zero]
  by_cases h : k ≤ xs.length
  · rw [Nat.min_eq_left h]
  · rw [Nat.min_eq_right (by omega), List.take_of_length_le (Nat.le_refl _), List.take_of_length_le (by omega)]
theorem tupOfS {K : PySem.W.Frag} {i : Nat} {te : TE} {r : TS} {D : Ends} {σ : L2.St} {H : Hp} {p : Addr} {xs : List V} (ht : ∀ Q' : VK, Q' (.ref p) H → te σ H Q') (h : SqA K H p xs) (q : ∀ (t : Addr) (H' : Hp), Same H H' → SqT K H' t xs → r D (σ.set i (some (.ref t))) H') :
    tSeq (tAsg (tCB (rTupleOf K) (tCons te tNil)) (gName i)) r D σ H := by
  change te σ H (fun x H1 => rTupleOf K [x] H1 fun t H2 => r D (σ.set i (some t)) H2)
  refine ht _ ?_
  rcases h with h | h
  · exact ⟨p, xs, rfl, .inl ⟨h, fun l nl => q l _ (same_new nl) (sqT_of upd_same)⟩⟩
  · exact ⟨p, xs, rfl, .inr ⟨h, q p H (Same.refl _) h⟩⟩
theorem int_at {ws : List Int} {s : Nat} (h : s < ws.length) : atI (ws.map V.int) (s : Int) = some (.int (ws.getD s 0)) := by
  refine atI_nat ?_
  rw [List.getElem?_map, List.getD_eq_getElem?_getD, List.getElem?_eq_getElem h]
  rfl
theorem nextF_no {n : Nat} {row : List Int} {s : Nat} (h : upB n row s = false) : nextF n row (s + 1) = nextF n row s := by
  show (if upB n row s = true then _ else _) = _
  rw [if_neg (by rw [h]; exact Bool.false_ne_true)]
def sp_next_row (K : PySem.W.Frag) (a : Ad) : Sp := fun vs H Q E => ∃ b w, vs = [b, w] ∧ ChkW K a b w H E fun n ws _ => (crowdedL n ws ≠ none ∧ ∀ H' : Hp, Same H H' → E (.ref a.e_NoWishes) none H') ∨
  (crowdedL n ws = none ∧ (nextL n ws = none → ∀ H' : Hp, Same H H' → Q .non H') ∧ ∀ f, nextL n ws = some f → ∀ (l : Addr) (H' : Hp), Same H H' → H' l = some (.tup (f.map V.int)) → Q (.ref l) H')
abbrev N_next_row : List Str := ["berths", "wishes", "row", "ship", "start"]
def t_next_row (K : PySem.W.Frag) (a : Ad) (E : XK) : TS :=
  (tSeq (tIfS (tNot (tB (tCall (sp_is_good K a) [] E (tCons (tVar 0) (tCons (tVar 1) tNil))))) (tRaise a.e_NoWishes E) tNext)
    (tSeq (tAsg (tCB (rTupleOf K) (tCons (tVar 1) tNil)) (gName 2))
    (tSeq (tFor (iRevR (tRg1 (tCB (rLenSq K) (tCons (tVar 2) tNil)))) (gName 3)
    (tSeq (tAsg (tOp (rCatA K) (tSl (rSlA K) (tVar 2) tNoPart (tPart (tVar 3))) (tTup (tCons (tOp rAddI (tOp (rIxT K) (tVar 2) (tVar 3)) (tC (.int 1))) tNil))) (gName 4))
    (tIfS (tAnd (tTest (tOp rLtI (tOp (rIxT K) (tVar 2) (tVar 3)) (tVar 0))) (tB (tCall (sp_is_good K a) [] E (tCons (tVar 0) (tCons (tVar 4) tNil))))) (tRet (tOp (rCatA K) (tVar 4) (tOp (rRepTA K) (tTup (tCons (tC (.int 1)) tNil)) (tOp rSubI (tCB (rLenSq K) (tCons (tVar 2) tNil)) (tCB (rLenSq K) (tCons (tVar 4) tNil)))))) tNext)))
    (tRet (tC .non)))))
theorem len_next_row {K : PySem.W.Frag} {a : Ad} {vs : List V} {H : Hp} {Q : VK} {E : XK} (h : sp_next_row K a vs H Q E) : vs.length = 2 := by
  obtain ⟨b, w, rfl, _⟩ := h
  rfl
theorem pu_next_row {K : PySem.W.Frag} {a : Ad} {vs : List V} {H : Hp} {Q : VK} {E : XK} (h : sp_next_row K a vs H Q E) : t_next_row K a E { nx := fun _ H' => Q .non H', rt := Q } (start N_next_row vs) H := by
  obtain ⟨b, w, rfl, h⟩ := h
  refine ⟨b, rfl, w, rfl, b, w, rfl, ChkW.imp h fun n ws p eb ew h1 h2 hs hl hb r H1 s1 => ⟨_, rfl, ?_⟩⟩
  subst eb
  subst ew
  cases ec : crowdedL n ws with
  | some c =>
    rcases r with ⟨_, q⟩ | ⟨z, _⟩
    · exact iteT (q H1 s1)
    · rw [ec] at z
      cases z
  | none =>
  have hq : (nextL n ws = none → ∀ H' : Hp, Same H H' → Q .non H') ∧ ∀ f, nextL n ws = some f → ∀ (l : Addr) (H' : Hp), Same H H' → H' l = some (.tup (f.map V.int)) → Q (.ref l) H' := by
    rcases r with ⟨z, _⟩ | ⟨_, q⟩
    · exact absurd ec z
    · exact q
  obtain ⟨q0, q1⟩ := hq
  refine iteF ?_
  change (tSeq (tAsg (tCB (rTupleOf K) (tCons (tVar 1) tNil)) (gName 2)) _) _ _ _
  refine tupOfS (p := p) (fun Q' q' => ⟨.ref p, rfl, q'⟩) (s1.seqA hs) fun t H2 s2 hT => ?_
  have s12 := s1.trans s2
  have hws := good_len (n := n) h1 ec fun x hx => (hb x hx).1
  refine ⟨.ref t, rfl, t, _, rfl, .inr hT, _, rfl, by omega, by omega, by omega, by rw [List.length_map]; omega, ?_⟩
  have en : ((((ws.map V.int).length : Nat) : Int) - 0).toNat = ws.length := by
    rw [List.length_map]
    omega
  rw [en]
  refine for_rangeC (fun i σ H' => (∃ y1 y2, σ = [some (.int n), some (.ref p), some (.ref t), y1, y2]) ∧ Same H2 H' ∧ nextL n ws = nextF n ws (ws.length - i)) ⟨⟨none, none, rfl⟩, Same.refl _, rfl⟩ ?_ ?_
  · rintro i σ H' hi ⟨⟨y1, y2, rfl⟩, s3, hN⟩
    obtain ⟨s, es⟩ : ∃ s, ws.length - i = s + 1 := ⟨ws.length - i - 1, by omega⟩
    have ev : 0 + ((ws.length : Nat) : Int) - 1 + ((i : Nat) : Int) * -1 = (s : Int) := by omega
    rw [ev]
    have hsl : s < ws.length := by omega
    have hT3 := s3.seqT hT
    -- start
    refine ⟨.ref t, rfl, .int s, rfl, s, rfl, slA_of hT3 fun l1 H4 s4 e4 => ?_⟩
    rw [cut_takeN] at e4
    have hT4 := s4.seqT hT3
    refine ⟨.ref t, rfl, .int s, rfl, t, _, s, .int (ws.getD s 0), rfl, rfl, hT4, int_at hsl, _, 1, rfl, rfl, l1000 (by show 1 ≤ 1000; decide), fun p2 np2 => ?_⟩
    refine catX_of ((same_new np2).seqT e4) upd_same (.inl (fun z => by cases z)) (by rw [List.length_take, List.length_map]; show _ + 1 ≤ 1000; omega) fun st H5 s5 e5x => ?_
    have e5x : H5 st = some (.tup ((upTo1 ws s).map V.int)) := by
      unfold upTo1
      rw [List.map_append, List.map_take]
      exact e5x
    have e5 := sqT_of (K := K) e5x
    have s25 := ((s4.trans (same_new np2)).trans s5)
    have hT5 := s25.seqT hT3
    refine ⟨.ref t, rfl, .int s, rfl, t, _, s, .int (ws.getD s 0), rfl, rfl, hT5, int_at hsl, .int n, rfl, _, n, rfl, rfl, _, rfl, ite2 (fun c => ?_) (fun c => ?_)⟩
    · have c : ws.getD s 0 < (n : Int) := of_decide_eq_true c
      have hsm : ws.getD s 0 ∈ ws := by
        rw [List.getD_eq_getElem?_getD, List.getElem?_eq_getElem hsl]
        exact List.getElem_mem hsl
      have hbs : ∀ x ∈ upTo1 ws s, 1 ≤ x ∧ x ≤ n := fun x hx => by
        unfold upTo1 at hx
        rcases List.mem_append.mp hx with z | z
        · exact hb x (List.mem_of_mem_take z)
        · rw [List.mem_singleton.mp z]
          have := hb _ hsm
          omega
      have hls : (upTo1 ws s).length = s + 1 := by
        unfold upTo1
        rw [List.length_append, List.length_take]
        simp
        omega
      refine ⟨.int n, rfl, .ref st, rfl, _, _, rfl, ChkW.ok h1 h2 (.inr e5) (by rw [hls]; omega) hbs fun H6 s6 => ⟨_, rfl, ?_⟩⟩
      cases ed : crowdedL n (upTo1 ws s) with
      | some d =>
        refine iteF ⟨⟨_, _, rfl⟩, (s3.trans s25).trans s6, ?_⟩
        rw [hN, es, show ws.length - (i + 1) = s by omega]
        refine nextF_no ?_
        unfold upB
        rw [ed, decide_eq_true c]
        rfl
      | none =>
        have up : upB n ws s = true := by
          unfold upB
          rw [ed, decide_eq_true c]
          rfl
        have ef : nextL n ws = some (upTo1 ws s ++ List.replicate (ws.length - (s + 1)) 1) := by
          rw [hN, es]
          unfold nextF
          rw [if_pos up]
        have e6 := s6.seqT e5
        have hT6 := s6.seqT hT5
        refine iteT ⟨.ref st, rfl, ?_⟩
        change (tOp (rRepTA K) (tTup (tCons (tC (.int 1)) tNil)) (tOp rSubI (tCB (rLenSq K) (tCons (tVar 2) tNil)) (tCB (rLenSq K) (tCons (tVar 4) tNil)))) _ _ _
        refine ones_of (K := K) (k := ws.length - (s + 1)) (by omega) (fun H7 s7 Q' q' => ⟨.ref t, rfl, t, _, rfl, .inr (s7.seqT hT6), .ref st, rfl, st, _, rfl, .inr (s7.seqT e6), _, _, rfl, rfl, ?_⟩) fun lo H7 s7 e7 => ?_
        · have ek : (((ws.map V.int).length : Nat) : Int) - ((((upTo1 ws s).map V.int).length : Nat) : Int) = ((ws.length - (s + 1) : Nat) : Int) := by
            rw [List.length_map, List.length_map, hls]
            omega
          show Q' (.int ((((ws.map V.int).length : Nat) : Int) - ((((upTo1 ws s).map V.int).length : Nat) : Int))) H7
          rw [ek]
          exact q'
        · refine catX_of (s7.seqT e6) e7 (.inr (s7 _ _ (s6 _ _ e5x))) (by rw [List.length_map, List.length_map, hls, List.length_replicate]; omega) fun lr H8 s8 e8 => ?_
          rw [← List.map_append] at e8
          exact q1 _ ef lr H8 (((((s12.trans s3).trans s25).trans s6).trans s7).trans s8) e8
    · have c : ¬ ws.getD s 0 < (n : Int) := fun z => c (decide_eq_true z)
      refine iteF ⟨⟨_, _, rfl⟩, s3.trans s25, ?_⟩
      rw [hN, es, show ws.length - (i + 1) = s by omega]
      refine nextF_no ?_
      unfold upB
      rw [decide_eq_false c]
      rfl
  · rintro σ H' ⟨⟨y1, y2, rfl⟩, s3, hN⟩
    rw [Nat.sub_self] at hN
    exact q0 hN H' (s12.trans s3)

/-! ### what the laws read of a script -/
def cellAt (ns : List Int) (k : Int) : Int := ns.getD k.toNat 0
theorem cut_drop (xs : List V) (k : Nat) : cutV xs (some (k : Int)) none = xs.drop k := by
  unfold cutV
  rw [HT.sIx_nat, HT.sIx_none]
  by_cases h : k ≤ xs.length
  · rw [Nat.min_eq_left h]
    exact List.take_of_length_le (by rw [List.length_drop]; omega)
  · rw [Nat.min_eq_right (by omega), Nat.sub_self, List.take_zero, List.drop_eq_nil_of_le (by omega)]
theorem cut2 (xs : List V) : cutV xs (some 2) none = xs.drop 2 := cut_drop xs 2
theorem atI_lit (xs : List V) (j : Nat) {v : V} (h : xs[j]? = some v) : atI xs (j : Int) = some v := atI_nat h
def sp_l_cell_at (K : PySem.W.Frag) : Sp := fun vs H Q _ => ∃ (s : Addr) (ns : List Int) (k : Int), vs = [.ref s, .int k] ∧ SqL K H s (ns.map V.int) ∧ 0 ≤ k ∧ Q (.int (cellAt ns k)) H
abbrev N_l_cell_at : List Str := ["_law_script", "_law_k"]
def t_l_cell_at (K : PySem.W.Frag) (a : Ad) : TS :=
  (tSeq (tIfS (tTest (tOp rLtI (tVar 1) (tCB (rLenSq K) (tCons (tVar 0) tNil)))) (tRet (tOp (rIxL K) (tVar 0) (tVar 1))) tNext)
    (tRet (tC (.int 0))))
theorem len_l_cell_at {K : PySem.W.Frag} {vs : List V} {H : Hp} {Q : VK} {E : XK} (h : sp_l_cell_at K vs H Q E) : vs.length = 2 := by
  obtain ⟨s, ns, k, rfl, _⟩ := h
  rfl
theorem pu_l_cell_at {K : PySem.W.Frag} {a : Ad} {vs : List V} {H : Hp} {Q : VK} {E : XK} (h : sp_l_cell_at K vs H Q E) : t_l_cell_at K a { nx := fun _ H' => Q .non H', rt := Q } (start N_l_cell_at vs) H := by
  obtain ⟨s, ns, k, rfl, hs, h0, q⟩ := h
  refine ⟨.int k, rfl, .ref s, rfl, s, _, rfl, .inl hs, _, _, rfl, rfl, _, rfl, ?_⟩
  by_cases h : k < ((ns.map V.int).length : Nat)
  · rw [decide_eq_true h]
    rw [List.length_map] at h
    have e : ns[k.toNat]? = some (cellAt ns k) := by
      unfold cellAt
      rw [List.getD_eq_getElem?_getD, List.getElem?_eq_getElem (by omega)]
      rfl
    refine iteT ⟨.ref s, rfl, .int k, rfl, s, _, k, _, rfl, rfl, hs, at_of (j := k.toNat) (by omega) (by rw [List.getElem?_map, e]; rfl), q⟩
  · rw [decide_eq_false h]
    rw [List.length_map] at h
    have e : cellAt ns k = 0 := by
      unfold cellAt
      rw [List.getD_eq_getElem?_getD, List.getElem?_eq_none (by omega)]
      rfl
    rw [e] at q
    exact iteF q
theorem p3 : (0 : Int) < 3 := by decide
theorem p4 : (0 : Int) < 4 := by decide
theorem d2 {n : Int} : CDiv n 2 := ⟨by decide, by decide⟩
theorem d3 {n : Int} : CDiv n 3 := ⟨by decide, by decide⟩
theorem d12 {n : Int} : CDiv n 12 := ⟨by decide, by decide⟩
theorem pick3 (c : Int) (x y z : V) : ∃ v, atI [x, y, z] (c % 3) = some v ∧ (v = x ∨ v = y ∨ v = z) := by
  have h : c % 3 = 0 ∨ c % 3 = 1 ∨ c % 3 = 2 := by omega
  rcases h with h | h | h <;> rw [h]
  · exact ⟨x, rfl, .inl rfl⟩
  · exact ⟨y, rfl, .inr (.inl rfl)⟩
  · exact ⟨z, rfl, .inr (.inr rfl)⟩
theorem pick4 (c : Int) (x y z u : V) : ∃ v, atI [x, y, z, u] (c % 4) = some v ∧ (v = x ∨ v = y ∨ v = z ∨ v = u) := by
  have h : c % 4 = 0 ∨ c % 4 = 1 ∨ c % 4 = 2 ∨ c % 4 = 3 := by omega
  rcases h with h | h | h | h <;> rw [h]
  · exact ⟨x, rfl, .inl rfl⟩
  · exact ⟨y, rfl, .inr (.inl rfl)⟩
  · exact ⟨z, rfl, .inr (.inr (.inl rfl))⟩
  · exact ⟨u, rfl, .inr (.inr (.inr rfl))⟩
/-! ### what the law makes and asks itself -/
theorem tyX_tup {K : PySem.W.Frag} {H : Hp} {a : Addr} {xs : List V} (h : SqT K H a xs) : TyX K H (.ref a) (.type "tuple") := by
  rcases h with (h | ⟨ob, h⟩) | ⟨o, its, n, hk, hc, _⟩
  · exact .base (.tup h)
  · exact .fTuple h
  · exact .kTuple hk hc
theorem kit_tt {K : PySem.W.Frag} : PySem.W.kitOne K (.type "tuple") (.type "tuple") = some true := kit_ty (by decide +kernel)
def sp_l_good (K : PySem.W.Frag) : Sp := fun vs H Q _ => ∃ (n : Nat) (w : Addr) (ws : List Int), vs = [.int n, .ref w] ∧ SqT K H w (ws.map V.int) ∧ n ≤ 400 ∧ ws.length ≤ 400 ∧ ∀ H' : Hp, Same H H' → Q (.bl (goodS n (sortI ws))) H'
abbrev N_l_good : List Str := ["_law_berths", "_law_wishes", "_law_order", "_law_place"]
def t_l_good (K : PySem.W.Frag) (a : Ad) : TS :=
  (tSeq (tAsg (tCB (rSortedT K) (tCons (tVar 1) tNil)) (gName 2))
    (tSeq (tFor (iRng1 (tCons (tCB (rLenSq K) (tCons (tVar 2) tNil)) tNil)) (gName 3)
    (tIfS (tTest (tOp rGtI (tOp (rIxL K) (tVar 2) (tVar 3)) (tOp rAddI (tOp rAddI (tOp rSubI (tVar 0) (tCB (rLenSq K) (tCons (tVar 2) tNil))) (tVar 3)) (tC (.int 1))))) (tRet (tC (.bl false))) tNext))
    (tRet (tC (.bl true)))))
theorem len_l_good {K : PySem.W.Frag} {vs : List V} {H : Hp} {Q : VK} {E : XK} (h : sp_l_good K vs H Q E) : vs.length = 2 := by
  obtain ⟨n, w, ws, rfl, _⟩ := h
  rfl
theorem goodS_step {n i : Nat} {o : List Int} (h : (List.range i).all (fun (j : Nat) => decide (o.getD j 0 ≤ (n : Int) - o.length + j + 1)) = true) (c : o.getD i 0 ≤ (n : Int) - o.length + i + 1) : (List.range (i + 1)).all (fun (j : Nat) => decide (o.getD j 0 ≤ (n : Int) - o.length + j + 1)) = true := by
  rw [List.range_succ, List.all_append, h, Bool.true_and]
  show (decide (o.getD i 0 ≤ (n : Int) - o.length + i + 1) && true) = true
  rw [decide_eq_true c]
  rfl
theorem goodS_fail {n i : Nat} {o : List Int} (hi : i < o.length) (c : ¬ o.getD i 0 ≤ (n : Int) - o.length + i + 1) : goodS n o = false := by
  unfold goodS
  cases e : (List.range o.length).all (fun (j : Nat) => decide (o.getD j 0 ≤ (n : Int) - o.length + j + 1)) with
  | false => rfl
  | true =>
    rw [List.all_eq_true] at e
    exact absurd (of_decide_eq_true (e i (List.mem_range.mpr hi))) c
theorem pu_l_good {K : PySem.W.Frag} {a : Ad} {vs : List V} {H : Hp} {Q : VK} {E : XK} (h : sp_l_good K vs H Q E) : t_l_good K a { nx := fun _ H' => Q .non H', rt := Q } (start N_l_good vs) H := by
  obtain ⟨n, w, ws, rfl, hs, hn, hl, q⟩ := h
  refine ⟨.ref w, rfl, w, ws, rfl, hs, fun ns' p hp hs' np => ?_⟩
  rw [sortI_uniq hp hs']
  have so : (sortI ws).length = ws.length := (sortI_perm ws).length_eq
  have e1 : (upd H p (.lst ((sortI ws).map V.int))) p = some (.lst ((sortI ws).map V.int)) := upd_same
  have s1 : Same H (upd H p (.lst ((sortI ws).map V.int))) := same_new np
  generalize (upd H p (.lst ((sortI ws).map V.int))) = H1 at *
  generalize sortI ws = o at *
  have sq := sqL_of (K := K) e1
  refine ⟨.ref p, rfl, p, _, rfl, .inl sq, _, rfl, by omega, by rw [List.length_map]; omega, ?_⟩
  have en : (((o.map V.int).length : Nat) : Int).toNat = o.length := by rw [List.length_map]; omega
  rw [en]
  refine for_range (fun i σ H' => (∃ y, σ = [some (.int n), some (.ref w), some (.ref p), y]) ∧ H' = H1 ∧ (List.range i).all (fun (j : Nat) => decide (o.getD j 0 ≤ (n : Int) - o.length + j + 1)) = true) ⟨⟨none, rfl⟩, rfl, rfl⟩ ?_ ?_
  · rintro i σ H' hi ⟨⟨y, rfl⟩, rfl, ha⟩
    rw [show (0 : Int) + (i : Int) = i by omega]
    refine ⟨.ref p, rfl, .int i, rfl, p, _, i, .int (o.getD i 0), rfl, rfl, sq, int_at hi, .int n, rfl, .ref p, rfl, p, _, rfl, .inl sq, _, _, rfl, rfl, .int i, rfl, _, _, rfl, rfl, _, 1, rfl, rfl, _, _, rfl, rfl, _, rfl, ite2 (fun c => ?_) (fun c => ?_)⟩
    · have c : (n : Int) - ((o.map V.int).length : Nat) + i + 1 < o.getD i 0 := of_decide_eq_true c
      rw [List.length_map] at c
      have e : goodS n o = false := goodS_fail hi (by omega)
      rw [e] at q
      exact q _ s1
    · have c : ¬ (n : Int) - ((o.map V.int).length : Nat) + i + 1 < o.getD i 0 := fun z => c (decide_eq_true z)
      rw [List.length_map] at c
      exact ⟨⟨_, rfl⟩, rfl, goodS_step ha (by omega)⟩
  · rintro σ H' ⟨⟨y, rfl⟩, rfl, ha⟩
    have e : goodS n o = true := ha
    rw [e] at q
    exact q _ s1
/-! lowered wishes -/
def lowL (n k : Nat) (cs : List Int) : List Int := (List.range k).map fun (j : Nat) => 1 + cs.getD j 0 % ((n : Int) - k + j + 1)
theorem low_bd {n k : Nat} {cs : List Int} (hk : k ≤ n) : ∀ x ∈ lowL n k cs, 1 ≤ x ∧ x ≤ n := fun x hx => by
  obtain ⟨j, hj, rfl⟩ := List.mem_map.mp hx
  have hj := List.mem_range.mp hj
  have b1 := Int.emod_nonneg (cs.getD j 0) (show (n : Int) - k + j + 1 ≠ 0 by omega)
  have b2 := Int.emod_lt_of_pos (cs.getD j 0) (show (0 : Int) < (n : Int) - k + j + 1 by omega)
  omega
theorem cnt_climb {f : Nat → Int} {c b : Int} : ∀ k : Nat, (∀ j, j < k → f j ≤ c + j) → (cntGe ((List.range k).map f) b) ≤ ((k : Int) + c - b).toNat
  | 0, _ => Nat.zero_le _
  | k + 1, h => by
    have ih := cnt_climb (f := f) (c := c) (b := b) k fun j hj => h j (by omega)
    have hk := h k (by omega)
    rw [List.range_succ, List.map_append, List.map_singleton, cntGe_append, cntGe_one]
    by_cases d : b ≤ f k
    · rw [if_pos d]
      omega
    · rw [if_neg d]
      omega
theorem low_good {n k : Nat} {cs : List Int} (hk : k ≤ n) : Good n (lowL n k cs) := good_def.mpr fun b h1 h2 => by
  have := cnt_climb (f := fun (j : Nat) => 1 + cs.getD j 0 % ((n : Int) - k + j + 1)) (c := (n : Int) - k + 1) (b := b) k fun j hj => by
    have b2 := Int.emod_lt_of_pos (cs.getD j 0) (show (0 : Int) < (n : Int) - k + j + 1 by omega)
    omega
  unfold lowL
  omega
theorem good_perm {n : Nat} {a b : List Int} (p : a.Perm b) (h : Good n a) : Good n b := good_def.mpr fun x h1 h2 => by
  rw [← cntGe_perm p]
  exact good_def.mp h x h1 h2
theorem low_snoc {n k i : Nat} {cs : List Int} : (List.range (i + 1)).map (fun (j : Nat) => 1 + cs.getD j 0 % ((n : Int) - k + j + 1)) = (List.range i).map (fun (j : Nat) => 1 + cs.getD j 0 % ((n : Int) - k + j + 1)) ++ [1 + cs.getD i 0 % ((n : Int) - k + i + 1)] := by
  rw [List.range_succ, List.map_append]
  rfl
/-! refused -/
structure RefW (K : PySem.W.Frag) (a : Ad) : Prop where
  ex : PySem.W.exmOne K (.ref a.e_NoWishes) (.ref a.e_BerthError) = some true
  c : ExcC K a.e_NoWishes
  k0 : PySem.W.kitAny K (.ref a.e_NoWishes) [.ref a.e_NoCount, .ref a.e_NoQuay, .ref a.e_TooMany] = some false
  k1 : PySem.W.kitOne K (.ref a.e_NoWishes) (.ref a.e_NoWishes) = some true
  k2 : PySem.W.kitOne K (.ref a.e_NoWishes) (.type "ValueError") = some true
theorem kit3w {K : PySem.W.Frag} {t c1 c2 c3 : Value} (h1 : PySem.W.kitOne K t c1 = some false) (h2 : PySem.W.kitOne K t c2 = some false) (h3 : PySem.W.kitOne K t c3 = some false) : PySem.W.kitAny K t [c1, c2, c3] = some false :=
  kitAny_cons h1 (fun _ => kitAny_cons h2 (fun _ => kitAny_cons h3 (fun _ => rfl) (fun z => by cases z)) (fun z => by cases z)) (fun z => by cases z)
theorem call2S {sp : Sp} {W : WX} {D : Ends} {σ : L2.St} {H : Hp} {b w : V} (h0 : σ[0]? = some (some b)) (h1 : σ[1]? = some (some w)) (h : sp [b, w] H (fun _ H1 => D.nx σ H1) (WE W σ)) : (tDrop (tCallS sp (WE W) (tCons (tVar 0) (tCons (tVar 1) tNil)))) D σ H := ⟨b, h0, w, h1, h⟩
/-! ### the law: all good wishes, one by one -/
def TupAt (H : Hp) (t : Addr) (w : List Int) : Prop := H t = some (.tup (w.map V.int))
theorem tups_same {H H' : Hp} {ts : List Addr} {ws : List (List Int)} (s : Same H H') (h : Paired (TupAt H) ts ws) : Paired (TupAt H') ts ws := Paired.mapP h fun _ _ e => s _ _ e
theorem tupAt_store {H : Hp} {o t : Addr} {w : List Int} {ys zs : List V} (e : H o = some (.lst ys)) (h : TupAt H t w) : TupAt (upd H o (.lst zs)) t w := by
  have ne : t ≠ o := fun z => by
    unfold TupAt at h
    rw [z, e] at h
    cases h
  show (upd H o (.lst zs)) t = _
  rw [upd_ne ne]
  exact h
theorem tups_store {H : Hp} {o : Addr} {ts : List Addr} {ws : List (List Int)} {ys zs : List V} (e : H o = some (.lst ys)) (h : Paired (TupAt H) ts ws) : Paired (TupAt (upd H o (.lst zs))) ts ws := Paired.mapP h fun _ _ q => tupAt_store e q
theorem dp_rows {K : PySem.W.Frag} {H : Hp} : ∀ {ts : List Addr} {ws : List (List Int)}, Paired (TupAt H) ts ws → DpAll K H (ts.map V.ref) ((ws.map PySem.W.Tup.mk).map PySem.W.Datum.toD)
  | _, _, .nil => .nil
  | _, _, .cons h t => .cons (.tup (sqT_of h) (dp_ints _)) (dp_rows t)
theorem dp_tup {K : PySem.W.Frag} {H : Hp} {p : Addr} {ns : List Int} (h : SqT K H p (ns.map V.int)) : Dp K H (.ref p) (PySem.W.Datum.toD (PySem.W.Tup.mk ns)) := .tup h (dp_ints ns)
theorem paired_last {α β : Type} {F : α → β → Prop} {w : β} : ∀ {l2 : List β} {l1 : List α}, Paired F l1 (l2 ++ [w]) → ∃ l1' t, l1 = l1' ++ [t] ∧ Paired F l1' l2 ∧ F t w
  | [], _, .cons h .nil => ⟨[], _, rfl, .nil, h⟩
  | _ :: l2, _, .cons h t => by
    obtain ⟨l1', u, e, p, f⟩ := paired_last (l2 := l2) t
    exact ⟨_ :: l1', u, by rw [e]; rfl, .cons h p, f⟩
theorem seqT_storeR {K : PySem.W.Frag} {H : Hp} {o t : Addr} {xs ys zs : List V} (h : SqT K H t xs) (e : H o = some (.lst ys)) : SqT K (upd H o (.lst zs)) t xs := by
  rcases h with (h | ⟨ob, h⟩) | h
  · have ne : t ≠ o := fun z => by rw [z, e] at h; cases h
    exact .inl (.inl (by rw [upd_ne ne]; exact h))
  · have ne : t ≠ o := fun z => by rw [z, e] at h; cases h
    exact .inl (.inr ⟨ob, by rw [upd_ne ne]; exact h⟩)
  · exact .inr h
theorem paired_get {α β : Type} {F : α → β → Prop} : ∀ {l1 : List α} {l2 : List β} {j : Nat} {x : α}, Paired F l1 l2 → l1[j]? = some x → ∃ y, l2[j]? = some y ∧ F x y
  | _, _, 0, _, .cons h _, e => by cases e; exact ⟨_, rfl, h⟩
  | _, _, j + 1, _, .cons _ t, e => paired_get (j := j) t (by simpa using e)
  | _, _, _, _, .nil, e => by simp at e
theorem paired_append {α β : Type} {F : α → β → Prop} : ∀ {l1 : List α} {l2 : List β} {m1 : List α} {m2 : List β}, Paired F l1 l2 → Paired F m1 m2 → Paired F (l1 ++ m1) (l2 ++ m2)
  | _, _, _, _, .nil, m => m
  | _, _, _, _, .cons h t, m => .cons h (paired_append t m)
def extL (n : Nat) (o : List Int) : List (List Int) := (List.range n).map fun (j : Nat) => o ++ [1 + (j : Int)]
theorem ext_len {n : Nat} : ∀ l : List (List Int), (l.flatMap (extL n)).length = l.length * n
  | [] => by simp
  | o :: l => by
    rw [List.flatMap_cons, List.length_append, ext_len l, List.length_cons, Nat.succ_mul]
    simp [extL]
    omega
theorem tups_count : ∀ n, n < 5 → ∀ i, i < 5 → (tupsL n i).length ≤ 256 := by decide +kernel
def keyOf (w : List Int) : List Key := w.map Sum.inl
theorem key_kV (w : List Int) : (keyOf w).map kV = w.map V.int := by
  unfold keyOf
  rw [List.map_map]
  rfl
theorem key_inj {v w : List Int} (h : keyOf v = keyOf w) : v = w := by
  have := congrArg (List.map kV) h
  rw [key_kV, key_kV] at this
  clear h
  induction v generalizing w with
  | nil =>
    cases w with
    | nil => rfl
    | cons y w => cases this
  | cons x v ih =>
    cases w with
    | nil => cases this
    | cons y w =>
      injection this with h1 h2
      injection h1 with h1
      rw [h1, ih h2]
theorem val_merge {key : List Key} : ∀ (prs : List PR) (acc : List (List Key × V)), (∀ p ∈ prs, p.v = .bl true) → (key ∈ prs.map PR.k → valV (mergeT acc prs) key = some (.bl true)) ∧ (key ∉ prs.map PR.k → valV (mergeT acc prs) key = valV acc key)
  | [], acc, _ => ⟨(fun z => by cases z), fun _ => rfl⟩
  | p :: prs, acc, h => by
    obtain ⟨h1, h2⟩ := val_merge (key := key) prs (putK acc p.k p.v) fun q hq => h q (List.mem_cons_of_mem _ hq)
    have hv := h p List.mem_cons_self
    refine ⟨fun z => ?_, fun z => ?_⟩
    · by_cases c : key ∈ prs.map PR.k
      · exact h1 c
      · have e : key = p.k := by
          rcases List.mem_cons.mp z with z | z
          · exact z
          · exact absurd z c
        have := h2 c
        rw [valV_put, if_pos e] at this
        exact this.trans (congrArg some hv)
    · have c : key ∉ prs.map PR.k := fun q => z (List.mem_cons_of_mem _ q)
      have e : ¬ key = p.k := fun q => z (by rw [q]; exact List.mem_cons_self)
      have := h2 c
      rw [valV_put, if_neg e] at this
      exact this
def sp_law (K : PySem.W.Frag) : Sp := fun vs H Q _ => ∃ (s : Addr) (ns : List Int), vs = [.ref s] ∧ SqL K H s (ns.map V.int) ∧ ns.length ≤ 63 ∧ ∀ H', Q (.bl true) H'
abbrev N_law : List Str := ["_law_script", "_law_berths", "_law_ships", "_law_row", "_law_rows", "_law_found", "_law_ship", "_law_longer", "_law_one", "_law_known", "_law_wish"]
def t_law (K : PySem.W.Frag) (a : Ad) : TS :=
  (tSeq (tAsg (tOp rAddI (tC (.int 1)) (tOp rModI (tCall (sp_l_cell_at K) [] E0 (tCons (tVar 0) (tCons (tC (.int 0)) tNil))) (tC (.int 4)))) (gName 1))
    (tSeq (tAsg (tOp rModI (tOp rDivI (tCall (sp_l_cell_at K) [] E0 (tCons (tVar 0) (tCons (tC (.int 0)) tNil))) (tC (.int 4))) (tOp rAddI (tVar 1) (tC (.int 1)))) (gName 2))
    (tSeq (tAsg (tCall (sp_first_row K a) [] E0 (tCons (tVar 1) (tCons (tVar 2) tNil))) (gName 3))
    (tSeq (tAsg (tLst tNil) (gName 4))
    (tSeq (tWhile (tAnd (tB (tNotN (tVar 3))) (tTest (tOp rLtI (tCB (rLenSq K) (tCons (tVar 4) tNil)) (tC (.int 200))))) (tSeq (tIfS (tAnd (tTest (tOp (rNeT K) (tVar 4) (tLst tNil))) (tNot (tTest (tOp (rLtT K) (tOp (rIxL K) (tVar 4) (tUn (rU fun i => .int (-i)) (tC (.int 1)))) (tVar 3))))) (tRet (tC (.bl false))) tNext)
    (tSeq (tDrop (tBM K "list" rAppend (tVar 4) (tCons (tVar 3) tNil)))
    (tAsg (tCall (sp_next_row K a) [] E0 (tCons (tVar 1) (tCons (tVar 3) tNil))) (gName 3)))))
    (tSeq (tIfS (tOr (tTest (tOp rNe (tCB (rLenSq K) (tCons (tVar 4) tNil)) (tCall (sp_how_many K a) [] E0 (tCons (tVar 1) (tCons (tVar 2) tNil))))) (tTest (tOp (rNeT K) (tOp (rIxL K) (tVar 4) (tUn (rU fun i => .int (-i)) (tC (.int 1)))) (tCall (sp_last_row K a) [] E0 (tCons (tVar 1) (tCons (tVar 2) tNil)))))) (tRet (tC (.bl false))) tNext)
    (tSeq (tAsg (tLst (tCons (tTup tNil) tNil)) (gName 5))
    (tSeq (tFor (iRng1 (tCons (tVar 2) tNil)) (gName 6)
    (tSeq (tAsg (tLst tNil) (gName 7))
    (tSeq (tFor (iList K (tVar 5)) (gName 8)
    (tAsg (tOp rCat (tVar 7) (tLc (iRng2 (tCons (tC (.int 1)) (tCons (tOp rAddI (tVar 1) (tC (.int 1))) tNil))) (gName 10) tYes (tOp (rCatA K) (tVar 8) (tTup (tCons (tVar 10) tNil))) [10])) (gName 7)))
    (tAsg (tVar 7) (gName 5)))))
    (tSeq (tAsg (tCB (rDictT K) (tCons (tLc (iList K (tVar 4)) (gName 8) tYes (tTup (tCons (tVar 8) (tCons (tC (.bl true)) tNil))) [8]) tNil)) (gName 9))
    (tSeq (tFor (iList K (tVar 5)) (gName 8)
    (tIfS (tOr (tTest (tOp rNe (tDIn (tVar 8) (tVar 9)) (tCall (sp_l_good K) [] E0 (tCons (tVar 1) (tCons (tVar 8) tNil))))) (tTest (tOp rNe (tCall (sp_is_good K a) [] E0 (tCons (tVar 1) (tCons (tVar 8) tNil))) (tDIn (tVar 8) (tVar 9))))) (tRet (tC (.bl false))) tNext))
    (tRet (tC (.bl true)))))))))))))
theorem len_law {K : PySem.W.Frag} {vs : List V} {H : Hp} {Q : VK} {E : XK} (h : sp_law K vs H Q E) : vs.length = 1 := by
  obtain ⟨s, ns, rfl, _⟩ := h
  rfl
theorem pu_law {K : PySem.W.Frag} {a : Ad} {vs : List V} {H : Hp} {Q : VK} {E : XK} (h : sp_law K vs H Q E) : t_law K a { nx := fun _ H' => Q .non H', rt := Q } (start N_law vs) H := by
  obtain ⟨s, ns, rfl, hs, hl, q⟩ := h
  -- berths, ships
  refine ⟨.ref s, rfl, s, ns, 0, rfl, hs, Int.le_refl _, _, 4, rfl, rfl, (by decide : (0 : Int) < 4), 1, _, rfl, rfl, ?_⟩
  obtain ⟨n, en, n1, n4⟩ : ∃ n : Nat, 1 + cellAt ns 0 % 4 = (n : Int) ∧ 1 ≤ n ∧ n < 5 := ⟨(1 + cellAt ns 0 % 4).toNat, by omega, by omega, by omega⟩
  show gName 1 (.int (1 + cellAt ns 0 % 4)) _ _ _
  rw [en]
  refine ⟨.ref s, rfl, s, ns, 0, rfl, hs, Int.le_refl _, _, 4, rfl, rfl, ⟨by decide, by decide⟩, .int n, rfl, _, 1, rfl, rfl, _, _, rfl, rfl, (by show (0 : Int) < (n : Int) + 1; omega), ?_⟩
  obtain ⟨k, ek, kn⟩ : ∃ k : Nat, cellAt ns 0 / 4 % ((n : Int) + 1) = (k : Int) ∧ k ≤ n := by
    have b1 := Int.emod_nonneg (cellAt ns 0 / 4) (show (n : Int) + 1 ≠ 0 by omega)
    have b2 := Int.emod_lt_of_pos (cellAt ns 0 / 4) (show (0 : Int) < (n : Int) + 1 by omega)
    exact ⟨(cellAt ns 0 / 4 % ((n : Int) + 1)).toNat, by omega, by omega⟩
  show gName 2 (.int (cellAt ns 0 / 4 % ((n : Int) + 1))) _ _ _
  rw [ek]
  have n2 : n ≤ 400 := by omega
  -- all rows there are
  obtain ⟨hcount, hfew⟩ := count_ok n n4 n1 k (by omega)
  have hall := all_ok n n4 n1 k (by omega)
  have hR0 : (allR n 200 (List.replicate k 1))[0]? = some (List.replicate k 1) := rfl
  have hnx : ∀ i w, (allR n 200 (List.replicate k 1))[i]? = some w → nextL n w = (allR n 200 (List.replicate k 1))[i + 1]? := fun i w h => allR_next h hfew
  have hok : ∀ i w, (allR n 200 (List.replicate k 1))[i]? = some w → RowOk n k w := allR_ok n1 kn hfew
  have hlt : ∀ i v w, (allR n 200 (List.replicate k 1))[i]? = some v → (allR n 200 (List.replicate k 1))[i + 1]? = some w → HT.lexLt v w = true := fun i v w => allR_lt n1 kn hfew
  generalize allR n 200 (List.replicate k 1) = R at *
  -- the first
  refine ⟨.int n, rfl, .int k, rfl, _, _, rfl, ChkQ.ok n1 n2 (ChkS.ok kn fun r0 H1 s1 e1 => ⟨Nat.zero_le _, fun rs nrs => ?_⟩)⟩
  have s2 := same_new nrs (o := .lst [])
  refine ⟨fun m σ H' => ∃ (i : Nat) (ts : List Addr) (v : V), m = R.length - i ∧ i ≤ R.length ∧ σ = [some (.ref s), some (.int n), some (.int k), some v, some (.ref rs), none, none, none, none, none, none] ∧ Same H1 H' ∧ H' rs = some (.lst (ts.map V.ref)) ∧ Paired (TupAt H') ts (R.take i) ∧
    ((∃ t w, R[i]? = some w ∧ v = .ref t ∧ TupAt H' t w) ∨ (R[i]? = none ∧ v = .non)), ⟨_, 0, [], .ref r0, rfl, Nat.zero_le _, rfl, s2, upd_same, .nil, .inl ⟨r0, _, hR0, rfl, s2 _ _ e1⟩⟩, ?_⟩
  rintro m σ H2 ⟨i, ts, v, rfl, hi, rfl, sA, eR, hP, ⟨t, w, hw, rfl, ht⟩ | ⟨hw, rfl⟩⟩
  · have hil := (List.getElem?_eq_some_iff.mp hw).1
    have W := hok i w hw
    have tl : ts.length = i := by rw [hP.length, List.length_take]; omega
    have d2 : decide ((((ts.map V.ref).length : Nat) : Int) < 200) = true := decide_eq_true (by rw [List.length_map, tl]; omega)
    refine ⟨.ref t, rfl, true, rfl, iteT ⟨.ref rs, rfl, rs, _, rfl, .inl (sqL_of eR), _, _, rfl, rfl, _, rfl, ?_⟩⟩
    rw [d2]
    refine iteT ⟨fun σ' H' => ∃ (ts' : List Addr) (v : V), σ' = [some (.ref s), some (.int n), some (.int k), some v, some (.ref rs), none, none, none, none, none, none] ∧ Same H1 H' ∧ H' rs = some (.lst (ts'.map V.ref)) ∧ Paired (TupAt H') ts' (R.take (i + 1)) ∧
      ((∃ t w, R[i + 1]? = some w ∧ v = .ref t ∧ TupAt H' t w) ∨ (R[i + 1]? = none ∧ v = .non)), ?_, ?_⟩
    · rintro σ' H' ⟨ts', v, rfl, g1, g2, g3, g4⟩
      exact ⟨R.length - (i + 1), by omega, i + 1, ts', v, rfl, by omega, rfl, g1, g2, g3, g4⟩
    -- the order
    have body : ∀ H3, Same H2 H3 → (tSeq (tDrop (tBM K "list" rAppend (tVar 4) (tCons (tVar 3) tNil))) (tAsg (tCall (sp_next_row K a) [] E0 (tCons (tVar 1) (tCons (tVar 3) tNil))) (gName 3)))
        { nx := fun σ' H' => ∃ (ts' : List Addr) (v : V), σ' = [some (.ref s), some (.int n), some (.int k), some v, some (.ref rs), none, none, none, none, none, none] ∧ Same H1 H' ∧ H' rs = some (.lst (ts'.map V.ref)) ∧ Paired (TupAt H') ts' (R.take (i + 1)) ∧
            ((∃ t w, R[i + 1]? = some w ∧ v = .ref t ∧ TupAt H' t w) ∨ (R[i + 1]? = none ∧ v = .non)), rt := Q }
        [some (.ref s), some (.int n), some (.int k), some (.ref t), some (.ref rs), none, none, none, none, none, none] H3 := by
      intro H3 s3
      have eR3 := s3 _ _ eR
      have hP3 := tups_same s3 hP
      have ht3 : TupAt H3 t w := s3 _ _ ht
      have s13 := sA.trans s3
      refine ⟨.ref rs, rfl, .inl ⟨rfl, _, sqL_of eR3⟩, .ref t, rfl, rs, _, _, rfl, rfl, eR3, by rw [List.length_map, tl]; exact small1000 (by omega), ?_⟩
      have s4 := s13.store nrs (o := .lst (ts.map V.ref ++ [.ref t]))
      have hP4 : Paired (TupAt (upd H3 rs (.lst (ts.map V.ref ++ [.ref t])))) (ts ++ [t]) (R.take (i + 1)) := by
        rw [take_more hw]
        exact Paired.snoc (tups_store eR3 hP3) (tupAt_store eR3 ht3)
      have ht4 : TupAt (upd H3 rs (.lst (ts.map V.ref ++ [.ref t]))) t w := tupAt_store eR3 ht3
      have eR4 : (upd H3 rs (.lst (ts.map V.ref ++ [.ref t]))) rs = some (.lst ((ts ++ [t]).map V.ref)) := by rw [upd_same, List.map_append]; rfl
      generalize (upd H3 rs (.lst (ts.map V.ref ++ [.ref t]))) = H4 at *
      refine ⟨.int n, rfl, .ref t, rfl, _, _, rfl, ChkW.ok n1 n2 (.inr (sqT_of ht4)) (by rw [W.len]; omega) W.bd (.inr ⟨W.good, fun hN H5 s5 => ?_, fun f hf l H5 s5 el => ?_⟩)⟩
      · rw [hnx i w hw] at hN
        exact ⟨ts ++ [t], .non, rfl, s4.trans s5, s5 _ _ eR4, tups_same s5 hP4, .inr ⟨hN, rfl⟩⟩
      · rw [hnx i w hw] at hf
        exact ⟨ts ++ [t], .ref l, rfl, s4.trans s5, s5 _ _ eR4, tups_same s5 hP4, .inl ⟨l, f, hf, rfl, el⟩⟩
    refine ⟨.ref rs, rfl, Nat.zero_le _, fun e0 ne0 => neT_of (a := (R.take i).map PySem.W.Tup.mk) (b := []) (.lst (sqL_of (same_new ne0 _ _ eR)) (dp_rows (tups_same (same_new ne0) hP))) (.lst (sqL_of upd_same) .nil) (by decide) ⟨_, rfl, ?_⟩⟩
    cases i with
    | zero => exact iteF (iteF (body _ (same_new ne0)))
    | succ i =>
      obtain ⟨wl, hwl⟩ : ∃ wl, R[i]? = some wl := ⟨_, List.getElem?_eq_getElem (by omega)⟩
      rw [take_more hwl] at hP
      obtain ⟨ts0, tl0, ets, hP0, htl⟩ := paired_last hP
      have dn : decide ((R.take (i + 1)).map PySem.W.Tup.mk ≠ []) = true := decide_eq_true fun z => by
        rw [take_more hwl, List.map_append] at z
        simp at z
      rw [dn]
      have sE : Same H2 (upd H2 e0 (.lst [])) := same_new ne0
      refine iteT ⟨.ref rs, rfl, 1, rfl, rs, _, -1, .ref tl0, rfl, rfl, sqL_of (sE _ _ eR), by rw [ets, List.map_append]; exact atI_last _ _, .ref t, rfl, tl0, t, wl, w, rfl, rfl, sqT_of (sE _ _ htl), sqT_of (sE _ _ ht), _, rfl, ?_⟩
      rw [hlt i wl w hwl hw]
      exact iteF (body _ sE)
  · -- all are there
    have iR : i = R.length := by
      by_cases z : i < R.length
      · rw [List.getElem?_eq_getElem z] at hw
        cases hw
      · omega
    subst iR
    have hPR : Paired (TupAt H2) ts R := by
      rw [List.take_length] at hP
      exact hP
    have tlen : ts.length = R.length := hPR.length
    obtain ⟨L, hL⟩ : ∃ L, R.length = L + 1 := by
      have := (List.getElem?_eq_some_iff.mp hR0).1
      exact ⟨R.length - 1, by omega⟩
    obtain ⟨wl, hwl⟩ : ∃ wl, R[L]? = some wl := ⟨_, List.getElem?_eq_getElem (by omega)⟩
    have W := hok L wl hwl
    have hwd : wl = downs n k := by
      have hN := hnx L wl hwl
      rw [List.getElem?_eq_none (by omega)] at hN
      have := next_none n1 W.bd W.good hN
      rw [W.len] at this
      exact this
    rw [hL, take_more hwl] at hP
    obtain ⟨ts0, tl0, ets, hP0, htl⟩ := paired_last hP
    refine ⟨.non, rfl, false, rfl, iteF ?_⟩
    refine ⟨.ref rs, rfl, rs, _, rfl, .inl (sqL_of eR), .int n, rfl, .int k, rfl, _, _, rfl, ChkQ.ok n1 n2 (ChkS.ok (by omega) ⟨rfl, _, rfl, ?_⟩)⟩
    have d1 : (!decide (V.int (((ts.map V.ref).length : Nat) : Int) = V.int (hmany n k))) = false := by
      rw [List.length_map, tlen, hcount, decide_eq_true rfl]
      rfl
    rw [d1]
    refine iteF ⟨.ref rs, rfl, 1, rfl, rs, _, -1, .ref tl0, rfl, rfl, sqL_of eR, by rw [ets, List.map_append]; exact atI_last _ _, .int n, rfl, .int k, rfl, _, _, rfl, ChkQ.ok n1 n2 (ChkS.ok kn fun l H3 s3 el => ?_)⟩
    refine neT_of (a := PySem.W.Tup.mk wl) (b := PySem.W.Tup.mk (downs n k)) (dp_tup (sqT_of (s3 _ _ htl))) (dp_tup (sqT_of el)) (by decide) ⟨_, rfl, ?_⟩
    rw [hwd, decide_eq_false (fun z => z rfl)]
    refine iteF ?_
    have eR3 := s3 _ _ eR
    have hP3 := tups_same s3 hPR
    -- all tuples
    refine ⟨Nat.zero_le _, fun t0 nt0 => ⟨l1000 (by show 1 ≤ 1000; decide), fun fo nfo => ?_⟩⟩
    have s4 := (same_new nt0 (o := .tup [])).trans (same_new nfo (o := .lst [.ref t0]))
    have ef : (upd (upd H3 t0 (.tup [])) fo (.lst [.ref t0])) fo = some (.lst ([t0].map V.ref)) := upd_same
    have et0 : TupAt (upd (upd H3 t0 (.tup [])) fo (.lst [.ref t0])) t0 [] := same_new nfo _ _ upd_same
    generalize (upd (upd H3 t0 (.tup [])) fo (.lst [.ref t0])) = H4 at *
    refine ⟨.int k, rfl, k, rfl, by omega, by omega, ?_⟩
    rw [show ((k : Nat) : Int).toNat = k by omega]
    refine for_range (fun i σ H' => ∃ (f : Addr) (fs : List Addr) (y6 y7 y8 : Option V), σ = [some (.ref s), some (.int n), some (.int k), some .non, some (.ref rs), some (.ref f), y6, y7, y8, none, none] ∧ Same H3 H' ∧ H' f = some (.lst (fs.map V.ref)) ∧ Paired (TupAt H') fs (tupsL n i))
      ⟨fo, [t0], none, none, none, rfl, s4, ef, .cons et0 .nil⟩ ?_ ?_
    · rintro i σ H5 hi ⟨f, fs, y6, y7, y8, rfl, s5, ef5, hF5⟩
      refine ⟨Nat.zero_le _, fun g0 ng0 => ?_⟩
      have s6 := same_new ng0 (o := .lst [])
      refine ⟨.ref f, rfl, f, rfl, ⟨_, sqL_of (s6 _ _ ef5)⟩, for_list (K := K) (a := f) (xs := fs.map V.ref) (fun j σ H' => ∃ (g : Addr) (us : List Addr) (y8 : Option V), σ = [some (.ref s), some (.int n), some (.int k), some .non, some (.ref rs), some (.ref f), some (.int (0 + (i : Int))), some (.ref g), y8, none, none] ∧ Same H5 H' ∧ H' g = some (.lst (us.map V.ref)) ∧ Paired (TupAt H') us (((tupsL n i).take j).flatMap (extL n)))
        ⟨g0, [], _, rfl, s6, upd_same, .nil⟩ (fun j σ H' _ z => by obtain ⟨g, us, y8, _, sz, _⟩ := z; exact sqL_of (sz _ _ ef5)) ?_ ?_⟩
      · rintro j x σ H6 hx ⟨g, us, y8, rfl, s6, eg, hU⟩
        rw [List.getElem?_map] at hx
        obtain ⟨t, hx1, rfl⟩ : ∃ t, fs[j]? = some t ∧ x = V.ref t := by
          cases e : fs[j]? with
          | none => rw [e] at hx; cases hx
          | some t => rw [e] at hx; exact ⟨t, rfl, (Option.some.inj hx).symm⟩
        obtain ⟨o, ho, hto⟩ := paired_get hF5 hx1
        have ht6 : TupAt H6 t o := s6 _ _ hto
        have ol := (tups_len (List.mem_of_getElem? ho)).1
        have en1 : ((n : Int) + 1 - 1).toNat = n := by omega
        have ul : us.length ≤ 256 * 4 := by
          rw [hU.length, ext_len, List.length_take]
          have c1 := tups_count n n4 i (by omega)
          exact Nat.mul_le_mul (by omega) (by omega)
        refine ⟨.ref g, rfl, .int n, rfl, n, 1, rfl, rfl, 1, (n : Int) + 1, rfl, ⟨by omega, by omega, by omega, by omega⟩, fun D nD => ?_⟩
        rw [en1]
        refine lc_it (walk_range (lo := 1) (n := n)) (D := D) (fun m H' => Same H6 H' ∧ ∃ vs : List Addr, H' D = some (.lst (vs.map V.ref)) ∧ Paired (TupAt H') vs ((List.range m).map fun (j : Nat) => o ++ [1 + (j : Int)])) ⟨same_new nD, [], upd_same, .nil⟩ (fun _ _ _ _ => trivial) ?_ ?_
        · rintro m x H7 H8 hm ⟨s7, vs, eD, hV⟩ hy
          obtain ⟨rfl, rfl⟩ := hy
          have vl : vs.length = m := by rw [hV.length]; simp
          refine ⟨rfl, iteT (B := Same H6 H8 ∧ ∃ vs : List Addr, H8 D = some (.lst (vs.map V.ref)) ∧ Paired (TupAt H8) vs ((List.range (m + 1)).map fun (j : Nat) => o ++ [1 + (j : Int)])) ⟨.ref t, rfl, .int (1 + (m : Int)), rfl, l1000 (by show 1 ≤ 1000; decide), fun p np => ?_⟩⟩
          refine catX_of (sqT_of (same_new np _ _ (s7 _ _ ht6))) upd_same (.inl (fun z => by cases z)) (by rw [List.length_map, ol]; show _ + 1 ≤ 1000; omega) fun l H9 s9 el => ?_
          have sN := (same_new np (o := .tup [.int (1 + (m : Int))])).trans s9
          have eD9 := sN _ _ eD
          refine ⟨_, eD9, by rw [List.length_map, vl]; exact small1000 (by omega), (s7.trans sN).store nD, vs ++ [l], by rw [upd_same, List.map_append]; rfl, ?_⟩
          rw [List.range_succ, List.map_append]
          refine Paired.snoc (tups_store eD9 (tups_same sN hV)) (tupAt_store eD9 ?_)
          show H9 l = some (.tup ((o ++ [1 + (m : Int)]).map V.int))
          rw [List.map_append]
          exact el
        · rintro H7 ⟨s7, vs, eD, hV⟩
          have vl : vs.length = n := by rw [hV.length]; simp
          have eg7 := s7 _ _ eg
          refine ⟨g, D, _, _, rfl, rfl, eg7, eD, Nat.le_of_lt (by rw [List.length_map, List.length_map, vl, sizeLine_eq]; omega), fun p np => ?_⟩
          refine ⟨p, us ++ vs, _, rfl, (s6.trans s7).trans (same_new np), by rw [upd_same, List.map_append], ?_⟩
          rw [take_more ho, List.flatMap_append]
          refine paired_append (tups_same (s7.trans (same_new np)) hU) ?_
          show Paired _ vs ([o].flatMap (extL n))
          rw [List.flatMap_singleton]
          exact tups_same (same_new np) hV
      · rintro σ H6 ⟨g, us, y8, rfl, s6, eg, hU⟩
        refine ⟨.ref g, rfl, g, us, _, _, _, rfl, s5.trans s6, eg, ?_⟩
        rw [List.length_map, hF5.length, List.take_length] at hU
        exact hU
    · rintro σ H5 ⟨f, fs, y6, y7, y8, rfl, s5, ef5, hF5⟩
      have eR5 := s5 _ _ eR3
      have hP5 := tups_same s5 hP3
      -- what is known
      refine ⟨.ref rs, rfl, rs, rfl, ⟨_, sqL_of eR5⟩, fun D nD => ?_⟩
      refine lc_it (walk_list (K := K) (a := rs) (xs := ts.map V.ref)) (D := D) (fun m H' => Same H5 H' ∧ ∃ prs : List PR, prs.length = m ∧ H' D = some (.lst (prs.map fun p => V.ref p.pair)) ∧ (∀ p ∈ prs, SqT K H' p.pair [.ref p.b, p.v] ∧ H' p.b = some (.tup (p.k.map kV))) ∧ prs.map PR.k = (R.take m).map keyOf ∧ ∀ p ∈ prs, p.v = .bl true)
        ⟨same_new nD, [], rfl, upd_same, (fun p hp => by cases hp), rfl, fun p hp => by cases hp⟩ (fun m H' _ z => z.1.seq (sqL_of eR5)) ?_ ?_
      · rintro m x H6 H7 hm ⟨s6, prs, pl, eD, hp, hk, hv⟩ hy
        obtain ⟨rfl, hx⟩ := hy
        rw [List.getElem?_map] at hx
        obtain ⟨t, hx1, rfl⟩ : ∃ t, ts[m]? = some t ∧ x = V.ref t := by
          cases e : ts[m]? with
          | none => rw [e] at hx; cases hx
          | some t => rw [e] at hx; exact ⟨t, rfl, (Option.some.inj hx).symm⟩
        obtain ⟨w, hw, htw⟩ := paired_get hP5 hx1
        have htw7 : TupAt H7 t w := s6 _ _ htw
        have hml : m < 200 := by
          have := (List.getElem?_eq_some_iff.mp hw).1
          omega
        refine ⟨rfl, iteT (B := Same H5 H7 ∧ ∃ prs : List PR, prs.length = m + 1 ∧ H7 D = some (.lst (prs.map fun p => V.ref p.pair)) ∧ (∀ p ∈ prs, SqT K H7 p.pair [.ref p.b, p.v] ∧ H7 p.b = some (.tup (p.k.map kV))) ∧ prs.map PR.k = (R.take (m + 1)).map keyOf ∧ ∀ p ∈ prs, p.v = .bl true) ⟨.ref t, rfl, l1000 (by show 2 ≤ 1000; decide), fun pr npr => ?_⟩⟩
        have s7 := same_new npr (o := .tup [.ref t, .bl true])
        have eD7 := s7 _ _ eD
        have epr : (upd H7 pr (.tup [.ref t, .bl true])) pr = some (.tup [.ref t, .bl true]) := upd_same
        have ht8 : (upd H7 pr (.tup [.ref t, .bl true])) t = some (.tup ((keyOf w).map kV)) := by
          rw [key_kV]
          exact s7 _ _ htw7
        have s57 := (s6.trans s7).store nD (o := .lst ((prs.map fun p => V.ref p.pair) ++ [.ref pr]))
        generalize (upd H7 pr (.tup [.ref t, .bl true])) = H8 at *
        have ne : ∀ {b : Addr} {xs : List V}, H8 b = some (.tup xs) → b ≠ D := fun e z => by
          rw [z, eD7] at e
          cases e
        refine ⟨_, eD7, by rw [List.length_map, pl]; exact small1000 (by omega), s57, prs ++ [⟨pr, t, keyOf w, .bl true⟩], by rw [List.length_append, pl]; rfl, by rw [upd_same, List.map_append]; rfl, fun p hp' => ?_, ?_, fun p hp' => ?_⟩
        · rcases List.mem_append.mp hp' with z | z
          · obtain ⟨q1, q2⟩ := hp p z
            have q2' := s7 _ _ q2
            exact ⟨seqT_storeR (s7.seqT q1) eD7, by rw [upd_ne (ne q2')]; exact q2'⟩
          · rw [List.mem_singleton.mp z]
            exact ⟨sqT_of (by rw [upd_ne (ne epr)]; exact epr), by rw [upd_ne (ne ht8)]; exact ht8⟩
        · rw [take_more hw, List.map_append, List.map_append, hk]
          rfl
        · rcases List.mem_append.mp hp' with z | z
          · exact hv p z
          · rw [List.mem_singleton.mp z]
      · rintro H6 ⟨s6, prs, pl, eD, hp, hk, hv⟩
        rw [List.length_map, tlen, List.take_length] at hk
        refine ⟨D, prs, rfl, sqL_of eD, hp, fun d nd => ?_⟩
        have s7 := same_new nd (o := .dT (mergeT [] prs))
        have ed : (upd H6 d (.dT (mergeT [] prs))) d = some (.dT (mergeT [] prs)) := upd_same
        have s57 := s6.trans s7
        generalize (upd H6 d (.dT (mergeT [] prs))) = H7 at *
        refine ⟨.ref f, rfl, f, rfl, ⟨_, sqL_of (s57 _ _ ef5)⟩, for_list (K := K) (a := f) (xs := fs.map V.ref) (fun j σ H' => (∃ y8, σ = [some (.ref s), some (.int n), some (.int k), some .non, some (.ref rs), some (.ref f), y6, y7, y8, some (.ref d), none]) ∧ Same H7 H') ⟨⟨_, rfl⟩, Same.refl _⟩ (fun j σ H' _ z => z.2.seq (sqL_of (s57 _ _ ef5))) ?_ ?_⟩
        · rintro j x σ H8 hx ⟨⟨y8, rfl⟩, s8⟩
          rw [List.getElem?_map] at hx
          obtain ⟨t, hx1, rfl⟩ : ∃ t, fs[j]? = some t ∧ x = V.ref t := by
            cases e : fs[j]? with
            | none => rw [e] at hx; cases hx
            | some t => rw [e] at hx; exact ⟨t, rfl, (Option.some.inj hx).symm⟩
          obtain ⟨o, ho, hto⟩ := paired_get hF5 hx1
          have hom := List.mem_of_getElem? ho
          obtain ⟨ol, ob⟩ := tups_len hom
          have ht8 : TupAt H8 t o := s8 _ _ (s57 _ _ hto)
          have hga := hall o hom
          have hval : (valV (mergeT [] prs) (keyOf o)).isSome = (crowdedL n o).isNone := by
            obtain ⟨v1, v2⟩ := val_merge (key := keyOf o) prs [] hv
            rw [← hga]
            by_cases c : o ∈ R
            · have ck : keyOf o ∈ prs.map PR.k := by
                rw [hk]
                exact List.mem_map_of_mem c
              rw [v1 ck, List.contains_iff_mem.mpr c]
              rfl
            · have ck : keyOf o ∉ prs.map PR.k := fun z => by
                rw [hk] at z
                obtain ⟨o2, h2, e2⟩ := List.mem_map.mp z
                exact c (key_inj e2 ▸ h2)
              have cf : R.contains o = false := by
                cases z : R.contains o with
                | false => rfl
                | true => exact absurd (List.contains_iff_mem.mp z) c
              rw [v2 ck, cf]
              rfl
          have hgs : goodS n (sortI o) = (crowdedL n o).isNone := by
            rw [Bool.eq_iff_iff, goodS_iff ob, Option.isNone_iff_eq_none]
          have ed8 := s8 _ _ ed
          refine ⟨.ref t, rfl, .ref d, rfl, d, _, rfl, DGet.t (k := keyOf o) ed8 (by rw [key_kV]; exact ht8), .int n, rfl, .ref t, rfl, n, t, o, rfl, sqT_of ht8, n2, by omega, fun H9 s9 => ⟨rfl, _, rfl, ?_⟩⟩
          rw [hval, hgs, decide_eq_true rfl]
          have ht9 : TupAt H9 t o := s9 _ _ ht8
          refine iteF ⟨.int n, rfl, .ref t, rfl, _, _, rfl, ChkW.ok n1 n2 (.inr (sqT_of ht9)) (by omega) ob fun HA sA => ?_⟩
          refine ⟨.ref t, rfl, .ref d, rfl, d, _, rfl, DGet.t (k := keyOf o) (sA _ _ (s9 _ _ ed8)) (by rw [key_kV]; exact sA _ _ ht9), rfl, _, rfl, ?_⟩
          rw [hval, decide_eq_true rfl]
          exact iteF ⟨⟨_, rfl⟩, (s8.trans s9).trans sA⟩
        · rintro σ H8 _
          exact q _

section
variable {P : Program} {w : World} {K : PySem.W.Frag} {mg : Str → Option Value} {base : Heap} {a : Ad}
def topS (i : Nat) : Stmt := PySem.Challenge.pw_berthrow_k08_whole_one_by_one.main.body.getD i (.Pass ⟨0, 0, 0, 0⟩)
structure Txt (K : PySem.W.Frag) (mg : Str → Option Value) (a : Ad) : Prop where
  t_0 : True
  b_dict : mg "dict" = none
  b_int : mg "int" = none
  b_len : mg "len" = none
  b_list : mg "list" = none
  b_range : mg "range" = none
  b_reversed : mg "reversed" = none
  b_sorted : mg "sorted" = none
  b_tuple : mg "tuple" = none
  b_type : mg "type" = none
  c_MOST : ∃ u, mg "MOST" = some u ∧ RelV (.int 400) u
  e_NoCount : ExF K mg "NoCount" a.e_NoCount
  e_NoQuay : ExF K mg "NoQuay" a.e_NoQuay
  e_NoWishes : ExF K mg "NoWishes" a.e_NoWishes
abbrev s_is_number : Stmt := topS 7
theorem sc_is_number : FnScope N_is_number ["thing"] (defScope s_is_number) := ⟨rfl, rfl, rfl, by decide +kernel, rfl, by decide +kernel, by decide +kernel⟩
theorem ok_is_number (D : DF K mg "is_number" s_is_number ["thing"] a.f_is_number) (T : Txt K mg a) : Cb P w K mg base CX0 1 "is_number" a.f_is_number ["thing"] (sp_is_number K a) := by
  obtain ⟨⟨fd, F, bb⟩, gg⟩ := D
  refine ⟨⟨fd, F.ok sc_is_number (fun vs H Q E h => len_is_number h) (fun cdv A outer s H vs Q E hr h => ⟨t_is_number K a, ?_, pu_is_number h⟩), bb⟩, gg, F.kp⟩
  exact (pss_one (ps_ret (pe_cmpR op_isTyB (pe_callTy call_type1 (by rfl) T.b_type (by decide +kernel) (pa_cons (pv 0) pa_nil)) (pe_bltn (by rfl) T.b_int (by decide +kernel) rfl) (nomark _))))

abbrev s_is_from_to : Stmt := topS 8
theorem sc_is_from_to : FnScope N_is_from_to ["low", "high", "thing"] (defScope s_is_from_to) := ⟨rfl, rfl, rfl, by decide +kernel, rfl, by decide +kernel, by decide +kernel⟩
theorem ok_is_from_to (D : DF K mg "is_from_to" s_is_from_to ["low", "high", "thing"] a.f_is_from_to) (T : Txt K mg a) (g_is_number : Cb P w K mg base CX0 1 "is_number" a.f_is_number ["thing"] (sp_is_number K a)) : Cb P w K mg base CX0 2 "is_from_to" a.f_is_from_to ["low", "high", "thing"] (sp_is_from_to K a) := by
  obtain ⟨⟨fd, F, bb⟩, gg⟩ := D
  refine ⟨⟨fd, F.ok sc_is_from_to (fun vs H Q E h => len_is_from_to h) (fun cdv A outer s H vs Q E hr h => ⟨t_is_from_to K a, ?_, pu_is_from_to h⟩), bb⟩, gg, F.kp⟩
  exact (pss_one (ps_ret (pe_and (pe_cb g_is_number (hr.mono (by decide)) (by rfl) pass0 (pa_cons (pv 2) pa_nil)) (pe_one (pe_chain op_le op_le (pv 0) (pv 2) (pv 1))))))

abbrev s_is_row : Stmt := topS 9
theorem sc_is_row : FnScope N_is_row ["thing"] (defScope s_is_row) := ⟨rfl, rfl, rfl, by decide +kernel, rfl, by decide +kernel, by decide +kernel⟩
theorem ok_is_row (D : DF K mg "is_row" s_is_row ["thing"] a.f_is_row) (T : Txt K mg a) : Cb P w K mg base CX0 1 "is_row" a.f_is_row ["thing"] (sp_is_row K a) := by
  obtain ⟨⟨fd, F, bb⟩, gg⟩ := D
  refine ⟨⟨fd, F.ok sc_is_row (fun vs H Q E h => len_is_row h) (fun cdv A outer s H vs Q E hr h => ⟨t_is_row K a, ?_, pu_is_row h⟩), bb⟩, gg, F.kp⟩
  exact (pss_one (ps_ret (pe_or (pe_cmpR op_isTyB (pe_callTy call_type1 (by rfl) T.b_type (by decide +kernel) (pa_cons (pv 0) pa_nil)) (pe_bltn (by rfl) T.b_list (by decide +kernel) rfl) (nomark _)) (pe_one (pe_cmpR op_isTyB (pe_callTy call_type1 (by rfl) T.b_type (by decide +kernel) (pa_cons (pv 0) pa_nil)) (pe_bltn (by rfl) T.b_tuple (by decide +kernel) rfl) (nomark _))))))

abbrev s_check_quay : Stmt := topS 10
theorem sc_check_quay : FnScope N_check_quay ["berths"] (defScope s_check_quay) := ⟨rfl, rfl, rfl, by decide +kernel, rfl, by decide +kernel, by decide +kernel⟩
theorem ok_check_quay (D : DF K mg "check_quay" s_check_quay ["berths"] a.f_check_quay) (T : Txt K mg a) (g_is_from_to : Cb P w K mg base CX0 2 "is_from_to" a.f_is_from_to ["low", "high", "thing"] (sp_is_from_to K a)) : Cb P w K mg base (L2.CX P w) 3 "check_quay" a.f_check_quay ["berths"] (sp_check_quay K a) := by
  obtain ⟨⟨fd, F, bb⟩, gg⟩ := D
  refine ⟨⟨fd, F.okX sc_check_quay (fun vs H Q E h => len_check_quay h) (fun cdv A outer s H vs Q E hr h => ⟨t_check_quay K a E, ?_, pu_check_quay h⟩), bb⟩, gg, F.kp⟩
  exact (pss_one (ps_if (pt_not (pt_val (pe_cb g_is_from_to (hr.mono (by decide)) (by rfl) pass0 (pa_cons pe_int (pa_cons (pe_gl (by rfl) T.c_MOST) (pa_cons (pv 0) pa_nil)))))) (pss_one (ps_raise rfl (takes_of rfl rfl rfl rfl) (pmk_own PySem.F.excBase_ValueError T.e_NoQuay.x T.e_NoQuay.g T.e_NoQuay.k (raises_own T.e_NoQuay.b T.e_NoQuay.t) (by exact rfl)))) pss_nil))

abbrev s_check_wishes : Stmt := topS 11
theorem sc_check_wishes : FnScope N_check_wishes ["berths", "wishes"] (defScope s_check_wishes) := ⟨rfl, rfl, rfl, by decide +kernel, rfl, by decide +kernel, by decide +kernel⟩
theorem ok_check_wishes (D : DF K mg "check_wishes" s_check_wishes ["berths", "wishes"] a.f_check_wishes) (T : Txt K mg a) (g_is_from_to : Cb P w K mg base CX0 2 "is_from_to" a.f_is_from_to ["low", "high", "thing"] (sp_is_from_to K a)) (g_is_row : Cb P w K mg base CX0 1 "is_row" a.f_is_row ["thing"] (sp_is_row K a)) (g_check_quay : Cb P w K mg base (L2.CX P w) 3 "check_quay" a.f_check_quay ["berths"] (sp_check_quay K a)) : Cb P w K mg base (L2.CX P w) 4 "check_wishes" a.f_check_wishes ["berths", "wishes"] (sp_check_wishes K a) := by
  obtain ⟨⟨fd, F, bb⟩, gg⟩ := D
  refine ⟨⟨fd, F.okX sc_check_wishes (fun vs H Q E h => len_check_wishes h) (fun cdv A outer s H vs Q E hr h => ⟨t_check_wishes K a E, ?_, pu_check_wishes h⟩), bb⟩, gg, F.kp⟩
  exact (pss_cons (ps_expr (pe_cb g_check_quay (hr.mono (by decide)) (by rfl) (passes_call (takes_of rfl rfl rfl rfl) (fun _ _ _ _ h => h)) (pa_cons (pv 0) pa_nil)))
    (pss_cons (ps_if (pt_not (pt_val (pe_cb g_is_row (hr.mono (by decide)) (by rfl) pass0 (pa_cons (pv 1) pa_nil)))) (pss_one (ps_raise rfl (takes_of rfl rfl rfl rfl) (pmk_own PySem.F.excBase_ValueError T.e_NoWishes.x T.e_NoWishes.g T.e_NoWishes.k (raises_own T.e_NoWishes.b T.e_NoWishes.t) (by exact rfl)))) pss_nil)
    (pss_cons (ps_if (pt_cmpR op_gt (pe_callB call_len_seq (by rfl) T.b_len (by decide +kernel) (pa_cons (pv 1) pa_nil)) (pe_gl (by rfl) T.c_MOST) (nomark _)) (pss_one (ps_raise rfl (takes_of rfl rfl rfl rfl) (pmk_own PySem.F.excBase_ValueError T.e_NoWishes.x T.e_NoWishes.g T.e_NoWishes.k (raises_own T.e_NoWishes.b T.e_NoWishes.t) (by exact rfl)))) pss_nil)
    (pss_one (ps_for (passes_of rfl) rfl (pi_seq (pv 1)) (pg_name (i := 2) sc_check_wishes.nd rfl (by first | exact Or.inl rfl | exact Or.inr rfl))
    (pss_one (ps_if (pt_not (pt_val (pe_cb g_is_from_to (hr.mono (by decide)) (by rfl) pass0 (pa_cons pe_int (pa_cons (pv 0) (pa_cons (pv 2) pa_nil)))))) (pss_one (ps_raise rfl (takes_of rfl rfl rfl rfl) (pmk_own PySem.F.excBase_ValueError T.e_NoWishes.x T.e_NoWishes.g T.e_NoWishes.k (raises_own T.e_NoWishes.b T.e_NoWishes.t) (by exact rfl)))) pss_nil)))))))

abbrev s_crowded : Stmt := topS 14
theorem sc_crowded : FnScope N_crowded ["berths", "wishes"] (defScope s_crowded) := ⟨rfl, rfl, rfl, by decide +kernel, rfl, by decide +kernel, by decide +kernel⟩
theorem ok_crowded (D : DF K mg "crowded" s_crowded ["berths", "wishes"] a.f_crowded) (T : Txt K mg a) (g_check_wishes : Cb P w K mg base (L2.CX P w) 4 "check_wishes" a.f_check_wishes ["berths", "wishes"] (sp_check_wishes K a)) : Cb P w K mg base (L2.CX P w) 5 "crowded" a.f_crowded ["berths", "wishes"] (sp_crowded K a) := by
  obtain ⟨⟨fd, F, bb⟩, gg⟩ := D
  refine ⟨⟨fd, F.okX sc_crowded (fun vs H Q E h => len_crowded h) (fun cdv A outer s H vs Q E hr h => ⟨t_crowded K a E, ?_, pu_crowded h⟩), bb⟩, gg, F.kp⟩
  exact (pss_cons (ps_expr (pe_cb g_check_wishes (hr.mono (by decide)) (by rfl) (passes_call (takes_of rfl rfl rfl rfl) (fun _ _ _ _ h => h)) (pa_cons (pv 0) (pa_cons (pv 1) pa_nil))))
    (pss_cons (ps_set (i := 2) sc_crowded.nd rfl (by first | exact Or.inl rfl | exact Or.inr rfl) (pe_op op_rep (pe_lst (pa_cons pe_int pa_nil)) (pe_op op_add (pv 0) pe_int)))
    (pss_cons (ps_for (passes_of rfl) rfl (pi_seq (pv 1)) (pg_name (i := 3) sc_crowded.nd rfl (by first | exact Or.inl rfl | exact Or.inr rfl))
    (pss_one (ps_augS (pv 2) (pv 3) gt_list pe_int ip_add set_list)))
    (pss_cons (ps_set (i := 4) sc_crowded.nd rfl (by first | exact Or.inl rfl | exact Or.inr rfl) pe_int)
    (pss_cons (ps_for (passes_of rfl) rfl (pi_range3 (by rfl) T.b_range (pa_cons (pv 0) (pa_cons pe_int (pa_cons (pe_un un_neg pe_int) pa_nil)))) (pg_name (i := 5) sc_crowded.nd rfl (by first | exact Or.inl rfl | exact Or.inr rfl))
    (pss_cons (ps_aug (i := 4) sc_crowded.nd rfl (by first | exact Or.inl rfl | exact Or.inr rfl) (pe_ix ix_list (pv 2) (pv 5) (fun _ _ => rfl)) ip_add)
    (pss_one (ps_if (pt_cmpR op_gt (pv 4) (pe_op op_add (pe_op op_sub (pv 0) (pv 5)) pe_int) (nomark _)) (pss_one (ps_ret (pv 5))) pss_nil))))
    (pss_one (ps_ret pe_non)))))))

abbrev s_is_good : Stmt := topS 13
theorem sc_is_good : FnScope N_is_good ["berths", "wishes"] (defScope s_is_good) := ⟨rfl, rfl, rfl, by decide +kernel, rfl, by decide +kernel, by decide +kernel⟩
theorem ok_is_good (D : DF K mg "is_good" s_is_good ["berths", "wishes"] a.f_is_good) (T : Txt K mg a) (g_crowded : Cb P w K mg base (L2.CX P w) 5 "crowded" a.f_crowded ["berths", "wishes"] (sp_crowded K a)) : Cb P w K mg base (L2.CX P w) 6 "is_good" a.f_is_good ["berths", "wishes"] (sp_is_good K a) := by
  obtain ⟨⟨fd, F, bb⟩, gg⟩ := D
  refine ⟨⟨fd, F.okX sc_is_good (fun vs H Q E h => len_is_good h) (fun cdv A outer s H vs Q E hr h => ⟨t_is_good K a E, ?_, pu_is_good h⟩), bb⟩, gg, F.kp⟩
  exact (pss_one (ps_ret (pe_cmp (pc_isN (pe_cb g_crowded (hr.mono (by decide)) (by rfl) (passes_call (takes_of rfl rfl rfl rfl) (fun _ _ _ _ h => h)) (pa_cons (pv 0) (pa_cons (pv 1) pa_nil)))) rfl)))

abbrev s_how_many : Stmt := topS 16
theorem sc_how_many : FnScope N_how_many ["berths", "ships"] (defScope s_how_many) := ⟨rfl, rfl, rfl, by decide +kernel, rfl, by decide +kernel, by decide +kernel⟩
theorem ok_how_many (D : DF K mg "how_many" s_how_many ["berths", "ships"] a.f_how_many) (T : Txt K mg a) (g_is_from_to : Cb P w K mg base CX0 2 "is_from_to" a.f_is_from_to ["low", "high", "thing"] (sp_is_from_to K a)) (g_check_quay : Cb P w K mg base (L2.CX P w) 3 "check_quay" a.f_check_quay ["berths"] (sp_check_quay K a)) : Cb P w K mg base (L2.CX P w) 4 "how_many" a.f_how_many ["berths", "ships"] (sp_how_many K a) := by
  obtain ⟨⟨fd, F, bb⟩, gg⟩ := D
  refine ⟨⟨fd, F.okX sc_how_many (fun vs H Q E h => len_how_many h) (fun cdv A outer s H vs Q E hr h => ⟨t_how_many K a E, ?_, pu_how_many h⟩), bb⟩, gg, F.kp⟩
  exact (pss_cons (ps_expr (pe_cb g_check_quay (hr.mono (by decide)) (by rfl) (passes_call (takes_of rfl rfl rfl rfl) (fun _ _ _ _ h => h)) (pa_cons (pv 0) pa_nil)))
    (pss_cons (ps_if (pt_not (pt_val (pe_cb g_is_from_to (hr.mono (by decide)) (by rfl) pass0 (pa_cons pe_int (pa_cons (pe_gl (by rfl) T.c_MOST) (pa_cons (pv 1) pa_nil)))))) (pss_one (ps_raise rfl (takes_of rfl rfl rfl rfl) (pmk_own PySem.F.excBase_ValueError T.e_NoCount.x T.e_NoCount.g T.e_NoCount.k (raises_own T.e_NoCount.b T.e_NoCount.t) (by exact rfl)))) pss_nil)
    (pss_cons (ps_if (pt_cmpR op_gt (pv 1) (pv 0) (nomark _)) (pss_one (ps_ret pe_int)) pss_nil)
    (pss_cons (ps_if (pt_cmpR op_eq (pv 1) pe_int (nomark _)) (pss_one (ps_ret pe_int)) pss_nil)
    (pss_cons (ps_set (i := 2) sc_how_many.nd rfl (by first | exact Or.inl rfl | exact Or.inr rfl) (pe_op op_sub (pe_op op_add (pv 0) pe_int) (pv 1)))
    (pss_cons (ps_for (passes_of rfl) rfl (pi_range1 (by rfl) T.b_range (pa_cons (pe_op op_sub (pv 1) pe_int) pa_nil)) (pg_name (i := 3) sc_how_many.nd rfl (by first | exact Or.inl rfl | exact Or.inr rfl))
    (pss_one (ps_set (i := 2) sc_how_many.nd rfl (by first | exact Or.inl rfl | exact Or.inr rfl) (pe_op op_mul (pv 2) (pe_op op_add (pv 0) pe_int)))))
    (pss_one (ps_ret (pv 2)))))))))

abbrev s_p_check_ships : Stmt := topS 20
theorem sc_p_check_ships : FnScope N_p_check_ships ["berths", "ships"] (defScope s_p_check_ships) := ⟨rfl, rfl, rfl, by decide +kernel, rfl, by decide +kernel, by decide +kernel⟩
theorem ok_p_check_ships (D : DF K mg "_check_ships" s_p_check_ships ["berths", "ships"] a.f_p_check_ships) (T : Txt K mg a) (g_is_from_to : Cb P w K mg base CX0 2 "is_from_to" a.f_is_from_to ["low", "high", "thing"] (sp_is_from_to K a)) (g_check_quay : Cb P w K mg base (L2.CX P w) 3 "check_quay" a.f_check_quay ["berths"] (sp_check_quay K a)) : Cb P w K mg base (L2.CX P w) 4 "_check_ships" a.f_p_check_ships ["berths", "ships"] (sp_p_check_ships K a) := by
  obtain ⟨⟨fd, F, bb⟩, gg⟩ := D
  refine ⟨⟨fd, F.okX sc_p_check_ships (fun vs H Q E h => len_p_check_ships h) (fun cdv A outer s H vs Q E hr h => ⟨t_p_check_ships K a E, ?_, pu_p_check_ships h⟩), bb⟩, gg, F.kp⟩
  exact (pss_cons (ps_expr (pe_cb g_check_quay (hr.mono (by decide)) (by rfl) (passes_call (takes_of rfl rfl rfl rfl) (fun _ _ _ _ h => h)) (pa_cons (pv 0) pa_nil)))
    (pss_one (ps_if (pt_not (pt_val (pe_cb g_is_from_to (hr.mono (by decide)) (by rfl) pass0 (pa_cons pe_int (pa_cons (pv 0) (pa_cons (pv 1) pa_nil)))))) (pss_one (ps_raise rfl (takes_of rfl rfl rfl rfl) (pmk_own PySem.F.excBase_ValueError T.e_NoCount.x T.e_NoCount.g T.e_NoCount.k (raises_own T.e_NoCount.b T.e_NoCount.t) (by exact rfl)))) pss_nil)))

abbrev s_first_row : Stmt := topS 17
theorem sc_first_row : FnScope N_first_row ["berths", "ships"] (defScope s_first_row) := ⟨rfl, rfl, rfl, by decide +kernel, rfl, by decide +kernel, by decide +kernel⟩
theorem ok_first_row (D : DF K mg "first_row" s_first_row ["berths", "ships"] a.f_first_row) (T : Txt K mg a) (g_p_check_ships : Cb P w K mg base (L2.CX P w) 4 "_check_ships" a.f_p_check_ships ["berths", "ships"] (sp_p_check_ships K a)) : Cb P w K mg base (L2.CX P w) 5 "first_row" a.f_first_row ["berths", "ships"] (sp_first_row K a) := by
  obtain ⟨⟨fd, F, bb⟩, gg⟩ := D
  refine ⟨⟨fd, F.okX sc_first_row (fun vs H Q E h => len_first_row h) (fun cdv A outer s H vs Q E hr h => ⟨t_first_row K a E, ?_, pu_first_row h⟩), bb⟩, gg, F.kp⟩
  exact (pss_cons (ps_expr (pe_cb g_p_check_ships (hr.mono (by decide)) (by rfl) (passes_call (takes_of rfl rfl rfl rfl) (fun _ _ _ _ h => h)) (pa_cons (pv 0) (pa_cons (pv 1) pa_nil))))
    (pss_one (ps_ret (pe_op op_repTA (pe_tup (pa_cons pe_int pa_nil)) (pv 1)))))

abbrev s_last_row : Stmt := topS 18
theorem sc_last_row : FnScope N_last_row ["berths", "ships"] (defScope s_last_row) := ⟨rfl, rfl, rfl, by decide +kernel, rfl, by decide +kernel, by decide +kernel⟩
theorem ok_last_row (D : DF K mg "last_row" s_last_row ["berths", "ships"] a.f_last_row) (T : Txt K mg a) (g_p_check_ships : Cb P w K mg base (L2.CX P w) 4 "_check_ships" a.f_p_check_ships ["berths", "ships"] (sp_p_check_ships K a)) : Cb P w K mg base (L2.CX P w) 5 "last_row" a.f_last_row ["berths", "ships"] (sp_last_row K a) := by
  obtain ⟨⟨fd, F, bb⟩, gg⟩ := D
  refine ⟨⟨fd, F.okX sc_last_row (fun vs H Q E h => len_last_row h) (fun cdv A outer s H vs Q E hr h => ⟨t_last_row K a E, ?_, pu_last_row h⟩), bb⟩, gg, F.kp⟩
  exact (pss_cons (ps_expr (pe_cb g_p_check_ships (hr.mono (by decide)) (by rfl) (passes_call (takes_of rfl rfl rfl rfl) (fun _ _ _ _ h => h)) (pa_cons (pv 0) (pa_cons (pv 1) pa_nil))))
    (pss_one (ps_ret (pe_tupRg3 rfl (by rfl) T.b_tuple (by rfl) T.b_range (pa_cons (pv 0) (pa_cons (pe_op op_sub (pv 0) (pv 1)) (pa_cons (pe_un un_neg pe_int) pa_nil)))))))

abbrev s_next_row : Stmt := topS 19
theorem sc_next_row : FnScope N_next_row ["berths", "wishes"] (defScope s_next_row) := ⟨rfl, rfl, rfl, by decide +kernel, rfl, by decide +kernel, by decide +kernel⟩
theorem ok_next_row (D : DF K mg "next_row" s_next_row ["berths", "wishes"] a.f_next_row) (T : Txt K mg a) (g_is_good : Cb P w K mg base (L2.CX P w) 6 "is_good" a.f_is_good ["berths", "wishes"] (sp_is_good K a)) : Cb P w K mg base (L2.CX P w) 7 "next_row" a.f_next_row ["berths", "wishes"] (sp_next_row K a) := by
  obtain ⟨⟨fd, F, bb⟩, gg⟩ := D
  refine ⟨⟨fd, F.okX sc_next_row (fun vs H Q E h => len_next_row h) (fun cdv A outer s H vs Q E hr h => ⟨t_next_row K a E, ?_, pu_next_row h⟩), bb⟩, gg, F.kp⟩
  exact (pss_cons (ps_if (pt_not (pt_val (pe_cb g_is_good (hr.mono (by decide)) (by rfl) (passes_call (takes_of rfl rfl rfl rfl) (fun _ _ _ _ h => h)) (pa_cons (pv 0) (pa_cons (pv 1) pa_nil))))) (pss_one (ps_raise rfl (takes_of rfl rfl rfl rfl) (pmk_own PySem.F.excBase_ValueError T.e_NoWishes.x T.e_NoWishes.g T.e_NoWishes.k (raises_own T.e_NoWishes.b T.e_NoWishes.t) (by exact rfl)))) pss_nil)
    (pss_cons (ps_set (i := 2) sc_next_row.nd rfl (by first | exact Or.inl rfl | exact Or.inr rfl) (pe_callTy call_tuple_of (by rfl) T.b_tuple (by decide +kernel) (pa_cons (pv 1) pa_nil)))
    (pss_cons (ps_for (passes_of rfl) rfl (pi_revR (by rfl) T.b_reversed (prg_1 (by rfl) T.b_range (pe_callB call_len_seq (by rfl) T.b_len (by decide +kernel) (pa_cons (pv 2) pa_nil)))) (pg_name (i := 3) sc_next_row.nd rfl (by first | exact Or.inl rfl | exact Or.inr rfl))
    (pss_cons (ps_set (i := 4) sc_next_row.nd rfl (by first | exact Or.inl rfl | exact Or.inr rfl) (pe_op op_catA (pe_slice sl_tupA (pv 2) po_none (po_some (pv 3))) (pe_tup (pa_cons (pe_op op_add (pe_ix ix_tup (pv 2) (pv 3) (fun _ _ => rfl)) pe_int) pa_nil))))
    (pss_one (ps_if (PW.pt (pw_and (pt_cmpR op_lt (pe_ix ix_tup (pv 2) (pv 3) (fun _ _ => rfl)) (pv 0) (nomark _)) (pw_and1 (pt_val (pe_cb g_is_good (hr.mono (by decide)) (by rfl) (passes_call (takes_of rfl rfl rfl rfl) (fun _ _ _ _ h => h)) (pa_cons (pv 0) (pa_cons (pv 4) pa_nil))))))) (pss_one (ps_ret (pe_op op_catA (pv 4) (pe_op op_repTA (pe_tup (pa_cons pe_int pa_nil)) (pe_op op_sub (pe_callB call_len_seq (by rfl) T.b_len (by decide +kernel) (pa_cons (pv 2) pa_nil)) (pe_callB call_len_seq (by rfl) T.b_len (by decide +kernel) (pa_cons (pv 4) pa_nil))))))) pss_nil))))
    (pss_one (ps_ret pe_non)))))

abbrev s_l_cell_at : Stmt := topS 22
theorem sc_l_cell_at : FnScope N_l_cell_at ["_law_script", "_law_k"] (defScope s_l_cell_at) := ⟨rfl, rfl, rfl, by decide +kernel, rfl, by decide +kernel, by decide +kernel⟩
theorem ok_l_cell_at (D : DF K mg "_law_cell_at" s_l_cell_at ["_law_script", "_law_k"] a.f_l_cell_at) (T : Txt K mg a) : Cb P w K mg base CX0 1 "_law_cell_at" a.f_l_cell_at ["_law_script", "_law_k"] (sp_l_cell_at K) := by
  obtain ⟨⟨fd, F, bb⟩, gg⟩ := D
  refine ⟨⟨fd, F.ok sc_l_cell_at (fun vs H Q E h => len_l_cell_at h) (fun cdv A outer s H vs Q E hr h => ⟨t_l_cell_at K a, ?_, pu_l_cell_at h⟩), bb⟩, gg, F.kp⟩
  exact (pss_cons (ps_if (pt_cmpR op_lt (pv 1) (pe_callB call_len_seq (by rfl) T.b_len (by decide +kernel) (pa_cons (pv 0) pa_nil)) (nomark _)) (pss_one (ps_ret (pe_ix ix_list (pv 0) (pv 1) (fun _ _ => rfl)))) pss_nil)
    (pss_one (ps_ret pe_int)))

abbrev s_l_good : Stmt := topS 23
theorem sc_l_good : FnScope N_l_good ["_law_berths", "_law_wishes"] (defScope s_l_good) := ⟨rfl, rfl, rfl, by decide +kernel, rfl, by decide +kernel, by decide +kernel⟩
theorem ok_l_good (D : DF K mg "_law_good" s_l_good ["_law_berths", "_law_wishes"] a.f_l_good) (T : Txt K mg a) : Cb P w K mg base CX0 1 "_law_good" a.f_l_good ["_law_berths", "_law_wishes"] (sp_l_good K) := by
  obtain ⟨⟨fd, F, bb⟩, gg⟩ := D
  refine ⟨⟨fd, F.ok sc_l_good (fun vs H Q E h => len_l_good h) (fun cdv A outer s H vs Q E hr h => ⟨t_l_good K a, ?_, pu_l_good h⟩), bb⟩, gg, F.kp⟩
  exact (pss_cons (ps_set (i := 2) sc_l_good.nd rfl (by first | exact Or.inl rfl | exact Or.inr rfl) (pe_callB cr_sortedT (by rfl) T.b_sorted (by decide +kernel) (pa_cons (pv 1) pa_nil)))
    (pss_cons (ps_for PassesOwn.never rfl (pi_range1 (by rfl) T.b_range (pa_cons (pe_callB call_len_seq (by rfl) T.b_len (by decide +kernel) (pa_cons (pv 2) pa_nil)) pa_nil)) (pg_name (i := 3) sc_l_good.nd rfl (by first | exact Or.inl rfl | exact Or.inr rfl))
    (pss_one (ps_if (pt_cmpR op_gt (pe_ix ix_list (pv 2) (pv 3) (fun _ _ => rfl)) (pe_op op_add (pe_op op_add (pe_op op_sub (pv 0) (pe_callB call_len_seq (by rfl) T.b_len (by decide +kernel) (pa_cons (pv 2) pa_nil))) (pv 3)) pe_int) (nomark _)) (pss_one (ps_ret pe_bl)) pss_nil)))
    (pss_one (ps_ret pe_bl))))

abbrev s_law : Stmt := topS 24
theorem sc_law : FnScope N_law ["_law_script"] (defScope s_law) := ⟨rfl, rfl, rfl, by decide +kernel, rfl, by decide +kernel, by decide +kernel⟩
theorem ok_law {f : Addr} {fd : FuncData} (F : Fun K "law" "law" s_law f fd) (T : Txt K mg a) (g_is_good : Cb P w K mg base (L2.CX P w) 6 "is_good" a.f_is_good ["berths", "wishes"] (sp_is_good K a)) (g_how_many : Cb P w K mg base (L2.CX P w) 4 "how_many" a.f_how_many ["berths", "ships"] (sp_how_many K a)) (g_first_row : Cb P w K mg base (L2.CX P w) 5 "first_row" a.f_first_row ["berths", "ships"] (sp_first_row K a)) (g_last_row : Cb P w K mg base (L2.CX P w) 5 "last_row" a.f_last_row ["berths", "ships"] (sp_last_row K a)) (g_next_row : Cb P w K mg base (L2.CX P w) 7 "next_row" a.f_next_row ["berths", "wishes"] (sp_next_row K a)) (g_l_cell_at : Cb P w K mg base CX0 1 "_law_cell_at" a.f_l_cell_at ["_law_script", "_law_k"] (sp_l_cell_at K)) (g_l_good : Cb P w K mg base CX0 1 "_law_good" a.f_l_good ["_law_berths", "_law_wishes"] (sp_l_good K)) : FnOk P w K mg base CX0 8 f fd ["_law_script"] (sp_law K) := by
  refine F.ok sc_law (fun vs H Q E h => len_law h) (fun cdv A outer s H vs Q E hr h => ⟨t_law K a, ?_, pu_law h⟩)
  exact (pss_cons (ps_set (i := 1) sc_law.nd rfl (by first | exact Or.inl rfl | exact Or.inr rfl) (pe_op op_add pe_int (pe_op op_mod (pe_cb g_l_cell_at (hr.mono (by decide)) (by rfl) pass0 (pa_cons (pv 0) (pa_cons pe_int pa_nil))) pe_int)))
    (pss_cons (ps_set (i := 2) sc_law.nd rfl (by first | exact Or.inl rfl | exact Or.inr rfl) (pe_op op_mod (pe_op op_fdiv (pe_cb g_l_cell_at (hr.mono (by decide)) (by rfl) pass0 (pa_cons (pv 0) (pa_cons pe_int pa_nil))) pe_int) (pe_op op_add (pv 1) pe_int)))
    (pss_cons (ps_set (i := 3) sc_law.nd rfl (by first | exact Or.inl rfl | exact Or.inr rfl) (pe_cb g_first_row (hr.mono (by decide)) (by rfl) passL (pa_cons (pv 1) (pa_cons (pv 2) pa_nil))))
    (pss_cons (ps_set (i := 4) sc_law.nd rfl (by first | exact Or.inl rfl | exact Or.inr rfl) (pe_lst pa_nil))
    (pss_cons (ps_while PassesOwn.never (PW.pt (pw_and (pt_cmp (pc_notN (pv 3)) rfl) (pw_and1 (pt_cmpR op_lt (pe_callB call_len_seq (by rfl) T.b_len (by decide +kernel) (pa_cons (pv 4) pa_nil)) pe_int (nomark _))))) (pss_cons (ps_if (PW.pt (pw_and (pt_cmpR (op_neT hr.units) (pv 4) (pe_lst pa_nil) (nomark _)) (pw_and1 (pt_not (pt_cmpR (op_ltT hr.units0) (pe_ix ix_list (pv 4) (pe_un un_neg pe_int) (fun _ _ => rfl)) (pv 3) (nomark _)))))) (pss_one (ps_ret pe_bl)) pss_nil)
    (pss_cons (ps_expr (pe_bm PySem.F.plainAttrs_list PySem.F.slot_list_append PySem.F.type_list_append mt_append (pv 4) (pa_cons (pv 3) pa_nil)))
    (pss_one (ps_set (i := 3) sc_law.nd rfl (by first | exact Or.inl rfl | exact Or.inr rfl) (pe_cb g_next_row (hr.mono (by decide)) (by rfl) passL (pa_cons (pv 1) (pa_cons (pv 3) pa_nil))))))))
    (pss_cons (ps_if (PW.pt (pw_or (pt_cmpR op_ne (pe_callB call_len_seq (by rfl) T.b_len (by decide +kernel) (pa_cons (pv 4) pa_nil)) (pe_cb g_how_many (hr.mono (by decide)) (by rfl) passL (pa_cons (pv 1) (pa_cons (pv 2) pa_nil))) (nomark _)) (pw_or1 (pt_cmpR (op_neT hr.units) (pe_ix ix_list (pv 4) (pe_un un_neg pe_int) (fun _ _ => rfl)) (pe_cb g_last_row (hr.mono (by decide)) (by rfl) passL (pa_cons (pv 1) (pa_cons (pv 2) pa_nil))) (nomark _))))) (pss_one (ps_ret pe_bl)) pss_nil)
    (pss_cons (ps_set (i := 5) sc_law.nd rfl (by first | exact Or.inl rfl | exact Or.inr rfl) (pe_lst (pa_cons (pe_tup pa_nil) pa_nil)))
    (pss_cons (ps_for PassesOwn.never rfl (pi_range1 (by rfl) T.b_range (pa_cons (pv 2) pa_nil)) (pg_name (i := 6) sc_law.nd rfl (by first | exact Or.inl rfl | exact Or.inr rfl))
    (pss_cons (ps_set (i := 7) sc_law.nd rfl (by first | exact Or.inl rfl | exact Or.inr rfl) (pe_lst pa_nil))
    (pss_cons (ps_for PassesOwn.never rfl (pi_list (pv 5)) (pg_name (i := 8) sc_law.nd rfl (by first | exact Or.inl rfl | exact Or.inr rfl))
    (pss_one (ps_set (i := 7) sc_law.nd rfl (by first | exact Or.inl rfl | exact Or.inr rfl) (pe_op op_cat (pv 7) (pe_lc (own := [("_law_wish", 10)]) rfl sc_law.nd (pi_range2 (by rfl) T.b_range (pa_cons pe_int (pa_cons (pe_op op_add (pv 1) pe_int) pa_nil))) (blkOk_by (N := N_law) (sc := defScope s_law) (by decide +kernel)) (fun _ _ _ _ _ => (pg_name (i := 10) sc_law.nd rfl (by first | exact Or.inl rfl | exact Or.inr rfl))) (fun _ _ _ _ _ => pts_nil) (fun _ _ _ _ _ => (pe_op op_catA (pv 8) (pe_tup (pa_cons (pv 10) pa_nil)))))))))
    (pss_one (ps_set (i := 5) sc_law.nd rfl (by first | exact Or.inl rfl | exact Or.inr rfl) (pv 7))))))
    (pss_cons (ps_set (i := 9) sc_law.nd rfl (by first | exact Or.inl rfl | exact Or.inr rfl) (pe_callTy (call_dictT rfl hr.units) (by rfl) T.b_dict (by decide +kernel) (pa_cons (pe_lc (own := [("_law_one", 8)]) rfl sc_law.nd (pi_list (pv 4)) (blkOk_by (N := N_law) (sc := defScope s_law) (by decide +kernel)) (fun _ _ _ _ _ => (pg_name (i := 8) sc_law.nd rfl (by first | exact Or.inl rfl | exact Or.inr rfl))) (fun _ _ _ _ _ => pts_nil) (fun _ _ _ _ _ => (pe_tup (pa_cons (pv 8) (pa_cons pe_bl pa_nil))))) pa_nil)))
    (pss_cons (ps_for PassesOwn.never rfl (pi_list (pv 5)) (pg_name (i := 8) sc_law.nd rfl (by first | exact Or.inl rfl | exact Or.inr rfl))
    (pss_one (ps_if (PW.pt (pw_or (pt_cmpR op_ne (pe_cmp (pc_din (Nat.lt_of_le_of_lt (Nat.add_le_add_left (by decide : 1 ≤ 64) _) hr.units) (pv 8) (pv 9)) rfl) (pe_cb g_l_good (hr.mono (by decide)) (by rfl) pass0 (pa_cons (pv 1) (pa_cons (pv 8) pa_nil))) (nomark _)) (pw_or1 (pt_cmpR op_ne (pe_cb g_is_good (hr.mono (by decide)) (by rfl) passL (pa_cons (pv 1) (pa_cons (pv 8) pa_nil))) (pe_cmp (pc_din (Nat.lt_of_le_of_lt (Nat.add_le_add_left (by decide : 1 ≤ 64) _) hr.units) (pv 8) (pv 9)) rfl) (nomark _))))) (pss_one (ps_ret pe_bl)) pss_nil)))
    (pss_one (ps_ret pe_bl))))))))))))
end
theorem all_mk {P : Program} {w : World} {K : PySem.W.Frag} {h : Heap} {mg : Str → Option Value} {fa : Addr} (X : K.In h) (G : h.Ns mainGlobals mg) (hfa : mg "law" = some (.ref fa))
    {f_is_number f_is_from_to f_is_row f_check_quay f_check_wishes f_crowded f_is_good f_how_many f_p_check_ships f_first_row f_last_row f_next_row f_l_cell_at f_l_good f_law e_NoCount e_NoQuay e_NoWishes : Addr}
    {od_is_number an_is_number od_is_from_to an_is_from_to od_is_row an_is_row od_check_quay an_check_quay od_check_wishes an_check_wishes od_crowded an_crowded od_is_good an_is_good od_how_many an_how_many od_p_check_ships an_p_check_ships od_first_row an_first_row od_last_row an_last_row od_next_row an_next_row od_l_cell_at an_l_cell_at od_l_good an_l_good od_law an_law : Option Addr}
    {sl_is_number sl_is_from_to sl_is_row sl_check_quay sl_check_wishes sl_crowded sl_is_good sl_how_many sl_p_check_ships sl_first_row sl_last_row sl_next_row sl_l_cell_at sl_l_good sl_law : Array (Option Value)}
    {oc_is_number kV_is_number dc_is_number pm_is_number cd_is_number ct_is_number oc_is_from_to kV_is_from_to dc_is_from_to pm_is_from_to cd_is_from_to ct_is_from_to oc_is_row kV_is_row dc_is_row pm_is_row cd_is_row ct_is_row oc_check_quay kV_check_quay dc_check_quay pm_check_quay cd_check_quay ct_check_quay oc_check_wishes kV_check_wishes dc_check_wishes pm_check_wishes cd_check_wishes ct_check_wishes oc_crowded kV_crowded dc_crowded pm_crowded cd_crowded ct_crowded oc_is_good kV_is_good dc_is_good pm_is_good cd_is_good ct_is_good oc_how_many kV_how_many dc_how_many pm_how_many cd_how_many ct_how_many oc_p_check_ships kV_p_check_ships dc_p_check_ships pm_p_check_ships cd_p_check_ships ct_p_check_ships oc_first_row kV_first_row dc_first_row pm_first_row cd_first_row ct_first_row oc_last_row kV_last_row dc_last_row pm_last_row cd_last_row ct_last_row oc_next_row kV_next_row dc_next_row pm_next_row cd_next_row ct_next_row oc_l_cell_at kV_l_cell_at dc_l_cell_at pm_l_cell_at cd_l_cell_at ct_l_cell_at oc_l_good kV_l_good dc_l_good pm_l_good cd_l_good ct_l_good oc_law kV_law dc_law pm_law cd_law ct_law : Value}
    {t_MOST : Tok}
    (a_is_number : PySem.W.nsIn K mainGlobals "is_number" = some (some (.ref f_is_number))) (l_is_number : K.lookup f_is_number = some ⟨oc_is_number, od_is_number, .func (PySem.W.fnOf "is_number" "is_number" (defArgs s_is_number) (defBody s_is_number) (defScope s_is_number) .none kV_is_number dc_is_number pm_is_number an_is_number cd_is_number ct_is_number), sl_is_number⟩) (cI_is_number : PySem.W.codeIn K cd_is_number "is_number" = true) (kI_is_number : PySem.W.keepIn K (.ref f_is_number) = true)
    (a_is_from_to : PySem.W.nsIn K mainGlobals "is_from_to" = some (some (.ref f_is_from_to))) (l_is_from_to : K.lookup f_is_from_to = some ⟨oc_is_from_to, od_is_from_to, .func (PySem.W.fnOf "is_from_to" "is_from_to" (defArgs s_is_from_to) (defBody s_is_from_to) (defScope s_is_from_to) .none kV_is_from_to dc_is_from_to pm_is_from_to an_is_from_to cd_is_from_to ct_is_from_to), sl_is_from_to⟩) (cI_is_from_to : PySem.W.codeIn K cd_is_from_to "is_from_to" = true) (kI_is_from_to : PySem.W.keepIn K (.ref f_is_from_to) = true)
    (a_is_row : PySem.W.nsIn K mainGlobals "is_row" = some (some (.ref f_is_row))) (l_is_row : K.lookup f_is_row = some ⟨oc_is_row, od_is_row, .func (PySem.W.fnOf "is_row" "is_row" (defArgs s_is_row) (defBody s_is_row) (defScope s_is_row) .none kV_is_row dc_is_row pm_is_row an_is_row cd_is_row ct_is_row), sl_is_row⟩) (cI_is_row : PySem.W.codeIn K cd_is_row "is_row" = true) (kI_is_row : PySem.W.keepIn K (.ref f_is_row) = true)
    (a_check_quay : PySem.W.nsIn K mainGlobals "check_quay" = some (some (.ref f_check_quay))) (l_check_quay : K.lookup f_check_quay = some ⟨oc_check_quay, od_check_quay, .func (PySem.W.fnOf "check_quay" "check_quay" (defArgs s_check_quay) (defBody s_check_quay) (defScope s_check_quay) .none kV_check_quay dc_check_quay pm_check_quay an_check_quay cd_check_quay ct_check_quay), sl_check_quay⟩) (cI_check_quay : PySem.W.codeIn K cd_check_quay "check_quay" = true) (kI_check_quay : PySem.W.keepIn K (.ref f_check_quay) = true)
    (a_check_wishes : PySem.W.nsIn K mainGlobals "check_wishes" = some (some (.ref f_check_wishes))) (l_check_wishes : K.lookup f_check_wishes = some ⟨oc_check_wishes, od_check_wishes, .func (PySem.W.fnOf "check_wishes" "check_wishes" (defArgs s_check_wishes) (defBody s_check_wishes) (defScope s_check_wishes) .none kV_check_wishes dc_check_wishes pm_check_wishes an_check_wishes cd_check_wishes ct_check_wishes), sl_check_wishes⟩) (cI_check_wishes : PySem.W.codeIn K cd_check_wishes "check_wishes" = true) (kI_check_wishes : PySem.W.keepIn K (.ref f_check_wishes) = true)
    (a_crowded : PySem.W.nsIn K mainGlobals "crowded" = some (some (.ref f_crowded))) (l_crowded : K.lookup f_crowded = some ⟨oc_crowded, od_crowded, .func (PySem.W.fnOf "crowded" "crowded" (defArgs s_crowded) (defBody s_crowded) (defScope s_crowded) .none kV_crowded dc_crowded pm_crowded an_crowded cd_crowded ct_crowded), sl_crowded⟩) (cI_crowded : PySem.W.codeIn K cd_crowded "crowded" = true) (kI_crowded : PySem.W.keepIn K (.ref f_crowded) = true)
    (a_is_good : PySem.W.nsIn K mainGlobals "is_good" = some (some (.ref f_is_good))) (l_is_good : K.lookup f_is_good = some ⟨oc_is_good, od_is_good, .func (PySem.W.fnOf "is_good" "is_good" (defArgs s_is_good) (defBody s_is_good) (defScope s_is_good) .none kV_is_good dc_is_good pm_is_good an_is_good cd_is_good ct_is_good), sl_is_good⟩) (cI_is_good : PySem.W.codeIn K cd_is_good "is_good" = true) (kI_is_good : PySem.W.keepIn K (.ref f_is_good) = true)
    (a_how_many : PySem.W.nsIn K mainGlobals "how_many" = some (some (.ref f_how_many))) (l_how_many : K.lookup f_how_many = some ⟨oc_how_many, od_how_many, .func (PySem.W.fnOf "how_many" "how_many" (defArgs s_how_many) (defBody s_how_many) (defScope s_how_many) .none kV_how_many dc_how_many pm_how_many an_how_many cd_how_many ct_how_many), sl_how_many⟩) (cI_how_many : PySem.W.codeIn K cd_how_many "how_many" = true) (kI_how_many : PySem.W.keepIn K (.ref f_how_many) = true)
    (a_p_check_ships : PySem.W.nsIn K mainGlobals "_check_ships" = some (some (.ref f_p_check_ships))) (l_p_check_ships : K.lookup f_p_check_ships = some ⟨oc_p_check_ships, od_p_check_ships, .func (PySem.W.fnOf "_check_ships" "_check_ships" (defArgs s_p_check_ships) (defBody s_p_check_ships) (defScope s_p_check_ships) .none kV_p_check_ships dc_p_check_ships pm_p_check_ships an_p_check_ships cd_p_check_ships ct_p_check_ships), sl_p_check_ships⟩) (cI_p_check_ships : PySem.W.codeIn K cd_p_check_ships "_check_ships" = true) (kI_p_check_ships : PySem.W.keepIn K (.ref f_p_check_ships) = true)
    (a_first_row : PySem.W.nsIn K mainGlobals "first_row" = some (some (.ref f_first_row))) (l_first_row : K.lookup f_first_row = some ⟨oc_first_row, od_first_row, .func (PySem.W.fnOf "first_row" "first_row" (defArgs s_first_row) (defBody s_first_row) (defScope s_first_row) .none kV_first_row dc_first_row pm_first_row an_first_row cd_first_row ct_first_row), sl_first_row⟩) (cI_first_row : PySem.W.codeIn K cd_first_row "first_row" = true) (kI_first_row : PySem.W.keepIn K (.ref f_first_row) = true)
    (a_last_row : PySem.W.nsIn K mainGlobals "last_row" = some (some (.ref f_last_row))) (l_last_row : K.lookup f_last_row = some ⟨oc_last_row, od_last_row, .func (PySem.W.fnOf "last_row" "last_row" (defArgs s_last_row) (defBody s_last_row) (defScope s_last_row) .none kV_last_row dc_last_row pm_last_row an_last_row cd_last_row ct_last_row), sl_last_row⟩) (cI_last_row : PySem.W.codeIn K cd_last_row "last_row" = true) (kI_last_row : PySem.W.keepIn K (.ref f_last_row) = true)
    (a_next_row : PySem.W.nsIn K mainGlobals "next_row" = some (some (.ref f_next_row))) (l_next_row : K.lookup f_next_row = some ⟨oc_next_row, od_next_row, .func (PySem.W.fnOf "next_row" "next_row" (defArgs s_next_row) (defBody s_next_row) (defScope s_next_row) .none kV_next_row dc_next_row pm_next_row an_next_row cd_next_row ct_next_row), sl_next_row⟩) (cI_next_row : PySem.W.codeIn K cd_next_row "next_row" = true) (kI_next_row : PySem.W.keepIn K (.ref f_next_row) = true)
    (a_l_cell_at : PySem.W.nsIn K mainGlobals "_law_cell_at" = some (some (.ref f_l_cell_at))) (l_l_cell_at : K.lookup f_l_cell_at = some ⟨oc_l_cell_at, od_l_cell_at, .func (PySem.W.fnOf "_law_cell_at" "_law_cell_at" (defArgs s_l_cell_at) (defBody s_l_cell_at) (defScope s_l_cell_at) .none kV_l_cell_at dc_l_cell_at pm_l_cell_at an_l_cell_at cd_l_cell_at ct_l_cell_at), sl_l_cell_at⟩) (cI_l_cell_at : PySem.W.codeIn K cd_l_cell_at "_law_cell_at" = true) (kI_l_cell_at : PySem.W.keepIn K (.ref f_l_cell_at) = true)
    (a_l_good : PySem.W.nsIn K mainGlobals "_law_good" = some (some (.ref f_l_good))) (l_l_good : K.lookup f_l_good = some ⟨oc_l_good, od_l_good, .func (PySem.W.fnOf "_law_good" "_law_good" (defArgs s_l_good) (defBody s_l_good) (defScope s_l_good) .none kV_l_good dc_l_good pm_l_good an_l_good cd_l_good ct_l_good), sl_l_good⟩) (cI_l_good : PySem.W.codeIn K cd_l_good "_law_good" = true) (kI_l_good : PySem.W.keepIn K (.ref f_l_good) = true)
    (a_law : PySem.W.nsIn K mainGlobals "law" = some (some (.ref f_law))) (l_law : K.lookup f_law = some ⟨oc_law, od_law, .func (PySem.W.fnOf "law" "law" (defArgs s_law) (defBody s_law) (defScope s_law) .none kV_law dc_law pm_law an_law cd_law ct_law), sl_law⟩) (cI_law : PySem.W.codeIn K cd_law "law" = true) (kI_law : PySem.W.keepIn K (.ref f_law) = true)
    (z_dict : PySem.W.nsIn K mainGlobals "dict" = some none)
    (z_int : PySem.W.nsIn K mainGlobals "int" = some none)
    (z_len : PySem.W.nsIn K mainGlobals "len" = some none)
    (z_list : PySem.W.nsIn K mainGlobals "list" = some none)
    (z_range : PySem.W.nsIn K mainGlobals "range" = some none)
    (z_reversed : PySem.W.nsIn K mainGlobals "reversed" = some none)
    (z_sorted : PySem.W.nsIn K mainGlobals "sorted" = some none)
    (z_tuple : PySem.W.nsIn K mainGlobals "tuple" = some none)
    (z_type : PySem.W.nsIn K mainGlobals "type" = some none)
    (y_MOST : PySem.W.nsIn K mainGlobals "MOST" = some (some (.int 400 t_MOST)))
    (xg_NoCount : PySem.W.nsIn K mainGlobals "NoCount" = some (some (.ref e_NoCount)))
    (xx_NoCount : PySem.W.excIn K e_NoCount [.type "ValueError", .type "Exception", .type "BaseException", .type "object"] "ValueError.__new__" = true)
    (xk_NoCount : PySem.W.keepIn K (.ref e_NoCount) = true)
    (xb_NoCount : PySem.W.subIn K (.ref e_NoCount) (.type "BaseException") = some true)
    (xt_NoCount : PySem.W.typeIn K (.ref e_NoCount) = some (.type "type"))
    (xg_NoQuay : PySem.W.nsIn K mainGlobals "NoQuay" = some (some (.ref e_NoQuay)))
    (xx_NoQuay : PySem.W.excIn K e_NoQuay [.type "ValueError", .type "Exception", .type "BaseException", .type "object"] "ValueError.__new__" = true)
    (xk_NoQuay : PySem.W.keepIn K (.ref e_NoQuay) = true)
    (xb_NoQuay : PySem.W.subIn K (.ref e_NoQuay) (.type "BaseException") = some true)
    (xt_NoQuay : PySem.W.typeIn K (.ref e_NoQuay) = some (.type "type"))
    (xg_NoWishes : PySem.W.nsIn K mainGlobals "NoWishes" = some (some (.ref e_NoWishes)))
    (xx_NoWishes : PySem.W.excIn K e_NoWishes [.type "ValueError", .type "Exception", .type "BaseException", .type "object"] "ValueError.__new__" = true)
    (xk_NoWishes : PySem.W.keepIn K (.ref e_NoWishes) = true)
    (xb_NoWishes : PySem.W.subIn K (.ref e_NoWishes) (.type "BaseException") = some true)
    (xt_NoWishes : PySem.W.typeIn K (.ref e_NoWishes) = some (.type "type"))
    : ∃ fd : FuncData, (∀ (s : Shared) (v : Value), BindsTo s fd ⟨[v], []⟩ [("_law_script", v)]) ∧ ∀ base : Heap, K.In base → base.Ns mainGlobals mg → FnOk P w K mg base CX0 8 fa fd ["_law_script"] (sp_law K) := by
  have e := hfa.symm.trans (PySem.W.mg_of X G a_law)
  cases e
  have T : Txt K mg ({ f_is_number := f_is_number, f_is_from_to := f_is_from_to, f_is_row := f_is_row, f_check_quay := f_check_quay, f_check_wishes := f_check_wishes, f_crowded := f_crowded, f_is_good := f_is_good, f_how_many := f_how_many, f_p_check_ships := f_p_check_ships, f_first_row := f_first_row, f_last_row := f_last_row, f_next_row := f_next_row, f_l_cell_at := f_l_cell_at, f_l_good := f_l_good, e_NoCount := e_NoCount, e_NoQuay := e_NoQuay, e_NoWishes := e_NoWishes } : Ad) := ⟨trivial,
    PySem.W.mg_none_of X G z_dict,
    PySem.W.mg_none_of X G z_int,
    PySem.W.mg_none_of X G z_len,
    PySem.W.mg_none_of X G z_list,
    PySem.W.mg_none_of X G z_range,
    PySem.W.mg_none_of X G z_reversed,
    PySem.W.mg_none_of X G z_sorted,
    PySem.W.mg_none_of X G z_tuple,
    PySem.W.mg_none_of X G z_type,
    ⟨_, PySem.W.mg_of X G y_MOST, ⟨_, rfl⟩⟩,
    ⟨PySem.W.mg_of X G xg_NoCount, xx_NoCount, xk_NoCount, xb_NoCount, xt_NoCount⟩,
    ⟨PySem.W.mg_of X G xg_NoQuay, xx_NoQuay, xk_NoQuay, xb_NoQuay, xt_NoQuay⟩,
    ⟨PySem.W.mg_of X G xg_NoWishes, xx_NoWishes, xk_NoWishes, xb_NoWishes, xt_NoWishes⟩⟩
  have D_is_number : DF K mg "is_number" s_is_number ["thing"] f_is_number := df_mk (fun_mk (st := s_is_number) l_is_number cI_is_number kI_is_number) (fun _ _ _ _ _ _ us hl => match us, hl with | [_], _ => rfl) (PySem.W.mg_of X G a_is_number)
  have D_is_from_to : DF K mg "is_from_to" s_is_from_to ["low", "high", "thing"] f_is_from_to := df_mk (fun_mk (st := s_is_from_to) l_is_from_to cI_is_from_to kI_is_from_to) (fun _ _ _ _ _ _ us hl => match us, hl with | [_, _, _], _ => rfl) (PySem.W.mg_of X G a_is_from_to)
  have D_is_row : DF K mg "is_row" s_is_row ["thing"] f_is_row := df_mk (fun_mk (st := s_is_row) l_is_row cI_is_row kI_is_row) (fun _ _ _ _ _ _ us hl => match us, hl with | [_], _ => rfl) (PySem.W.mg_of X G a_is_row)
  have D_check_quay : DF K mg "check_quay" s_check_quay ["berths"] f_check_quay := df_mk (fun_mk (st := s_check_quay) l_check_quay cI_check_quay kI_check_quay) (fun _ _ _ _ _ _ us hl => match us, hl with | [_], _ => rfl) (PySem.W.mg_of X G a_check_quay)
  have D_check_wishes : DF K mg "check_wishes" s_check_wishes ["berths", "wishes"] f_check_wishes := df_mk (fun_mk (st := s_check_wishes) l_check_wishes cI_check_wishes kI_check_wishes) (fun _ _ _ _ _ _ us hl => match us, hl with | [_, _], _ => rfl) (PySem.W.mg_of X G a_check_wishes)
  have D_crowded : DF K mg "crowded" s_crowded ["berths", "wishes"] f_crowded := df_mk (fun_mk (st := s_crowded) l_crowded cI_crowded kI_crowded) (fun _ _ _ _ _ _ us hl => match us, hl with | [_, _], _ => rfl) (PySem.W.mg_of X G a_crowded)
  have D_is_good : DF K mg "is_good" s_is_good ["berths", "wishes"] f_is_good := df_mk (fun_mk (st := s_is_good) l_is_good cI_is_good kI_is_good) (fun _ _ _ _ _ _ us hl => match us, hl with | [_, _], _ => rfl) (PySem.W.mg_of X G a_is_good)
  have D_how_many : DF K mg "how_many" s_how_many ["berths", "ships"] f_how_many := df_mk (fun_mk (st := s_how_many) l_how_many cI_how_many kI_how_many) (fun _ _ _ _ _ _ us hl => match us, hl with | [_, _], _ => rfl) (PySem.W.mg_of X G a_how_many)
  have D_p_check_ships : DF K mg "_check_ships" s_p_check_ships ["berths", "ships"] f_p_check_ships := df_mk (fun_mk (st := s_p_check_ships) l_p_check_ships cI_p_check_ships kI_p_check_ships) (fun _ _ _ _ _ _ us hl => match us, hl with | [_, _], _ => rfl) (PySem.W.mg_of X G a_p_check_ships)
  have D_first_row : DF K mg "first_row" s_first_row ["berths", "ships"] f_first_row := df_mk (fun_mk (st := s_first_row) l_first_row cI_first_row kI_first_row) (fun _ _ _ _ _ _ us hl => match us, hl with | [_, _], _ => rfl) (PySem.W.mg_of X G a_first_row)
  have D_last_row : DF K mg "last_row" s_last_row ["berths", "ships"] f_last_row := df_mk (fun_mk (st := s_last_row) l_last_row cI_last_row kI_last_row) (fun _ _ _ _ _ _ us hl => match us, hl with | [_, _], _ => rfl) (PySem.W.mg_of X G a_last_row)
  have D_next_row : DF K mg "next_row" s_next_row ["berths", "wishes"] f_next_row := df_mk (fun_mk (st := s_next_row) l_next_row cI_next_row kI_next_row) (fun _ _ _ _ _ _ us hl => match us, hl with | [_, _], _ => rfl) (PySem.W.mg_of X G a_next_row)
  have D_l_cell_at : DF K mg "_law_cell_at" s_l_cell_at ["_law_script", "_law_k"] f_l_cell_at := df_mk (fun_mk (st := s_l_cell_at) l_l_cell_at cI_l_cell_at kI_l_cell_at) (fun _ _ _ _ _ _ us hl => match us, hl with | [_, _], _ => rfl) (PySem.W.mg_of X G a_l_cell_at)
  have D_l_good : DF K mg "_law_good" s_l_good ["_law_berths", "_law_wishes"] f_l_good := df_mk (fun_mk (st := s_l_good) l_l_good cI_l_good kI_l_good) (fun _ _ _ _ _ _ us hl => match us, hl with | [_, _], _ => rfl) (PySem.W.mg_of X G a_l_good)
  refine ⟨PySem.W.fnOf "law" "law" (defArgs s_law) (defBody s_law) (defScope s_law) .none kV_law dc_law pm_law an_law cd_law ct_law, fun s v => .of_eq rfl, fun base _ _ => ?_⟩
  have g_is_number := ok_is_number (P := P) (w := w) (base := base) D_is_number T
  have g_is_from_to := ok_is_from_to (P := P) (w := w) (base := base) D_is_from_to T g_is_number
  have g_is_row := ok_is_row (P := P) (w := w) (base := base) D_is_row T
  have g_check_quay := ok_check_quay (P := P) (w := w) (base := base) D_check_quay T g_is_from_to
  have g_check_wishes := ok_check_wishes (P := P) (w := w) (base := base) D_check_wishes T g_is_from_to g_is_row g_check_quay
  have g_crowded := ok_crowded (P := P) (w := w) (base := base) D_crowded T g_check_wishes
  have g_is_good := ok_is_good (P := P) (w := w) (base := base) D_is_good T g_crowded
  have g_how_many := ok_how_many (P := P) (w := w) (base := base) D_how_many T g_is_from_to g_check_quay
  have g_p_check_ships := ok_p_check_ships (P := P) (w := w) (base := base) D_p_check_ships T g_is_from_to g_check_quay
  have g_first_row := ok_first_row (P := P) (w := w) (base := base) D_first_row T g_p_check_ships
  have g_last_row := ok_last_row (P := P) (w := w) (base := base) D_last_row T g_p_check_ships
  have g_next_row := ok_next_row (P := P) (w := w) (base := base) D_next_row T g_is_good
  have g_l_cell_at := ok_l_cell_at (P := P) (w := w) (base := base) D_l_cell_at T
  have g_l_good := ok_l_good (P := P) (w := w) (base := base) D_l_good T
  exact ok_law (fun_mk (st := s_law) l_law cI_law kI_law) T g_is_good g_how_many g_first_row g_last_row g_next_row g_l_cell_at g_l_good
end Br
open PySem PySem.W PyProof.Rows
set_option maxHeartbeats 0 in
theorem PySem.Challenge.cw_berthrow_k08_whole_one_by_one_holds : PySem.Challenge.rw_berthrow_k08_whole_one_by_one.Holds := by
  w_on; o_law; k_head; (case hw => w_witness2)
  k_fill
  refine L2.walk_of (l := PySem.Challenge.rw_berthrow_k08_whole_one_by_one) (n := 63) (k := 8) (x := "_law_script") (CX := fun _ => L2.CX0) (sp := fun w => Br.sp_law _) rfl (by decide) rfl ⟨rfl, by decide, by decide⟩ (fun w h Y => PySem.W.kIn_of Y) ?F (fun _ _ a ns hl _ hS => ⟨a, ns, rfl, hS, hl, fun _ => rfl⟩) (fun _ _ _ _ _ h => h)
  case F =>
    intro w mg fa h KX G hmg
    refine' Br.all_mk KX G hmg ?a_is_number ?l_is_number ?cI_is_number ?kI_is_number ?a_is_from_to ?l_is_from_to ?cI_is_from_to ?kI_is_from_to ?a_is_row ?l_is_row ?cI_is_row ?kI_is_row ?a_check_quay ?l_check_quay ?cI_check_quay ?kI_check_quay ?a_check_wishes ?l_check_wishes ?cI_check_wishes ?kI_check_wishes ?a_crowded ?l_crowded ?cI_crowded ?kI_crowded ?a_is_good ?l_is_good ?cI_is_good ?kI_is_good ?a_how_many ?l_how_many ?cI_how_many ?kI_how_many ?a_p_check_ships ?l_p_check_ships ?cI_p_check_ships ?kI_p_check_ships ?a_first_row ?l_first_row ?cI_first_row ?kI_first_row ?a_last_row ?l_last_row ?cI_last_row ?kI_last_row ?a_next_row ?l_next_row ?cI_next_row ?kI_next_row ?a_l_cell_at ?l_l_cell_at ?cI_l_cell_at ?kI_l_cell_at ?a_l_good ?l_l_good ?cI_l_good ?kI_l_good ?a_law ?l_law ?cI_law ?kI_law ?z_dict ?z_int ?z_len ?z_list ?z_range ?z_reversed ?z_sorted ?z_tuple ?z_type ?y_MOST ?xg_NoCount ?xx_NoCount ?xk_NoCount ?xb_NoCount ?xt_NoCount ?xg_NoQuay ?xx_NoQuay ?xk_NoQuay ?xb_NoQuay ?xt_NoQuay ?xg_NoWishes ?xx_NoWishes ?xk_NoWishes ?xb_NoWishes ?xt_NoWishes
    (case a_is_number => k_is)
    (case l_is_number => k_is)
    (case cI_is_number => k_is)
    (case kI_is_number => k_is)
    (case a_is_from_to => k_is)
    (case l_is_from_to => k_is)
    (case cI_is_from_to => k_is)
    (case kI_is_from_to => k_is)
    (case a_is_row => k_is)
    (case l_is_row => k_is)
    (case cI_is_row => k_is)
    (case kI_is_row => k_is)
    (case a_check_quay => k_is)
    (case l_check_quay => k_is)
    (case cI_check_quay => k_is)
    (case kI_check_quay => k_is)
    (case a_check_wishes => k_is)
    (case l_check_wishes => k_is)
    (case cI_check_wishes => k_is)
    (case kI_check_wishes => k_is)
    (case a_crowded => k_is)
    (case l_crowded => k_is)
    (case cI_crowded => k_is)
    (case kI_crowded => k_is)
    (case a_is_good => k_is)
    (case l_is_good => k_is)
    (case cI_is_good => k_is)
    (case kI_is_good => k_is)
    (case a_how_many => k_is)
    (case l_how_many => k_is)
    (case cI_how_many => k_is)
    (case kI_how_many => k_is)
    (case a_p_check_ships => k_is)
    (case l_p_check_ships => k_is)
    (case cI_p_check_ships => k_is)
    (case kI_p_check_ships => k_is)
    (case a_first_row => k_is)
    (case l_first_row => k_is)
    (case cI_first_row => k_is)
    (case kI_first_row => k_is)
    (case a_last_row => k_is)
    (case l_last_row => k_is)
    (case cI_last_row => k_is)
    (case kI_last_row => k_is)
    (case a_next_row => k_is)
    (case l_next_row => k_is)
    (case cI_next_row => k_is)
    (case kI_next_row => k_is)
    (case a_l_cell_at => k_is)
    (case l_l_cell_at => k_is)
    (case cI_l_cell_at => k_is)
    (case kI_l_cell_at => k_is)
    (case a_l_good => k_is)
    (case l_l_good => k_is)
    (case cI_l_good => k_is)
    (case kI_l_good => k_is)
    (case a_law => k_is)
    (case l_law => k_is)
    (case cI_law => k_is)
    (case kI_law => k_is)
    (case z_dict => k_is)
    (case z_int => k_is)
    (case z_len => k_is)
    (case z_list => k_is)
    (case z_range => k_is)
    (case z_reversed => k_is)
    (case z_sorted => k_is)
    (case z_tuple => k_is)
    (case z_type => k_is)
    (case y_MOST => k_is)
    (case xg_NoCount => k_is)
    (case xx_NoCount => k_exc)
    (case xk_NoCount => k_is)
    (case xb_NoCount => k_is)
    (case xt_NoCount => k_is)
    (case xg_NoQuay => k_is)
    (case xx_NoQuay => k_exc)
    (case xk_NoQuay => k_is)
    (case xb_NoQuay => k_is)
    (case xt_NoQuay => k_is)
    (case xg_NoWishes => k_is)
    (case xx_NoWishes => k_exc)
    (case xk_NoWishes => k_is)
    (case xb_NoWishes => k_is)
    (case xt_NoWishes => k_is)
