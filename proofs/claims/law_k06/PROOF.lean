import PyProof.Rows.All
import Wide.All
import OpenK.AllK
import Wide.FinOn
import HandS.ForMost
import HandS.ForExc
import HandS.More
import HandS.Walk
import HandS.SortInts
import HandS.SetFor
import HandS.Style
import HandS.RevRange
import HandS.TupAny
import HandS.TupMul
import HandS.IsInst
import HandS.Conv
import HandS.ExcIs
import HandS.ExcCtx
import HandS.SortKw
import HandS.Remove
import HandS.TupLe
import HandS.Zip
import HandS.Small
import KE.DatumOrd
import KE.DatumMore
import KE.KSortedM
import KE.KStateDown
import KE.KDictPairs
import PySem.Challenge.RW_berthrow_k06_how_many
set_option Elab.async false
set_option linter.all false
set_option maxRecDepth 100000
set_option maxHeartbeats 4000000
namespace Br
open PySem PySem.Spec PyProof.Rows L2
/-! ### addresses of what the top has made, by name -/
structure Ad where
  f_is_number : Addr := 0
  f_is_from_to : Addr := 0
  f_is_row : Addr := 0
  f_check_quay : Addr := 0
  f_check_wishes : Addr := 0
  f_first_free : Addr := 0
  f_placed : Addr := 0
  f_taken : Addr := 0
  f_gone_on : Addr := 0
  f_is_good : Addr := 0
  f_crowded : Addr := 0
  f_placed_round : Addr := 0
  f_left_over : Addr := 0
  f_turned : Addr := 0
  f_turning : Addr := 0
  f_how_many : Addr := 0
  f_first_row : Addr := 0
  f_last_row : Addr := 0
  f_next_row : Addr := 0
  f_p_check_ships : Addr := 0
  f_l_cell_at : Addr := 0
  f_l_mix : Addr := 0
  f_l_quay : Addr := 0
  f_l_wishes : Addr := 0
  f_l_placed : Addr := 0
  f_l_whole : Addr := 0
  f_l_good : Addr := 0
  f_l_crowded : Addr := 0
  f_l_order : Addr := 0
  f_l_round : Addr := 0
  f_l_refused : Addr := 0
  f_l_due : Addr := 0
  f_l_caught : Addr := 0
  f_l_lowered : Addr := 0
  f_first_free_round : Addr := 0
  f_check_full_row : Addr := 0
  f_tree_of : Addr := 0
  f_wishes_of : Addr := 0
  f_p_check_knots : Addr := 0
  f_lies : Addr := 0
  f_reaches : Addr := 0
  f_rows_to : Addr := 0
  f_p_check_order : Addr := 0
  f_is_name : Addr := 0
  f_written : Addr := 0
  f_read : Addr := 0
  f_p_parts : Addr := 0
  f_p_pair : Addr := 0
  f_p_number : Addr := 0
  f_p_check_name : Addr := 0
  f_l_asked : Addr := 0
  f_l_word : Addr := 0
  f_l_told : Addr := 0
  f_l_odd : Addr := 0
  f_l_no_quay : Addr := 0
  f_l_full : Addr := 0
  f_l_tree : Addr := 0
  f_l_drawn : Addr := 0
  f_l_hangs : Addr := 0
  f_l_right : Addr := 0
  f_l_lying : Addr := 0
  f_l_words : Addr := 0
  f_l_done : Addr := 0
  f_l_stands : Addr := 0
  f_l_nearer : Addr := 0
  f_l_read : Addr := 0
  f_l_text : Addr := 0
  f_l_odd_text : Addr := 0
  f_law : Addr := 0
  e_BerthError : Addr := 0
  e_NoQuay : Addr := 0
  e_NoWishes : Addr := 0
  e_TooMany : Addr := 0
  e_NoCount : Addr := 0
  e_NoTree : Addr := 0
  e_NoOrder : Addr := 0
  e_NoName : Addr := 0
  e_Taken : Addr := 0
  e_NoWish : Addr := 0
  e_NoRoom : Addr := 0
  e_NoShip : Addr := 0
  e_NoText : Addr := 0
/-- a def as it stands behind the top -/
structure DF (K : PySem.W.Frag) (mg : Str → Option Value) (x : Str) (st : Stmt) (ps : List Str) (f : Addr) : Prop where
  ex : ∃ fd, Fun K x x st f fd ∧ Binds K fd ps []
  g : mg x = some (.ref f)
/-- a def that keeps its promise, ready to be called by its name -/
structure Cb (P : Program) (w : World) (K : PySem.W.Frag) (mg : Str → Option Value) (base : Heap) (CX : CXT) (k : Nat) (x : Str) (f : Addr) (ps : List Str) (sp : Sp) : Prop where
  ex : ∃ fd, FnOk P w K mg base CX k f fd ps sp ∧ Binds K fd ps []
  g : mg x = some (.ref f)
  kp : PySem.W.keepIn K (.ref f) = true
/-- an own exception's class -/
structure ExF (K : PySem.W.Frag) (mg : Str → Option Value) (x : Str) (c : Addr) : Prop where
  g : mg x = some (.ref c)
  x : PySem.W.excIn K c [.type "ValueError", .type "Exception", .type "BaseException", .type "object"] "ValueError.__new__" = true
  k : PySem.W.keepIn K (.ref c) = true
  b : PySem.W.subIn K (.ref c) (.type "BaseException") = some true
  t : PySem.W.typeIn K (.ref c) = some (.type "type")
theorem df_mk {K : PySem.W.Frag} {mg : Str → Option Value} {x : Str} {st : Stmt} {ps : List Str} {f : Addr} {fd : FuncData} (F : Fun K x x st f fd)
    (h : ∀ (kV doc pm : Value) (an : Option Addr) (cdv ct : Value) (us : List Value), us.length = ps.length → bindArgs (PySem.W.fnOf x x (defArgs st) (defBody st) (defScope st) .none kV doc pm an cdv ct) ⟨us, []⟩ = pure (ps.zip us)) (g : mg x = some (.ref f)) : DF K mg x st ps f :=
  ⟨⟨fd, F, F.binds h⟩, g⟩
/-! ### readings by short names -/
def rAddI : R2 := rI0 fun i j => .int (i + j)
def rSubI : R2 := rI0 fun i j => .int (i - j)
def rMulI : R2 := rI CMul fun i j => .int (i * j)
def rModI : R2 := rI (fun _ j => 0 < j) fun i j => .int (i % j)
def rDivI : R2 := rI CDiv fun i j => .int (i / j)
def rPowI : R2 := rI CPow fun i j => .int (i ^ j.toNat)
def rLtI : R2 := rI0 fun i j => .bl (decide (i < j))
def rLeI : R2 := rI0 fun i j => .bl (decide (i ≤ j))
def rGtI : R2 := rI0 fun i j => .bl (decide (j < i))
def rGeI : R2 := rI0 fun i j => .bl (decide (j ≤ i))
def rIsTyB : R2 := fun x y H Q => ∃ a b, x = .ty a ∧ y = .ty b ∧ Q (.bl (decide (a = b))) H
def rIsB1 : R2 := fun x y H Q => ∃ a b, x = .bl a ∧ y = .bl b ∧ Q (.bl (decide (a = b))) H
def rLenSq (K : PySem.W.Frag) : List V → Hp → VK → Prop := fun xs H Q => ∃ p ys, xs = [.ref p] ∧ (SqL K H p ys ∨ SqT K H p ys) ∧ Q (.int ys.length) H
def rMin2 : List V → Hp → VK → Prop := fun xs H Q => ∃ i j, xs = [.int i, .int j] ∧ Q (.int (if j < i then j else i)) H
def rMax2 : List V → Hp → VK → Prop := fun xs H Q => ∃ i j, xs = [.int i, .int j] ∧ Q (.int (if j > i then j else i)) H
def rInt1 : List V → Hp → VK → Prop := fun xs H Q => (∃ i, xs = [.int i] ∧ Q (.int i) H) ∨ ∃ k, xs = [.bl k] ∧ Q (.int (if k then 1 else 0)) H
def rListOf (K : PySem.W.Frag) : List V → Hp → VK → Prop := fun xs H Q => ∃ p ys, xs = [.ref p] ∧ (SqL K H p ys ∨ SqT K H p ys) ∧ ∀ l, H l = none → Q (.ref l) (upd H l (.lst ys))
def rTupleOf (K : PySem.W.Frag) : List V → Hp → VK → Prop := fun xs H Q => ∃ p ys, xs = [.ref p] ∧ ((SqL K H p ys ∧ ∀ l, H l = none → Q (.ref l) (upd H l (.tup ys))) ∨ (SqT K H p ys ∧ Q (.ref p) H))
def ipAdd : TIp := ipI fun i j => i + j
def ipSub : TIp := ipI fun i j => i - j
def tTru (K : PySem.W.Frag) (te : TE) : TT := fun σ H Q => te σ H fun x H' => ∃ k, TruV K x H' k ∧ Q k H'
def tRaise (c : Addr) (E : XK) : TS := fun _ _ H => E (.ref c) none H
def iSeq (K : PySem.W.Frag) (tl : TE) : TI := fun σ H R => iList K tl σ H R ∨ iTup K tl σ H R
def SqA (K : PySem.W.Frag) (H : Hp) (a : Addr) (xs : List V) : Prop := SqL K H a xs ∨ SqT K H a xs
theorem item_of0 {ns : List Int} {i : Nat} {y : V} (hi : (ns.map V.int)[i]? = some y) : ∃ z, ns[i]? = some z ∧ y = V.int z := by
  rw [List.getElem?_map] at hi
  cases e : ns[i]? with
  | none => rw [e] at hi; cases hi
  | some z => rw [e] at hi; exact ⟨z, rfl, (Option.some.inj hi).symm⟩
/-! ### rules -/
section
variable {X : Cx}
theorem pe_gl {x : Str} {v : V} {pos : Pos} (hg : Gl X x) (h : ∃ u, X.mg x = some u ∧ RelV v u) (hd : (x == ("__debug__" : Str)) = false := by decide) : PE X (.Name x pos) (tC v) := by
  obtain ⟨u, hm, r⟩ := h
  exact pe_glob hg hm r hd
theorem pe_cb {CX : CXT} {k : Nat} {f : Addr} {ps : List Str} {sp : Sp} {E : XK} {x : Str} {p pos : Pos} {e : Expr} {es : List Expr} {t : TA} (G : Cb X.prog X.w X.K X.mg X.base CX k x f ps sp) (hr : Room k X.A) (hg : Gl X x) (hx : Passes CX X E) (ha : PA X (e :: es) t)
    (hdb : (x == ("__debug__" : Str)) = false := by decide) (he : starEach (e :: es) X.env = (false, eval e X.env) :: starEach es X.env := by rfl) (hpl : (backTo pos (starEach es X.env)).any (·.1) = false := by rfl) :
    PE X (.Call (.Name x p) (e :: es) [] pos) (tCall sp [] E t) := by
  obtain ⟨⟨fd, F, b⟩, g, kp⟩ := G
  exact pe_call F hr hg g kp b .nil hx ha hdb he hpl
theorem pe_cbS {CX : CXT} {k : Nat} {f : Addr} {ps : List Str} {sp : Sp} {E : L2.St → XK} {x : Str} {p pos : Pos} {e : Expr} {es : List Expr} {t : TA} (G : Cb X.prog X.w X.K X.mg X.base CX k x f ps sp) (hr : Room k X.A) (hg : Gl X x) (hx : ∀ σ, PassesAt CX X σ (E σ)) (ha : PA X (e :: es) t)
    (hdb : (x == ("__debug__" : Str)) = false := by decide) (he : starEach (e :: es) X.env = (false, eval e X.env) :: starEach es X.env := by rfl) (hpl : (backTo pos (starEach es X.env)).any (·.1) = false := by rfl) :
    PE X (.Call (.Name x p) (e :: es) [] pos) (tCallS sp E t) := by
  obtain ⟨⟨fd, F, b⟩, g, kp⟩ := G
  exact pe_callS F hr hg g kp b hx ha hdb he hpl
theorem pi_seq {tg l : Expr} {tl : TE} (hl : PE X l tl) : PI X tg l (iSeq X.K tl) :=
  ⟨fun pins s σ H R I h => h.elim (fun h => (pi_list hl).run pins s σ H R I h) (fun h => (pi_tup hl).run pins s σ H R I h)⟩
/-- xs[i], by values: for xs[i] += e -/
theorem gt_list : PGet X (rIxL X.K) := by
  intro pins s σ H x y v u Q I rx ry h
  obtain ⟨p, xs, i, z, rfl, rfl, hq, he, q⟩ := h
  cases rx
  obtain ⟨t, rfl⟩ := ry
  obtain ⟨its, r, pl, hz⟩ := I.list hq
  obtain ⟨j, h1, h2, h3, h4, h5⟩ := atI_get he
  obtain ⟨w, ew, rw'⟩ := r.get h2
  have hl := r.length
  have hn := line63
  have fin : EP X pins σ Q w s := ⟨z, H, I, rw', q⟩
  by_cases h0 : 0 ≤ i
  · have hj : i.toNat = j := by
      rw [seqIndex_of h0 h5] at h1
      exact Option.some.inj h1
    exact wpAny_getItem_list pl.isList h0 (by omega) (by rw [hj]; simpa using ew) fin
  · have hj : (i + (its.toArray.size : Int)).toNat = j := by
      rw [seqIndex_neg (by omega) h4] at h1
      rw [List.size_toArray, ← hl]
      exact Option.some.inj h1
    exact wpAny_getItem_list_neg pl.isList (by omega) (by rw [List.size_toArray] <;> omega) (by omega) (by rw [hj]; simpa using ew) fin
/-! ### min(xs, default=d), xs a list of whole numbers -/
theorem minOf_int : ∀ (ys : List Int) (y : Int), PySem.W.minOf y ys ∈ y :: ys ∧ ∀ z ∈ y :: ys, PySem.W.minOf y ys ≤ z
  | [], y => ⟨List.mem_singleton.mpr rfl, fun z hz => by rw [List.mem_singleton.mp hz]; exact Int.le_refl _⟩
  | x :: r, y => by
    have e : PySem.W.minOf y (x :: r) = PySem.W.minOf (if x < y then x else y) r := by
      show PySem.W.minOf (if (decide (x < y)) = true then x else y) r = _
      by_cases h : x < y <;> simp [h]
    obtain ⟨h1, h2⟩ := minOf_int r (if x < y then x else y)
    rw [e]
    refine ⟨?_, fun z hz => ?_⟩
    · rcases List.mem_cons.mp h1 with k | k
      · rw [k]
        by_cases h : x < y <;> simp [h]
      · simp [k]
    · have hc := h2 _ (List.mem_cons_self)
      rcases List.mem_cons.mp hz with k | k
      · subst k
        by_cases h : x < z
        · rw [if_pos h] at hc ⊢
          omega
        · rw [if_neg h] at hc ⊢
          exact hc
      · rcases List.mem_cons.mp k with k | k
        · subst k
          by_cases h : z < y
          · rw [if_pos h] at hc ⊢
            exact hc
          · rw [if_neg h] at hc ⊢
            omega
        · exact h2 z (List.mem_cons_of_mem _ k)
def rMinD (K : PySem.W.Frag) : List V → List V → Hp → VK → Prop := fun vs zs H Q => ∃ (p : Addr) (d : V) (ns : List Int), vs = [.ref p] ∧ zs = [d] ∧ SqL K H p (ns.map V.int) ∧
  (ns = [] → Q d H) ∧ ∀ m, m ∈ ns → (∀ y ∈ ns, m ≤ y) → Q (.int m) H
def tMinD (K : PySem.W.Frag) (ta td : TE) : TE := tCKw (rMinD K) (tCons ta tNil) (tCons td tNil)
theorem dp_ints {K : PySem.W.Frag} {H : Hp} : ∀ ns : List Int, DpAll K H (ns.map V.int) (ns.map PyData.int)
  | [] => .nil
  | n :: r => .cons (.int n) (dp_ints r)
theorem cr_minD (hc : X.calm = true) (hu : X.A.units + 64 < cLine) : CallRK X (.builtin "min") [Str.ofString "default"] (rMinD X.K) := by
  intro pins s σ H vs zs us ws Q I r rz h
  obtain ⟨p, d, ns, rfl, rfl, hs, q0, q1⟩ := h
  obtain ⟨w, rfl, rw'⟩ := vals1 rz
  obtain ⟨its, rv, hl, _⟩ := I.list hs
  rw [Vals.ref1 r]
  obtain ⟨as, ra⟩ := Dp.readsAll I (ns.map PyData.int) _ its (dp_ints ns) rv
  have HA : PySem.W.HoldAll s.heap its.toArray.toList ns := ⟨as, ra⟩
  refine PySem.W.min_list_datum_default (I.ok.hd hc) hl.isList HA (by show X.A.units + 1 + PySem.W.Datum.depth Int < cLine; have e : PySem.W.Datum.depth Int = 0 := rfl; rw [e]; omega) (fun e h' tk hk => ⟨d, H, I.kept hk, rw', q0 e⟩) fun y ys i v h' tk e hi hv hk => ?_
  subst e
  obtain ⟨as2, r2⟩ := hv
  have hi' : its[i]? = some v := by simpa using hi
  have hlen := rv.length
  have hlt : i < ((y :: ys).map V.int).length := by rw [hlen]; exact (List.getElem?_eq_some_iff.mp hi').1
  obtain ⟨u, hu1, hu2⟩ := rv.get (List.getElem?_eq_getElem hlt)
  rw [hi'] at hu1
  cases hu1
  obtain ⟨z, hz, ez⟩ := item_of0 (List.getElem?_eq_getElem hlt)
  rw [ez] at hu2
  obtain ⟨t, rfl⟩ := hu2
  have em : PySem.W.minOf y ys = z := by
    have r2' : Reads h' (.int z t) (.int (PySem.W.minOf y ys)) as2 := r2
    cases r2'
    rfl
  obtain ⟨m1, m2⟩ := minOf_int ys y
  rw [em] at m1 m2
  exact ⟨.int z, H, I.kept hk, ⟨_, rfl⟩, q1 z m1 m2⟩
theorem pe_minD {p pos kpos : Pos} {e d : Expr} {ta td : TE} (hc : X.calm = true) (hu : X.A.units + 64 < cLine) (hg : Gl X "min") (hm : X.mg "min" = none) (ha : PE X e ta) (hd : PE X d td)
    (he : backTo pos (starEach (e :: []) X.env) = (false, eval e X.env) :: backTo pos (starEach [] X.env) := by rfl) (hse : starEach (e :: []) X.env = (false, eval e X.env) :: starEach [] X.env := by rfl) (hpl : (backTo pos (starEach (e :: []) X.env)).any (·.1) = false := by rfl)
    (hall : (backToKw pos (keywordEach [⟨some (Str.ofString "default"), d, kpos⟩] X.env)).all (·.1.isSome) = true := by rfl) (hnone : (backToKw pos (keywordEach [⟨some (Str.ofString "default"), d, kpos⟩] X.env)).any (·.1.isNone) = false := by rfl)
    (hks : (backToKw pos (keywordEach [⟨some (Str.ofString "default"), d, kpos⟩] X.env)).filterMap (·.1) = [Str.ofString "default"] := by rfl) :
    PE X (.Call (.Name "min" p) [e] [⟨some (Str.ofString "default"), d, kpos⟩] pos) (tMinD X.K ta td) :=
  pe_callBK (cr_minD hc hu) hg hm (by decide +kernel) (pa_cons ha pa_nil hse) (pk_cons hd pk_nil) (by decide) (by decide) he hpl hall hnone hks
end
/-! ### == and != of data -/
def rEqT (K : PySem.W.Frag) : R2 := fun x y H Q => ∃ (α : Type) (_ : DecidableEq α) (_ : PySem.W.Datum α) (a b : α), Dp K H x (PySem.W.Datum.toD a) ∧ Dp K H y (PySem.W.Datum.toD b) ∧ PySem.W.Datum.depth α ≤ 64 ∧ Q (.bl (decide (a = b))) H
def rNeT (K : PySem.W.Frag) : R2 := fun x y H Q => ∃ (α : Type) (_ : DecidableEq α) (_ : PySem.W.Datum α) (a b : α), Dp K H x (PySem.W.Datum.toD a) ∧ Dp K H y (PySem.W.Datum.toD b) ∧ PySem.W.Datum.depth α ≤ 64 ∧ Q (.bl (decide (a ≠ b))) H
section
variable {X : Cx}
theorem op_eqT (hu : X.A.units + 64 < cLine) : OpR X (compareOp .Eq) (rEqT X.K) := by
  intro pins s σ H x y v u Q I rx ry h
  obtain ⟨α, d1, d2, a, b, ha, hb, hd, q⟩ := h
  exact PySem.W.eq_datum (Dp.reads I _ x v ha rx) (Dp.reads I _ y u hb ry) (by omega) ⟨.bl _, H, I, rfl, q⟩
theorem op_neT (hu : X.A.units + 64 < cLine) : OpR X (compareOp .NotEq) (rNeT X.K) := by
  intro pins s σ H x y v u Q I rx ry h
  obtain ⟨α, d1, d2, a, b, ha, hb, hd, q⟩ := h
  exact PySem.W.ne_datum (Dp.reads I _ x v ha rx) (Dp.reads I _ y u hb ry) (by omega) ⟨.bl _, H, I, rfl, q⟩
end
theorem eqT_of {K : PySem.W.Frag} {x y : V} {H : Hp} {Q : VK} {α : Type} [DecidableEq α] [PySem.W.Datum α] {a b : α} (ha : Dp K H x (PySem.W.Datum.toD a)) (hb : Dp K H y (PySem.W.Datum.toD b)) (hd : PySem.W.Datum.depth α ≤ 64) (q : Q (.bl (decide (a = b))) H) : rEqT K x y H Q := ⟨α, _, _, a, b, ha, hb, hd, q⟩
theorem neT_of {K : PySem.W.Frag} {x y : V} {H : Hp} {Q : VK} {α : Type} [DecidableEq α] [PySem.W.Datum α] {a b : α} (ha : Dp K H x (PySem.W.Datum.toD a)) (hb : Dp K H y (PySem.W.Datum.toD b)) (hd : PySem.W.Datum.depth α ≤ 64) (q : Q (.bl (decide (a ≠ b))) H) : rNeT K x y H Q := ⟨α, _, _, a, b, ha, hb, hd, q⟩
theorem ho_ints {K : PySem.W.Frag} {H : Hp} {p : Addr} {ns : List Int} (h : SqL K H p (ns.map V.int)) : Dp K H (.ref p) (PySem.W.Datum.toD ns) := .lst h (dp_ints ns)
/-! ### heaps -/
theorem same_new {H : Hp} {p : Addr} {o : HO} (h : H p = none) : Same H (upd H p o) := fun b x e => by
  rw [upd_ne (ne_of_none e h)]
  exact e
/-- what stood ahead of an object's making stands behind a store into it -/
theorem _root_.L2.Same.store {H H' : Hp} {p : Addr} {o : HO} (s : Same H H') (h : H p = none) : Same H (upd H' p o) := fun b x e => by
  rw [upd_ne (ne_of_none e h)]
  exact s b x e
theorem _root_.L2.Same.seqT {K : PySem.W.Frag} {H H' : Hp} {a : Addr} {xs : List V} (e : Same H H') (h : SqT K H a xs) : SqT K H' a xs := by
  rcases h with (h | ⟨o, h⟩) | h
  · exact .inl (.inl (e _ _ h))
  · exact .inl (.inr ⟨o, e _ _ h⟩)
  · exact .inr h
theorem _root_.L2.Same.seqA {K : PySem.W.Frag} {H H' : Hp} {a : Addr} {xs : List V} (e : Same H H') (h : SqA K H a xs) : SqA K H' a xs := h.elim (fun h => .inl (e.seq h)) (fun h => .inr (e.seqT h))
theorem sqL_of {K : PySem.W.Frag} {H : Hp} {a : Addr} {xs : List V} (h : H a = some (.lst xs)) : SqL K H a xs := .inl (.inl h)
theorem sqT_of {K : PySem.W.Frag} {H : Hp} {a : Addr} {xs : List V} (h : H a = some (.tup xs)) : SqT K H a xs := .inl (.inl h)
/-! ### loops and comprehensions in short -/
theorem for_seq {K : PySem.W.Frag} {a : Addr} {xs : List V} {tl : TE} {g : TG} {tb : TS} {D : Ends} {σ : L2.St} {H0 H : Hp} (ht : ∀ Q : VK, Q (.ref a) H → tl σ H Q) (hA : SqA K H0 a xs) (Pv : Nat → L2.St → Hp → Prop) (h0 : Pv 0 σ H) (hl : ∀ i σ H', Pv i σ H' → Same H0 H')
    (hs : ∀ i x σ H, xs[i]? = some x → Pv i σ H → g x σ H fun σ2 H2 => tb { D with nx := Pv (i + 1), ct := Pv (i + 1), bk := D.nx } σ2 H2) (hd : ∀ σ H, Pv xs.length σ H → D.nx σ H) : tFor (iSeq K tl) g tb D σ H := by
  rcases hA with h | h
  · exact .inl (ht _ ⟨a, rfl, ⟨_, (hl _ _ _ h0).seq h⟩, for_list (K := K) (a := a) Pv h0 (fun i σ H' _ p => (hl i σ H' p).seq h) hs hd⟩)
  · exact .inr (ht _ ⟨a, rfl, ⟨_, (hl _ _ _ h0).seqT h⟩, for_tup (K := K) (a := a) Pv h0 (fun i σ H' _ p => (hl i σ H' p).seqT h) hs hd⟩)
theorem take_more {α : Type} : ∀ {l : List α} {i : Nat} {x : α}, l[i]? = some x → l.take (i + 1) = l.take i ++ [x] := fun {l i x} h => by
  rw [List.take_add_one, h]
  rfl
theorem item_of {ns : List Int} {i : Nat} {y : V} (hi : (ns.map V.int)[i]? = some y) : ∃ z, ns[i]? = some z ∧ y = V.int z := by
  rw [List.getElem?_map] at hi
  cases e : ns[i]? with
  | none => rw [e] at hi; cases hi
  | some z => rw [e] at hi; exact ⟨z, rfl, (Option.some.inj hi).symm⟩
/-- a comprehension over anything that gives n values it 0, it 1 .. and leaves what is tracked; p the test, f the element -/
theorem lc_pure {J : It} {n : Nat} {G : Hp → Prop} {tt : TT} {te : TE} {g : TG} {vs : List Nat} {σ : L2.St} {H1 : Hp} {Qd : Addr → Hp → Prop} {Y : Nat → Hp → V → Hp → Prop} {α : Type} (w : Walk J n G Y) (hn : n < sizeLine) (xs : List α) (hx : xs.length = n) (p : α → Bool) (f : α → V) (hG : ∀ H', Same H1 H' → G H')
    (hs : ∀ i (x : α) (v : V) (H H' : Hp) (R : Bool → V → Hp → Prop), xs[i]? = some x → Same H1 H → Y i H v H' → (∀ y H'', Same H H'' → (p x = true → y = f x) → R (p x) y H'') →
      g v (wipe σ vs) H' fun σ2 H2 => wipe σ2 vs = wipe σ vs ∧ tt σ2 H2 fun b H3 => if b = true then te σ2 H3 fun y H4 => R true y H4 else R false .non H3)
    (hQ : ∀ D H', H1 D = none → Same H1 H' → H' D = some (.lst ((xs.filter p).map f)) → Qd D H') :
    ∀ D, H1 D = none → ∃ W : Nat → Nat → Hp → Prop, (∃ m, W 0 m (upd H1 D (.lst []))) ∧ ∀ i m H, W i m H →
      (J.stop i H ∧ Qd D H) ∨ (J.go i H ∧ ∃ Nx : Hp → Prop, (∀ H', Nx H' → ∃ m', m' < m ∧ W (i + 1) m' H') ∧ ∀ x H', J.yld i H x H' → g x (wipe σ vs) H' fun σ2 H2 => wipe σ2 vs = wipe σ vs ∧ tt σ2 H2 fun b H3 =>
        if b = true then te σ2 H3 fun y H4 => ∃ acc, H4 D = some (.lst acc) ∧ acc.length < sizeLine ∧ Nx (upd H4 D (.lst (acc ++ [y]))) else Nx H3) := by
  intro D hD
  refine lc_it w (fun i H => Same H1 H ∧ H D = some (.lst (((xs.take i).filter p).map f))) ⟨same_new hD, upd_same⟩ (fun i H _ h => hG H h.1) ?_ ?_
  · intro i v H H' hi ⟨s, e⟩ y
    have hi' : i < xs.length := by omega
    have hx' : xs[i]? = some xs[i] := List.getElem?_eq_getElem hi'
    have fin := hs i xs[i] v H H' (fun b y H4 => if b = true then ∃ acc, H4 D = some (.lst acc) ∧ acc.length < sizeLine ∧ (Same H1 (upd H4 D (.lst (acc ++ [y]))) ∧ (upd H4 D (.lst (acc ++ [y]))) D = some (.lst (((xs.take (i + 1)).filter p).map f))) else Same H1 H4 ∧ H4 D = some (.lst (((xs.take (i + 1)).filter p).map f))) hx' s y ?_
    · exact fin
    · intro y H4 s4 hy
      have e4 := s4 _ _ e
      rw [take_more hx', List.filter_append, List.map_append]
      cases hp : p xs[i] with
      | true =>
        rw [if_pos rfl]
        refine ⟨_, e4, ?_, (s.trans s4).store hD, ?_⟩
        · rw [List.length_map]
          refine Nat.lt_of_le_of_lt (List.length_filter_le _ _) (Nat.lt_of_le_of_lt (List.length_take_le _ _) ?_)
          omega
        · rw [upd_same, hy hp]
          simp [List.filter, hp]
      | false =>
        rw [if_neg Bool.false_ne_true]
        refine ⟨s.trans s4, ?_⟩
        rw [e4]
        simp [List.filter, hp]
  · intro H ⟨s, e⟩
    rw [← hx, List.take_length] at e
    exact hQ D H hD s e

/-! ### what is a number, a quay, wishes -/
def isInt : V → Bool
  | .int _ => true
  | _ => false
def inB (lo hi : Int) : V → Bool
  | .int i => decide (lo ≤ i) && decide (i ≤ hi)
  | _ => false
def goodW (n : Nat) (xs : List V) : Bool := decide (xs.length ≤ 400) && xs.all (inB 1 n)
/-- what a check of a quay and of wishes for it comes to: R behind a good one -/
def ChkQ (K : PySem.W.Frag) (a : Ad) (b : V) (H : Hp) (E : XK) (R : Nat → Prop) : Prop := ∃ T, TyB K H b T ∧ ((inB 1 400 b = false ∧ E (.ref a.e_NoQuay) none H) ∨ ∃ n : Nat, b = .int n ∧ 1 ≤ n ∧ n ≤ 400 ∧ R n)
def ChkW (K : PySem.W.Frag) (a : Ad) (b w : V) (H : Hp) (E : XK) (R : Nat → List Int → Addr → Prop) : Prop := ChkQ K a b H E fun n =>
  (∃ T, TyB K H w T ∧ T ≠ "list" ∧ T ≠ "tuple" ∧ E (.ref a.e_NoWishes) none H) ∨
  ∃ p xs, w = .ref p ∧ SqA K H p xs ∧ (∀ x ∈ xs, ∃ T, TyB K H x T) ∧ ((goodW n xs = false ∧ E (.ref a.e_NoWishes) none H) ∨
    ∃ ws : List Int, xs = ws.map V.int ∧ ws.length ≤ 400 ∧ (∀ x ∈ ws, 1 ≤ x ∧ x ≤ n) ∧ R n ws p)
theorem ChkQ.imp {K : PySem.W.Frag} {a : Ad} {b : V} {H : Hp} {E : XK} {R R' : Nat → Prop} (h : ChkQ K a b H E R) (k : ∀ n : Nat, b = .int n → 1 ≤ n → n ≤ 400 → R n → R' n) : ChkQ K a b H E R' := by
  obtain ⟨T, ty, h | ⟨n, e, h1, h2, r⟩⟩ := h
  · exact ⟨T, ty, .inl h⟩
  · exact ⟨T, ty, .inr ⟨n, e, h1, h2, k n e h1 h2 r⟩⟩
theorem ChkW.imp {K : PySem.W.Frag} {a : Ad} {b w : V} {H : Hp} {E : XK} {R R' : Nat → List Int → Addr → Prop} (h : ChkW K a b w H E R)
    (k : ∀ (n : Nat) (ws : List Int) (p : Addr), b = .int n → w = .ref p → 1 ≤ n → n ≤ 400 → SqA K H p (ws.map V.int) → ws.length ≤ 400 → (∀ x ∈ ws, 1 ≤ x ∧ x ≤ n) → R n ws p → R' n ws p) : ChkW K a b w H E R' := by
  refine ChkQ.imp h fun n e h1 h2 r => ?_
  rcases r with r | ⟨p, xs, ew, hs, ht, r | ⟨ws, ex, hl, hb, r⟩⟩
  · exact .inl r
  · exact .inr ⟨p, xs, ew, hs, ht, .inl r⟩
  · exact .inr ⟨p, xs, ew, hs, ht, .inr ⟨ws, ex, hl, hb, k n ws p e ew h1 h2 (ex ▸ hs) hl hb r⟩⟩
/-- a check that is passed -/
theorem ChkQ.ok {K : PySem.W.Frag} {a : Ad} {H : Hp} {E : XK} {R : Nat → Prop} {n : Nat} (h1 : 1 ≤ n) (h2 : n ≤ 400) (r : R n) : ChkQ K a (.int n) H E R := ⟨_, .int _, .inr ⟨n, rfl, h1, h2, r⟩⟩
theorem ChkW.ok {K : PySem.W.Frag} {a : Ad} {H : Hp} {E : XK} {R : Nat → List Int → Addr → Prop} {n : Nat} {ws : List Int} {p : Addr} (h1 : 1 ≤ n) (h2 : n ≤ 400) (hs : SqA K H p (ws.map V.int)) (hl : ws.length ≤ 400) (hb : ∀ x ∈ ws, 1 ≤ x ∧ x ≤ n) (r : R n ws p) : ChkW K a (.int n) (.ref p) H E R :=
  ChkQ.ok h1 h2 (.inr ⟨p, _, rfl, hs, fun x hx => by
    obtain ⟨i, _, rfl⟩ := List.mem_map.mp hx
    exact ⟨_, .int i⟩, .inr ⟨ws, rfl, hl, hb, r⟩⟩)
theorem goodW_ints {n : Nat} {ws : List Int} : goodW n (ws.map V.int) = true ↔ ws.length ≤ 400 ∧ ∀ x ∈ ws, 1 ≤ x ∧ x ≤ n := by
  unfold goodW
  simp [inB]
theorem inB_int {lo hi : Int} {v : V} (h : inB lo hi v = true) : ∃ i, v = .int i ∧ lo ≤ i ∧ i ≤ hi := by
  cases v with
  | int i =>
    simp only [inB, Bool.and_eq_true, decide_eq_true_eq] at h
    exact ⟨i, rfl, h⟩
  | _ => cases h
theorem goodW_of {n : Nat} {xs : List V} (h : goodW n xs = true) : ∃ ws : List Int, xs = ws.map V.int ∧ ws.length ≤ 400 ∧ ∀ x ∈ ws, 1 ≤ x ∧ x ≤ n := by
  unfold goodW at h
  simp only [Bool.and_eq_true, decide_eq_true_eq, List.all_eq_true] at h
  obtain ⟨h1, h2⟩ := h
  have e : ∃ ws : List Int, xs = ws.map V.int := by
    clear h1
    induction xs with
    | nil => exact ⟨[], rfl⟩
    | cons x r ih =>
      obtain ⟨ws, e⟩ := ih fun y hy => h2 y (List.mem_cons_of_mem _ hy)
      obtain ⟨i, ei, _⟩ := inB_int (h2 x List.mem_cons_self)
      exact ⟨i :: ws, by rw [ei, e]; rfl⟩
  obtain ⟨ws, rfl⟩ := e
  refine ⟨ws, rfl, by simpa using h1, fun x hx => ?_⟩
  obtain ⟨i, ei, h3, h4⟩ := inB_int (h2 (.int x) (List.mem_map_of_mem hx))
  cases ei
  exact ⟨h3, h4⟩
theorem tyb_int {K : PySem.W.Frag} {H : Hp} {x : V} {T : String} (h : TyB K H x T) : decide (T = "int") = isInt x := by
  cases h <;> first | rfl | decide
theorem tyb_ref {K : PySem.W.Frag} {H : Hp} {x : V} {T : String} (h : TyB K H x T) (e : T = "list" ∨ T = "tuple") : ∃ p xs, x = .ref p ∧ SqA K H p xs := by
  cases h with
  | lst h => exact ⟨_, _, rfl, .inl h⟩
  | tup h => exact ⟨_, _, rfl, .inr h⟩
  | non => rcases e with e | e <;> exact absurd e (by decide)
  | bl => rcases e with e | e <;> exact absurd e (by decide)
  | int => rcases e with e | e <;> exact absurd e (by decide)
  | str => rcases e with e | e <;> exact absurd e (by decide)
  | byt => rcases e with e | e <;> exact absurd e (by decide)
  | dK => rcases e with e | e <;> exact absurd e (by decide)
theorem SqA.ty {K : PySem.W.Frag} {H : Hp} {p : Addr} {xs : List V} (h : SqA K H p xs) : ∃ T, TyB K H (.ref p) T ∧ (decide (T = "list") || decide (T = "tuple")) = true := by
  rcases h with h | h
  · exact ⟨_, .lst h, by decide⟩
  · exact ⟨_, .tup h, by decide⟩
/-! is_number, is_from_to, is_row -/
def sp_is_number (K : PySem.W.Frag) (a : Ad) : Sp := fun vs H Q _ => ∃ x T, vs = [x] ∧ TyB K H x T ∧ Q (.bl (isInt x)) H
abbrev N_is_number : List Str := ["thing"]
def t_is_number (K : PySem.W.Frag) (a : Ad) : TS :=
  (tRet (tOp rIsTyB (tCB (rTyp K) (tCons (tVar 0) tNil)) (tC (.ty "int"))))
theorem len_is_number {K : PySem.W.Frag} {a : Ad} {vs : List V} {H : Hp} {Q : VK} {E : XK} (h : sp_is_number K a vs H Q E) : vs.length = 1 := by
  obtain ⟨x, T, rfl, _⟩ := h
  rfl
theorem pu_is_number {K : PySem.W.Frag} {a : Ad} {vs : List V} {H : Hp} {Q : VK} {E : XK} (h : sp_is_number K a vs H Q E) : t_is_number K a { nx := fun _ H' => Q .non H', rt := Q } (start N_is_number vs) H := by
  obtain ⟨x, T, rfl, ty, q⟩ := h
  refine ⟨x, rfl, x, T, rfl, ty, _, _, rfl, rfl, ?_⟩
  rw [tyb_int ty]
  exact q
def sp_is_from_to (K : PySem.W.Frag) (a : Ad) : Sp := fun vs H Q _ => ∃ lo hi x T, vs = [.int lo, .int hi, x] ∧ TyB K H x T ∧ Q (.bl (inB lo hi x)) H
abbrev N_is_from_to : List Str := ["low", "high", "thing"]
def t_is_from_to (K : PySem.W.Frag) (a : Ad) : TS :=
  (tRet (tAndV (tCall (sp_is_number K a) [] E0 (tCons (tVar 2) tNil)) (tChain rLeI rLeI (tVar 0) (tVar 2) (tVar 1))))
theorem len_is_from_to {K : PySem.W.Frag} {a : Ad} {vs : List V} {H : Hp} {Q : VK} {E : XK} (h : sp_is_from_to K a vs H Q E) : vs.length = 3 := by
  obtain ⟨lo, hi, x, T, rfl, _⟩ := h
  rfl
theorem pu_is_from_to {K : PySem.W.Frag} {a : Ad} {vs : List V} {H : Hp} {Q : VK} {E : XK} (h : sp_is_from_to K a vs H Q E) : t_is_from_to K a { nx := fun _ H' => Q .non H', rt := Q } (start N_is_from_to vs) H := by
  obtain ⟨lo, hi, x, T, rfl, ty, q⟩ := h
  refine ⟨x, rfl, x, T, rfl, ty, isInt x, rfl, ?_⟩
  cases x with
  | int i =>
    refine iteT ⟨_, rfl, _, rfl, lo, i, rfl, rfl, _, rfl, ?_⟩
    by_cases h1 : lo ≤ i
    · rw [decide_eq_true h1]
      refine iteT ⟨_, rfl, i, hi, rfl, rfl, ?_⟩
      have e : inB lo hi (.int i) = decide (i ≤ hi) := by simp [inB, h1]
      rw [e] at q
      exact q
    · rw [decide_eq_false h1]
      have e : inB lo hi (.int i) = false := by simp [inB, h1]
      rw [e] at q
      exact iteF q
  | _ => exact iteF q
/-! check_quay, check_wishes -/
def sp_check_quay (K : PySem.W.Frag) (a : Ad) : Sp := fun vs H Q E => ∃ b, vs = [b] ∧ ChkQ K a b H E fun _ => Q .non H
abbrev N_check_quay : List Str := ["berths"]
def t_check_quay (K : PySem.W.Frag) (a : Ad) (E : XK) : TS :=
  (tIfS (tNot (tB (tCall (sp_is_from_to K a) [] E0 (tCons (tC (.int 1)) (tCons (tC (.int 400)) (tCons (tVar 0) tNil)))))) (tRaise a.e_NoQuay E) tNext)
theorem len_check_quay {K : PySem.W.Frag} {a : Ad} {vs : List V} {H : Hp} {Q : VK} {E : XK} (h : sp_check_quay K a vs H Q E) : vs.length = 1 := by
  obtain ⟨b, rfl, _⟩ := h
  rfl
theorem pu_check_quay {K : PySem.W.Frag} {a : Ad} {vs : List V} {H : Hp} {Q : VK} {E : XK} (h : sp_check_quay K a vs H Q E) : t_check_quay K a E { nx := fun _ H' => Q .non H', rt := Q } (start N_check_quay vs) H := by
  obtain ⟨b, rfl, T, ty, h⟩ := h
  refine ⟨b, rfl, 1, 400, b, T, rfl, ty, inB 1 400 b, rfl, ?_⟩
  rcases h with ⟨e, q⟩ | ⟨n, rfl, h1, h2, q⟩
  · rw [e]
    exact iteT q
  · have e : inB 1 400 (.int n) = true := by simp [inB]; omega
    rw [e]
    exact iteF q
/-! ### the straight quay: the mathematics of laying -/
/-- the first free one of k berths from w on -/
def ffr (occ : Int → Bool) : Nat → Int → Option Int
  | 0, _ => none
  | k + 1, w => if occ w = true then ffr occ k (w + 1) else some w
def ffree (n : Nat) (occ : Int → Bool) (w : Int) : Option Int := ffr occ ((n : Int) + 1 - w).toNat w
def setO (occ : Int → Bool) (b : Int) : Int → Bool := fun x => decide (x = b) || occ x
def pstep (n : Nat) (s : (Int → Bool) × List (Option Int)) (w : Int) : (Int → Bool) × List (Option Int) :=
  match ffree n s.1 w with
  | none => (s.1, s.2 ++ [none])
  | some b => (setO s.1 b, s.2 ++ [some b])
def prun (n : Nat) (ws : List Int) : (Int → Bool) × List (Option Int) := ws.foldl (pstep n) (fun _ => false, [])
def placedL (n : Nat) (ws : List Int) : List (Option Int) := (prun n ws).2
def vO : Option Int → V
  | none => .non
  | some b => .int b
def heldL (n : Nat) (occ : Int → Bool) : List V := (List.range (n + 1)).map fun (i : Nat) => V.bl (occ (i : Int))
theorem ffr_spec {occ : Int → Bool} : ∀ (k : Nat) (w : Int), (∀ b, ffr occ k w = some b → w ≤ b ∧ b < w + k ∧ occ b = false ∧ ∀ x, w ≤ x → x < b → occ x = true) ∧ (ffr occ k w = none → ∀ x, w ≤ x → x < w + k → occ x = true)
  | 0, w => ⟨fun b h => (by cases h), fun _ x h1 h2 => by omega⟩
  | k + 1, w => by
    obtain ⟨i1, i2⟩ := ffr_spec (occ := occ) k (w + 1)
    unfold ffr
    cases e : occ w with
    | true =>
      rw [if_pos rfl]
      refine ⟨fun b h => ?_, fun h x h1 h2 => ?_⟩
      · obtain ⟨j1, j2, j3, j4⟩ := i1 b h
        refine ⟨by omega, by omega, j3, fun x h1 h2 => ?_⟩
        by_cases z : x = w
        · rw [z]; exact e
        · exact j4 x (by omega) h2
      · by_cases z : x = w
        · rw [z]; exact e
        · exact i2 h x (by omega) (by omega)
    | false =>
      rw [if_neg Bool.false_ne_true]
      refine ⟨fun b h => ?_, fun h => (by cases h)⟩
      cases h
      exact ⟨Int.le_refl _, by omega, e, fun x h1 h2 => by omega⟩
theorem ffree_some {n : Nat} {occ : Int → Bool} {w b : Int} (h : ffree n occ w = some b) : w ≤ b ∧ b ≤ n ∧ occ b = false ∧ ∀ x, w ≤ x → x < b → occ x = true := by
  obtain ⟨h1, h2, h3, h4⟩ := (ffr_spec _ _).1 b h
  exact ⟨h1, by omega, h3, h4⟩
theorem ffree_none {n : Nat} {occ : Int → Bool} {w : Int} (h : ffree n occ w = none) : ∀ x, w ≤ x → x ≤ n → occ x = true := fun x h1 h2 => (ffr_spec _ _).2 h x h1 (by omega)
theorem prun_more {n : Nat} {ws : List Int} {i : Nat} {w : Int} (h : ws[i]? = some w) : prun n (ws.take (i + 1)) = pstep n (prun n (ws.take i)) w := by
  unfold prun
  rw [take_more h, List.foldl_append]
  rfl
theorem prun_snoc {n : Nat} {ws : List Int} {w : Int} : prun n (ws ++ [w]) = pstep n (prun n ws) w := by
  unfold prun
  rw [List.foldl_append]
  rfl
theorem pstep_len {n : Nat} {s : (Int → Bool) × List (Option Int)} {w : Int} : (pstep n s w).2.length = s.2.length + 1 := by
  unfold pstep
  cases ffree n s.1 w <;> simp
theorem snoc_ind {α : Type} {p : List α → Prop} (h0 : p []) (h1 : ∀ l x, p l → p (l ++ [x])) : ∀ l, p l := fun l => by
  have : ∀ n, ∀ l : List α, l.length = n → p l := by
    intro n
    induction n with
    | zero => intro l h; rw [List.length_eq_zero_iff.mp h]; exact h0
    | succ n ih =>
      intro l h
      have hne : l ≠ [] := fun z => by rw [z] at h; cases h
      rw [← List.dropLast_concat_getLast hne]
      exact h1 _ _ (ih _ (by rw [List.length_dropLast, h]; rfl))
  exact this _ l rfl
theorem prun_len {n : Nat} : ∀ ws : List Int, (prun n ws).2.length = ws.length := snoc_ind rfl fun ws w ih => by
  rw [prun_snoc, pstep_len, ih]
  simp
theorem placedL_len {n : Nat} {ws : List Int} : (placedL n ws).length = ws.length := prun_len ws
theorem heldL_at {n : Nat} {occ : Int → Bool} {i : Nat} (h : i ≤ n) : (heldL n occ)[i]? = some (.bl (occ (i : Int))) := by
  unfold heldL
  rw [List.getElem?_map, List.getElem?_range (by omega)]
  rfl
theorem heldL_len {n : Nat} {occ : Int → Bool} : (heldL n occ).length = n + 1 := by simp [heldL]
theorem heldL_set {n : Nat} {occ : Int → Bool} {b : Int} (h0 : 0 ≤ b) (h : b ≤ n) : (heldL n occ).set b.toNat (.bl true) = heldL n (setO occ b) := by
  apply List.ext_getElem?
  intro i
  by_cases hi : i ≤ n
  · rw [heldL_at hi]
    by_cases e : i = b.toNat
    · subst e
      rw [List.getElem?_set_self (by rw [heldL_len]; omega)]
      have : ((b.toNat : Nat) : Int) = b := by omega
      simp [setO, this]
    · rw [List.getElem?_set_ne (Ne.symm e), heldL_at hi]
      have : ¬ ((i : Nat) : Int) = b := by omega
      simp [setO, this]
  · rw [List.getElem?_eq_none (show ((heldL n occ).set b.toNat (V.bl true)).length ≤ i by rw [List.length_set, heldL_len]; omega), List.getElem?_eq_none (show (heldL n (setO occ b)).length ≤ i by rw [heldL_len]; omega)]
theorem heldL_new {n : Nat} : (List.replicate (n + 1) [V.bl false]).flatten = heldL n (fun _ => false) := by
  apply List.ext_getElem?
  intro i
  have e : (List.replicate (n + 1) [V.bl false]).flatten = List.replicate (n + 1) (V.bl false) := by
    generalize n + 1 = m
    induction m with
    | zero => rfl
    | succ m ih => rw [List.replicate_succ, List.replicate_succ, List.flatten_cons, ih]; rfl
  rw [e]
  by_cases hi : i ≤ n
  · rw [heldL_at hi, List.getElem?_replicate_of_lt (by omega)]
  · rw [List.getElem?_eq_none (show (List.replicate (n + 1) (V.bl false)).length ≤ i by rw [List.length_replicate]; omega), List.getElem?_eq_none (show (heldL n fun _ => false).length ≤ i by rw [heldL_len]; omega)]
theorem l1000 {n : Nat} (h : n ≤ 1000) : n ≤ sizeLine := Nat.le_of_lt (small1000 h)
/-! ### first_free -/
/-! ### placed -/
/-! ### taken, gone_on -/
def somes (l : List (Option Int)) : List Int := l.filterMap id
def sortI (l : List Int) : List Int := l.mergeSort fun x y => decide (x ≤ y)
theorem sortI_perm (l : List Int) : (sortI l).Perm l := List.mergeSort_perm l _
theorem sortI_sorted (l : List Int) : (sortI l).Pairwise (· ≤ ·) := by
  have h := List.pairwise_mergeSort (le := fun (x y : Int) => decide (x ≤ y)) (fun a b c h1 h2 => by simp only [decide_eq_true_eq] at *; omega) (fun a b => by simp only [Bool.or_eq_true, decide_eq_true_eq]; omega) l
  exact List.Pairwise.imp (fun h => of_decide_eq_true h) h
theorem sortI_uniq {l l' : List Int} (hp : l'.Perm l) (hs : l'.Pairwise (· ≤ ·)) : l' = sortI l := PySem.W.ksm_same (hp.trans (sortI_perm l).symm) hs (sortI_sorted l)
def takenL (n : Nat) (ws : List Int) : List Int := sortI (somes (placedL n ws))
/-- of each ship that lies, how far behind its wish -/
def goneL (ws : List Int) (bs : List (Option Int)) : List Int := (ws.zip bs).filterMap fun p => p.2.map fun b => b - p.1
theorem filter_some : ∀ l : List (Option Int), (l.filter Option.isSome).map vO = (somes l).map V.int
  | [] => rfl
  | none :: l => filter_some l
  | some b :: l => congrArg (V.int b :: ·) (filter_some l)
theorem vO_not (o : Option Int) : (!decide (vO o = .non)) = o.isSome := by
  cases o <;> rfl
theorem zip_gone : ∀ (ws : List Int) (bs : List (Option Int)), ((ws.zip bs).filter fun p => p.2.isSome).map (fun p => V.int ((p.2.getD 0) - p.1)) = (goneL ws bs).map V.int
  | [], _ => by simp [goneL]
  | _ :: _, [] => by simp [goneL]
  | w :: ws, none :: bs => by
    have ih := zip_gone ws bs
    simp only [List.zip_cons_cons, goneL] at ih ⊢
    simpa using ih
  | w :: ws, some b :: bs => by
    have ih := zip_gone ws bs
    simp only [List.zip_cons_cons, goneL] at ih ⊢
    simpa using ih
theorem zip_at {ws : List Int} {bs : List (Option Int)} {i : Nat} {x : Int × Option Int} (h : (ws.zip bs)[i]? = some x) : ws[i]? = some x.1 ∧ bs[i]? = some x.2 := by
  rw [List.getElem?_zip_eq_some] at h
  exact h
/-! ### tuple * k, k of nought and one, too; tuple(range(a, b, -1)), list(range(a, b, -1)) -/
theorem tuple_mulS (l : Addr) (items : Array Value) (n : Nat) (dd : Option Addr) (sl : Array (Option Value)) (u : Tok) :
    Meets (Builtin.«tuple.__mul__» ⟨[.ref l, .int 1 u], []⟩) (fun _ R s => s.heap.get? l = some { cls := .type "tuple", dict := dd, data := .seq items n, slots := sl } ∧ R (.ok (.ret (.ref l))) s) :=
  .of_wp fun prog w A R s h => by
    obtain ⟨hp, g, d, tk, os⟩ := s
    obtain ⟨hl, h⟩ := h
    have f1 := AutoSeq1.idx_int
    wp_walk using wpAny_loadPart' hl
    repeat (first
      | (refine wpAny_ite_false (by decide) ?_; wp_walk using wpAny_loadPart' hl)
      | (refine wpAny_ite_true (by simp) ?_; wp_walk using wpAny_loadPart' hl))
    exact ⟨_, rfl, h⟩
theorem tuple_mulZ (l : Addr) (items : Array Value) (n : Nat) (dd : Option Addr) (sl : Array (Option Value)) (x : Int) (u : Tok) (c0 : (decide (x < -(2 ^ 63)) || decide (x ≥ 2 ^ 63)) = false) (c1 : (items.isEmpty || x == 1) = false) (c2 : (decide (x ≤ 0) || items.isEmpty) = true) :
    Meets (Builtin.«tuple.__mul__» ⟨[.ref l, .int x u], []⟩) (fun _ R s => s.heap.get? l = some { cls := .type "tuple", dict := dd, data := .seq items n, slots := sl } ∧
      R (.ok (.ret (Value.ref s.heap.objs.size))) { s with heap := s.heap.push { cls := Value.type "tuple", data := Data.seq #[] }, toks := s.toks }) :=
  .of_wp fun prog w A R s h => by
    obtain ⟨hp, g, d, tk, os⟩ := s
    obtain ⟨hl, h⟩ := h
    have f1 := AutoSeq1.idx_int
    wp_walk using wpAny_loadPart' hl
    repeat (first
      | (refine wpAny_ite_false (decide_eq_false (by rw [c0]; exact Bool.false_ne_true)) ?_; wp_walk using wpAny_loadPart' hl)
      | (refine wpAny_ite_false (decide_eq_false (by rw [c1]; exact Bool.false_ne_true)) ?_; wp_walk using wpAny_loadPart' hl)
      | (refine wpAny_ite_true (decide_eq_true c2) ?_; wp_walk using wpAny_loadPart' hl))
    exact ⟨_, rfl, h⟩
def rRepTA (K : PySem.W.Frag) : R2 := fun x y H Q => ∃ l k xs, x = .ref l ∧ y = .int k ∧ SqT K H l xs ∧ xs ≠ [] ∧ 0 ≤ k ∧ k ≤ 1000 ∧ xs.length ≤ 1000 ∧ (k = 1 → Q (.ref l) H) ∧ (k ≠ 1 → ∀ p, H p = none → Q (.ref p) (upd H p (.tup (List.replicate k.toNat xs).flatten)))
section
variable {X : Cx}
theorem op_repTA : OpR X (binaryOp .Mult) (rRepTA X.K) := by
  intro pins s σ H x y v u Q I rx ry h
  obtain ⟨l, k, xs, rfl, rfl, hT, hne, h1, h2, hz, q1, q2⟩ := h
  by_cases hk : 2 ≤ k
  · exact op_repT pins s σ H _ _ v u Q I rx ry ⟨l, k, xs, rfl, rfl, hT, hne, hk, h2, hz, q2 (by omega)⟩
  cases rx
  obtain ⟨t, rfl⟩ := ry
  obtain ⟨its, r, ⟨⟨cls, dd, data, sl⟩, ho, hc, n, hd⟩, hs⟩ := I.tuple hT
  simp only at hc hd
  subst hc hd
  have hle : its.length = xs.length := r.length.symm
  have hn : its ≠ [] := fun e => hne (by
    rw [e] at hle
    exact List.eq_nil_of_length_eq_zero hle.symm)
  have hi : its.toArray.isEmpty = false := by
    cases its with
    | nil => exact absurd rfl hn
    | cons a b => rfl
  by_cases h1k : k = 1
  · subst h1k
    refine wpAny_binaryOp_repeat_ref (T := "tuple") (U := "int") (by decide) ⟨_, ho, rfl⟩ (fun s' => typeIs_int s' 1 t) noFill_tuple_mul F.fills_int_mul F.slot_int_rmul repeat_tuple F.slot_int_index.lookup
      (call_meets F.slot_int_rmul (typeIs_int s 1 t) F.entry_int_rmul (F.args_int_rmul_2 _ _) (int_rmul_tuple 1 t l its.toArray n dd sl)
        ⟨ho, rfl, ⟨_, ho, rfl⟩, call_meets F.slot_tuple_mul ⟨_, ho, rfl⟩ F.entry_tuple_mul (F.args_tuple_mul_2 _ _) (tuple_mulS l its.toArray n dd sl t) ⟨ho, ?_⟩⟩)
    exact ⟨.ref l, H, I, rfl, q1 rfl⟩
  · have hk0 : k = 0 := by omega
    subst hk0
    have c0 : (decide ((0 : Int) < -(2 ^ 63)) || decide ((0 : Int) ≥ 2 ^ 63)) = false := by decide
    have c1 : (its.toArray.isEmpty || (0 : Int) == 1) = false := by
      rw [hi]
      rfl
    have c2 : (decide ((0 : Int) ≤ 0) || its.toArray.isEmpty) = true := by
      rw [hi]
      rfl
    refine wpAny_binaryOp_repeat_ref (T := "tuple") (U := "int") (by decide) ⟨_, ho, rfl⟩ (fun s' => typeIs_int s' 0 t) noFill_tuple_mul F.fills_int_mul F.slot_int_rmul repeat_tuple F.slot_int_index.lookup
      (call_meets F.slot_int_rmul (typeIs_int s 0 t) F.entry_int_rmul (F.args_int_rmul_2 _ _) (int_rmul_tuple 0 t l its.toArray n dd sl)
        ⟨ho, rfl, ⟨_, ho, rfl⟩, call_meets F.slot_tuple_mul ⟨_, ho, rfl⟩ F.entry_tuple_mul (F.args_tuple_mul_2 _ _) (tuple_mulZ l its.toArray n dd sl 0 t c0 c1 c2) ⟨ho, ?_⟩⟩)
    refine ⟨.ref s.heap.objs.size, _, I.laid (t' := s.toks) (o := .tup []) (fun b ob q => Heap.get?_push_of_some _ q) (Nat.le_refl _) ?_, rfl, q2 h1k _ (I.hok.fresh (Nat.le_refl _))⟩
    exact ⟨Nat.zero_le _, [], .nil, IsTup.new _ _⟩
/-- a, a - 1 .. b + 1 -/
def rgD (a b : Int) : List V := (List.range (a - b).toNat).map fun i => V.int (a - (i : Nat))
theorem rgD_length (a b : Int) : (rgD a b).length = (a - b).toNat := by unfold rgD; rw [List.length_map, List.length_range]
theorem vals_rgD {a b : Int} {acc : Array Value} (h : ItemsOf (fun i v => ∃ t, v = .int (a + i * -1) t) acc (a - b).toNat) : Vals (rgD a b) acc.toList := by
  have e : acc.toList.length = (a - b).toNat := by rw [Array.length_toList]; exact h.1
  unfold rgD
  rw [← e]
  refine vals_of_get acc.toList _ fun j u hj => ?_
  obtain ⟨t, rfl⟩ := h.2 j u (by rw [← hj, Array.getElem?_toList])
  exact ⟨t, by congr 1; omega⟩
/-- an expression that makes a range downwards -/
def PRgD (X : Cx) (e : Expr) (t : L2.St → Hp → (Int → Int → Hp → Prop) → Prop) : Prop :=
  ∀ (pins : List (Addr × Obj)) (s : Shared) (σ : L2.St) (H : Hp) (Q : Int → Int → Hp → Prop), Inv X pins σ H s → t σ H Q →
    wpAny (model X.prog X.w) X.A (eval e X.env) (fun x s' => ∃ r a b t u v H', x = .ref r ∧ IsRange s'.heap r a b (-1) t u v ∧ Inv X pins σ H' s' ∧ Q a b H') X.xe s
def tRg3D (t : TA) : L2.St → Hp → (Int → Int → Hp → Prop) → Prop := fun σ H Q => t σ H fun xs H1 => ∃ i j, xs = [.int i, .int j, .int (-1)] ∧ Q i j H1
theorem prg_3D {e : Expr} {es : List Expr} {t : TA} {p pos : Pos} (hg : Gl X "range") (hm : X.mg "range" = none) (ha : PA X (e :: es) t)
    (he : starEach (e :: es) X.env = (false, eval e X.env) :: starEach es X.env := by rfl) (hpl : (backTo pos (starEach es X.env)).any (·.1) = false := by rfl) : PRgD X (.Call (.Name "range" p) (e :: es) [] pos) (tRg3D t) := by
  intro pins s σ H Q I h
  refine wpAny_Call_Name_kw (ld_blt I hg hm boot_range ?_)
  refine PyProof.Rows.callWith_type1 (thn (ha.run pos pins s σ H _ I h) fun us s1 ⟨vs, H1, I1, r1, q1⟩ => ?_) he hpl
  obtain ⟨i, j, rfl, q⟩ := q1
  obtain ⟨u1, us1, rfl, r2, r3⟩ : ∃ u1 us1, us = u1 :: us1 ∧ RelV (.int i) u1 ∧ Vals [.int j, .int (-1)] us1 := by cases r1 with | cons a b => exact ⟨_, _, rfl, a, b⟩
  obtain ⟨u2, u3, rfl, r4, r5⟩ := vals2 r3
  obtain ⟨t1, rfl⟩ := r2
  obtain ⟨t2, rfl⟩ := r4
  obtain ⟨t3, rfl⟩ := r5
  exact call_range_3 (by decide) ⟨_, i, j, _, _, _, H1, rfl, IsRange.new _ _ _ _ _ _ _, I1.kept fun b u e => Heap.get?_push_of_some _ e, q⟩ (.inl (PyProof.noPylong_small (by decide)))
def tLstRg3 (t : TA) : TE := fun σ H Q => tRg3D t σ H fun a b H1 => RgOk b a ∧ ∀ q, H1 q = none → Q (.ref q) (upd H1 q (.lst (rgD a b)))
def tTupRg3 (t : TA) : TE := fun σ H Q => tRg3D t σ H fun a b H1 => RgOk b a ∧ ∀ q, H1 q = none → Q (.ref q) (upd H1 q (.tup (rgD a b)))
theorem pe_listRg3 {e : Expr} {es : List Expr} {t : TA} {p2 pos2 p pos : Pos} (hc : X.calm = true) (hg : Gl X "list") (hm : X.mg "list" = none) (hg2 : Gl X "range") (hm2 : X.mg "range" = none) (ha : PA X (e :: es) t)
    (he : starEach (e :: es) X.env = (false, eval e X.env) :: starEach es X.env := by rfl) (hpl : (backTo pos2 (starEach es X.env)).any (·.1) = false := by rfl)
    (na : starEach [.Call (.Name "range" p2) (e :: es) [] pos2] X.env = (false, eval (.Call (.Name "range" p2) (e :: es) [] pos2) X.env) :: starEach [] X.env := by rfl) : PE X (.Call (.Name "list" p) [.Call (.Name "range" p2) (e :: es) [] pos2] [] pos) (tLstRg3 t) := by
  refine ⟨fun pins s σ H Q I h => ?_⟩
  refine Call_ (ld_blt I hg hm boot_list (PyProof.Rows.callWith_type1 (args_cons (thn (prg_3D hg2 hm2 ha he hpl pins s σ H _ I h) fun x s1 ⟨r, a, b, t, u, v, H1, ex, hr, I1, ok, q⟩ => args_nil ?_) na) na))
  subst ex
  obtain ⟨b1, b2, b3, b4, b5⟩ := ok
  refine call_list_range (n := (a - b).toNat) (I1.ok.hd hc) hr (PySem.W.small_down b3 b4 b1 b2) (PySem.W.rangeSize_downNat a b) b5 fun h' tk acc c' hk e' hi => ?_
  refine ⟨.ref s1.heap.objs.size, upd H1 s1.heap.objs.size (.lst (rgD a b)), I1.laid hk (Nat.le_refl _) (show ObjOk X.prog X.w _ _ _ (.lst (rgD a b)) from ⟨?_, acc.toList, c', vals_rgD hi, ?_⟩), rfl, q _ (I1.hok.fresh (Nat.le_refl _))⟩
  · rw [rgD_length, sizeLine_eq]; omega
  · rw [Array.toArray_toList]; exact e'
theorem pe_tupRg3 {e : Expr} {es : List Expr} {t : TA} {p2 pos2 p pos : Pos} (hc : X.calm = true) (hg : Gl X "tuple") (hm : X.mg "tuple" = none) (hg2 : Gl X "range") (hm2 : X.mg "range" = none) (ha : PA X (e :: es) t)
    (he : starEach (e :: es) X.env = (false, eval e X.env) :: starEach es X.env := by rfl) (hpl : (backTo pos2 (starEach es X.env)).any (·.1) = false := by rfl)
    (na : starEach [.Call (.Name "range" p2) (e :: es) [] pos2] X.env = (false, eval (.Call (.Name "range" p2) (e :: es) [] pos2) X.env) :: starEach [] X.env := by rfl) : PE X (.Call (.Name "tuple" p) [.Call (.Name "range" p2) (e :: es) [] pos2] [] pos) (tTupRg3 t) := by
  refine ⟨fun pins s σ H Q I h => ?_⟩
  refine Call_ (ld_blt I hg hm boot_tuple (PyProof.Rows.callWith_type1 (args_cons (thn (prg_3D hg2 hm2 ha he hpl pins s σ H _ I h) fun x s1 ⟨r, a, b, t, u, v, H1, ex, hr, I1, ok, q⟩ => args_nil ?_) na) na))
  subst ex
  obtain ⟨b1, b2, b3, b4, b5⟩ := ok
  refine call_tuple_range (n := (a - b).toNat) (I1.ok.hd hc) hr (PySem.W.small_down b3 b4 b1 b2) (PySem.W.rangeSize_downNat a b) b5 fun h' tk acc hk hi => ?_
  have I2 : Inv X pins σ H1 { s1 with heap := h', toks := tk } := I1.kept hk
  refine ⟨.ref h'.objs.size, upd H1 h'.objs.size (.tup (rgD a b)), I2.laid (t' := tk) (fun c o e => Heap.get?_push_of_some _ e) (Nat.le_refl _) (show ObjOk X.prog X.w _ _ _ (.tup (rgD a b)) from ⟨?_, acc.toList, vals_rgD hi, ?_⟩), rfl, q _ (I2.hok.fresh (Nat.le_refl _))⟩
  · rw [rgD_length, sizeLine_eq]; omega
  · rw [Array.toArray_toList]; exact IsTup.new _ _
end

/-! ### list + list, whatever lists -/
theorem list_addW (l : Addr) (items : Array Value) (n : Nat) (dd : Option Addr) (sl : Array (Option Value)) (b : Addr) (items2 : Array Value) (n2 : Nat) (dd2 : Option Addr) (sl2 : Array (Option Value)) (hc0 : items.size + items2.size ≤ sizeLine) :
    Meets (Builtin.«list.__add__» ⟨[.ref l, .ref b], []⟩) (fun _ R s => s.heap.get? l = some { cls := .type "list", dict := dd, data := .seq items n, slots := sl } ∧ s.heap.get? b = some { cls := .type "list", dict := dd2, data := .seq items2 n2, slots := sl2 } ∧
      R (.ok (.ret (Value.ref s.heap.objs.size))) { s with heap := s.heap.push { cls := Value.type "list", data := Data.seq (items ++ items2) }, toks := s.toks }) :=
  .of_wp fun prog w A R s h => by
    obtain ⟨hp, g, d, tk, os⟩ := s
    obtain ⟨hl, hb, h⟩ := h
    have f1 := AutoSeq1.idx_int
    have f2 := AutoSeq1.sub_tuple_tuple
    have f3 := AutoSeq1.sub_list_list
    have f4 := AutoSeq1.sub_tuple_list
    have f5 := AutoSeq1.sub_list_tuple
    wp_walk using wpAny_loadPart' hl, wpAny_loadPart' hb
    exact ⟨_, rfl, h⟩
def rCatS (K : PySem.W.Frag) : R2 := fun x y H Q => ∃ l b xs zs, x = .ref l ∧ y = .ref b ∧ SqL K H l xs ∧ SqL K H b zs ∧ xs.length + zs.length ≤ sizeLine ∧ ∀ p, H p = none → Q (.ref p) (upd H p (.lst (xs ++ zs)))
theorem op_catS {X : Cx} : OpR X (binaryOp .Add) (rCatS X.K) := by
  intro pins s σ H x y v u Q I rx ry h
  obtain ⟨l, b, xs, zs, rfl, rfl, hH, hB, hz, q⟩ := h
  cases rx
  cases ry
  obtain ⟨its, r, ⟨⟨c1, d1, t1, sl1⟩, n, e, g1, g2, g3⟩, z⟩ := I.list hH
  obtain ⟨its2, r2, ⟨⟨c2, d2, t2, sl2⟩, n2, e2, k1, k2, k3⟩, z2⟩ := I.list hB
  simp only at g1 g2 g3 k1 k2 k3
  subst g1 g2 g3 k1 k2 k3
  have h1 := r.length
  have h2 := r2.length
  refine concat_meets ⟨_, e, rfl⟩ ⟨_, e2, rfl⟩ noFill_list_add seq_list_add F.slot_list_add F.entry_list_add (F.args_list_add_2 _ _) (list_addW l its.toArray n none sl1 b its2.toArray n2 none sl2 (by rw [List.size_toArray, List.size_toArray]; omega)) ⟨e, e2, ?_⟩
  have ea : its.toArray ++ its2.toArray = (its ++ its2).toArray := by simp
  rw [ea]
  exact ⟨.ref _, _, I.lnew (t' := s.toks) (r.append r2) (by rw [List.length_append]; omega), rfl, q _ I.fresh⟩

/-! ### try: .. except C as e: kept = e: the caught one stays known by its class -/
def ExK (cls : Value) (d : Option Addr) (a : Addr) : HO := .ext fun h => ∃ (oe : Obj) (vs : Array Value), h.get? a = some oe ∧ Zc cls d oe ∧ oe.data = .fields vs
theorem exK_ok {P : Program} {w : World} {H : Hp} {h : Heap} {a : Addr} {cls : Value} {d : Option Addr} {oe : Obj} {vs : Array Value} (e : h.get? a = some oe) (z : Zc cls d oe) (dd : oe.data = .fields vs) : ObjOk P w H h a (ExK cls d a) :=
  ⟨⟨oe, vs, e, z, dd⟩, ⟨oe, e⟩, fun _ _ ⟨o, v, q, r⟩ k => ⟨o, v, k o q, r⟩⟩
section
variable {X : Cx} {pins : List (Addr × Obj)} {σ : L2.St} {H : Hp} {s : Shared}
/-- a pinned exception that came behind the entry becomes tracked -/
theorem keep_exc {a : Addr} {oe : Obj} {vs : Array Value} {cls : Value} {d : Option Addr} (J : Inv X ((a, oe) :: pins) σ H s) (z : Zc cls d oe) (dd : oe.data = .fields vs) (h0 : X.s_0.heap.get? a = none) (np : ∀ p ∈ X.pn ++ pins, p.1 ≠ a) : Inv X pins σ (upd H a (ExK cls d a)) s := by
  obtain ⟨ea, na, nL, nF, nc⟩ := J.pin (a, oe) (List.mem_append_right _ List.mem_cons_self)
  have ne : ∀ {b : Addr} {o : HO}, H b = some o → b ≠ a := fun e q => by
    rw [q] at e
    have na' : H a = none := na
    rw [na'] at e
    cases e
  refine ⟨J.ok, J.os, J.bare, ⟨J.base.keep, J.base.slot, fun b o e n hx => ?_, J.base.there, fun b xs e => ?_, fun b o u e => ?_, fun b ps e => ?_⟩, J.loc, J.cell, ?_, fun x c e => ?_, fun p hp => ?_, fun b o e => ?_, J.len⟩
  · have hb : b ≠ a := fun q => by
      rw [q, h0] at e
      cases e
    rw [upd_ne hb]
    exact J.base.free b o e n hx
  · have e2 := J.base.tups b xs e
    rw [upd_ne (ne e2)]
    exact e2
  · have e2 := J.base.frzs b o u e
    rw [upd_ne (ne e2)]
    exact e2
  · obtain ⟨more, e2⟩ := J.base.tbls b ps e
    refine ⟨more, ?_⟩
    rw [upd_ne (ne e2)]
    exact e2
  · rw [upd_ne (fun q => nL q.symm)]
    exact J.free
  · have hc : c ≠ a := fun q => by
      obtain ⟨v, o, e1, e2⟩ := J.cell x c e
      rw [q] at e1
      have ea' : s.heap.get? a = some oe := ea
      rw [ea'] at e1
      cases e1
      rw [dd] at e2
      cases e2
    rw [upd_ne hc]
    exact J.freeC x c e
  · have hp' : p ∈ X.pn ++ (a, oe) :: pins := by
      rcases List.mem_append.mp hp with k | k
      · exact List.mem_append_left _ k
      · exact List.mem_append_right _ (List.mem_cons_of_mem _ k)
    obtain ⟨q1, q2, q3, q4, q5⟩ := J.pin p hp'
    exact ⟨q1, by rw [upd_ne (np p hp)]; exact q2, q3, q4, q5⟩
  · by_cases hb : b = a
    · subst hb
      rw [upd_same] at e
      cases e
      exact exK_ok ea z dd
    · rw [upd_ne hb] at e
      refine (J.hok b o e).stay (fun c u _ q => q) (fun c q => ?_) fun c xs q => ?_
      · rw [upd_ne (ne q)]
        exact q
      · rw [upd_ne (ne q)]
        exact q
end
/-- what the clause wishes of an exception of the body: it is caught, kept in slot j; the clause's own name, slot i, is empty behind it -/
def wKeep (K : PySem.W.Frag) (c : Addr) (i j : Nat) (D : Ends) : WX := fun cls d σ H =>
  PySem.W.exmOne K cls (.ref c) = some true ∧ ∀ a, H a = none → D.nx (((σ.set i (some (.ref a))).set j (some (.ref a))).set i none) (upd H a (ExK cls d a))
def tTryKeep (K : PySem.W.Frag) (c : Addr) (i j : Nat) (tb : WX → TS) : TS := fun D σ H => tb (wKeep K c i j D) D σ H
section
variable {X : Cx} {x n : Str} {c : Addr} {i j : Nat} {body suite : List Stmt} {b1 : Stmt} {np pos pos' : Pos} {tb : WX → TS}
/-- an exception caught, its clause ended, it is tracked -/
theorem caught_kept {a : Addr} {pins : List (Addr × Obj)} {σ : L2.St} {H : Hp} {B : Heap} {sI s' : Shared} {cls : Value} {d : Option Addr} {D : Ends}
    (hs : X.stack = X.env :: X.outer) (hf : X.env.frame = some X.env.locals) (hex : X.ex = []) (hN : X.N.Nodup) (hi : X.N[i]? = some n) (hln : X.env.kindOf n = some .local) (hc : Names X x (.ref c)) (ok : X.Ok)
    (hsu : ∀ (a : Addr) (oe : Obj) (cls : Value) (d : Option Addr) (pn : List (Addr × Obj)), Zc cls d oe → (∃ vs, oe.data = .fields vs) → PSs (X.suite a ((a, oe) :: pn)) (b1 :: suite) (tAsg (tVar i) (gName j)))
    (hln2 : i < σ.length)
    (J : Inv X pins σ H sI) (nb : ∀ b o, sI.heap.get? b = some o → b ∉ frs X.stack → B.get? b = some o) (up : sI.heap.UpToSlots s'.heap) (sky : Sky B X.stack a (Zc cls d) X.env.locals s'.heap) (na : H a = none) (os : s'.os = sI.os) (ag : AllBare s'.gens)
    (w : wKeep X.K c i j D cls d σ H) :
    wpAny (model X.prog X.w) X.A (noteFrame (.ref a) X.env) (fun _ s₂ => wpAny (model X.prog X.w) X.A (setFlight (.ref a) none) (fun _ s₃ =>
      wpAny (model X.prog X.w) X.A (handleBy (.ref a) X.env [.ExceptHandler (some (.Name x np)) (some n) (b1 :: suite) pos']) (SP X pins D) X.xe s₃) X.xe s₂) X.xe s' := by
  obtain ⟨hb, hyes⟩ := w
  have frames : X.A.frames = some (X.env :: X.outer) := ok.frames.trans (congrArg some hs)
  have sky2 : Sky B (X.env :: X.outer) a (Zc cls d) X.env.locals s'.heap := hs ▸ sky
  -- the exception stands apart from all that stood
  have hB : B.get? a = none := by
    rcases sky with q | q | q
    · exact q.2.1
    · exact q.2.1
    · exact q.2.1
  refine Sky.land Zc.steady frames hf sky2 fun h3 fl3 up3 => ?_
  have J3 : Inv X pins σ H { s' with heap := h3 } := J.landed nb fl3.1 (up.trans up3) os ag
  obtain ⟨oe3, vs3, he3, hz3, hd3⟩ := fl3.there
  have notIn : a ∉ frs (X.env :: X.outer) := fun hm => by
    obtain ⟨_, o, e, hnf⟩ := fl3.2.2.1.mem hm
    rw [he3] at e
    cases e
    exact hnf _ hd3
  have nL : a ≠ X.env.locals := fun z => notIn (List.mem_filterMap.mpr ⟨X.env, List.mem_cons_self, hf.trans (congrArg some z.symm)⟩)
  have nF : a ∉ X.fs := fun hm => by
    obtain ⟨e, he, q⟩ := List.mem_filterMap.mp hm
    exact notIn (List.mem_filterMap.mpr ⟨e, List.mem_cons_of_mem _ he, q⟩)
  have nS : a ∉ frs X.stack := hs ▸ notIn
  have h0 : X.s_0.heap.get? a = none := by
    cases q : X.s_0.heap.get? a with
    | none => rfl
    | some o =>
      obtain ⟨o', e⟩ := J.base.there a o q (by rw [hex]; simp)
      rw [nb a o' e nS] at hB
      cases hB
  have npin : ∀ p ∈ X.pn ++ pins, p.1 ≠ a := fun p hp z => by
    obtain ⟨e, _, p3, p4, _⟩ := J.pin p hp
    rw [z] at e
    rw [nb a p.2 e nS] at hB
    cases hB
  refine wpAny_handleBy_cons (codeAny_handlers_test ?_) (by intro q; cases q)
  have S3 := J3.suite he3 hd3 na nL nF
  have LT : PySem.W.Looks (model X.prog X.w) h3 (typeOf (.ref a)) cls := fun A Q E s k q => wpAny_typeOf_ref (k _ _ he3) (by rw [hz3.1]; exact q)
  have test : ∀ {Q : Value → Shared → Prop} {E : Value → Shared → Prop}, Q (.ref c) { s' with heap := h3 } → wpAny (model X.prog X.w) (X.A.mark (some (.ref a))) (eval (.Name x np) X.env) Q E { s' with heap := h3 } := fun {Q E} q => by
    obtain ⟨hg, hdbg, hm | ⟨hm, hv, hnn⟩⟩ := hc
    · exact ld_glob (X := X.suite a ((a, oe3) :: (X.pn ++ pins))) S3 hg hm q hdbg
    · exact ld_blt (X := X.suite a ((a, oe3) :: (X.pn ++ pins))) S3 hg hm hv q hnn hdbg
  refine test ((PySem.W.exm_one (M := model X.prog X.w) J3.kIn LT hb).here ?_)
  refine codeAny_handlers_suite_as (HandSPX.lands_againZ fl3 fun h4 fl4 up4 => ?_)
  have J4 : Inv X pins σ H { s' with heap := h4 } := J.landed nb fl4.1 ((up.trans up3).trans up4) os ag
  obtain ⟨oe4, vs4, he4, hz4, hd4⟩ := fl4.there
  have S4 := J4.suite he4 hd4 na nL nF
  refine store_ok (X := X.suite a ((a, oe4) :: (X.pn ++ pins))) (v := .ref a) S4 hN hi (.inl hln) rfl (fun s5 S5 => ?_) (.inr hln)
  have q5 : (tAsg (tVar i) (gName j)) { nx := fun σ' H' => H' = H ∧ σ' = (σ.set i (some (.ref a))).set j (some (.ref a)), rt := fun _ _ => False } (σ.set i (some (.ref a))) H := by
    exact ⟨.ref a, by rw [List.getElem?_set_self hln2], rfl, rfl⟩
  refine wpAny_mono ((hsu a oe4 cls d (X.pn ++ pins) hz4 ⟨_, hd4⟩).run [] s5 _ H _ S5 q5) (fun f s6 hsp => ?_) (fun _ _ z => False.elim z)
  cases f with
  | next =>
    obtain ⟨σ6, H6, S6, rfl, rfl⟩ := hsp
    have P6 : Inv X ((a, oe4) :: pins) ((σ.set i (some (.ref a))).set j (some (.ref a))) H6 s6 :=
      ⟨ok, S6.os, S6.bare, S6.base, S6.loc, S6.cell, S6.free, S6.freeC, fun p hp => S6.pin p (by
        rw [List.append_nil]
        rcases List.mem_append.mp hp with k | k
        · exact List.mem_cons_of_mem _ (List.mem_append_left _ k)
        · rcases List.mem_cons.mp k with k | k
          · rw [k]; exact List.mem_cons_self
          · exact List.mem_cons_of_mem _ (List.mem_append_right _ k)), S6.hok, S6.len⟩
    refine gone_ok P6 hN hi hln fun s7 J7 => ?_
    exact ⟨_, _, keep_exc J7 hz4 hd4 h0 npin, hyes a na⟩
  | brk =>
    obtain ⟨_, _, _, q⟩ := hsp
    exact q.elim
  | cont =>
    obtain ⟨_, _, _, q⟩ := hsp
    exact q.elim
  | ret u =>
    obtain ⟨_, _, _, _, _, q⟩ := hsp
    exact q.elim
theorem ps_try_keep (hs : X.stack = X.env :: X.outer) (hf : X.env.frame = some X.env.locals) (hex : X.ex = []) (hN : X.N.Nodup) (hi : X.N[i]? = some n) (hln : X.env.kindOf n = some .local) (hc : Names X x (.ref c))
    (hb : ∀ (W : WX) (pn : List (Addr × Obj)) (xe : Value → Shared → Prop), Takes (X.tr pn xe) W → PassesOwn (model X.prog X.w) X.A X.env xe → PSs (X.tr pn xe) body (tb W))
    (hsu : ∀ (a : Addr) (oe : Obj) (cls : Value) (d : Option Addr) (pn : List (Addr × Obj)), Zc cls d oe → (∃ vs, oe.data = .fields vs) → PSs (X.suite a ((a, oe) :: pn)) (b1 :: suite) (tAsg (tVar i) (gName j))) :
    PS X (.Try body [.ExceptHandler (some (.Name x np)) (some n) (b1 :: suite) pos'] [] [] pos) (tTryKeep X.K c i j tb) := by
  refine ⟨fun pins s σ H D I h => wpAny_Try_except ?_⟩
  have ok := I.ok
  refine wpAny_mono ((hb (wKeep X.K c i j D) (X.pn ++ pins) (fun e s₁ => wpAny (model X.prog X.w) X.A (noteFrame e X.env) (fun _ s₂ => wpAny (model X.prog X.w) X.A (setFlight e none) (fun _ s₃ =>
    wpAny (model X.prog X.w) X.A (handleBy e X.env [.ExceptHandler (some (.Name x np)) (some n) (b1 :: suite) pos']) (SP X pins D) X.xe s₃) X.xe s₂) X.xe s₁) (fun u s' xx => ?_) PassesOwn.looking).run [] s σ H D (I.toTry _) h) (fun f s1 hsp => ?_) (fun e s1 he => he)
  · obtain ⟨a, B, sI, pins', σ', H', cls, d, rfl, J', nb, up, sky, na, os, ag, w⟩ := xx
    have il : i < σ'.length := by
      have e1 := (List.getElem?_eq_some_iff.mp hi).1
      have e2 := J'.len
      have e3 : σ'.length = X.N.length := e2
      omega
    exact caught_kept hs hf hex hN hi hln hc ok hsu il (J'.ofTry ok) nb up sky na os ag w
  · cases f with
    | next =>
      obtain ⟨σ', H', J', q⟩ := hsp
      exact wpAny_execs_nil ⟨σ', H', J'.ofTry ok, q⟩
    | brk =>
      obtain ⟨σ', H', J', q⟩ := hsp
      exact ⟨σ', H', J'.ofTry ok, q⟩
    | cont =>
      obtain ⟨σ', H', J', q⟩ := hsp
      exact ⟨σ', H', J'.ofTry ok, q⟩
    | ret u =>
      obtain ⟨v, σ', H', J', r, q⟩ := hsp
      exact ⟨v, σ', H', J'.ofTry ok, r, q⟩
end

/-! ### isinstance of a kept exception; a call, inside a try, of a local that holds a def -/
structure ExG (K : PySem.W.Frag) (C : Addr) : Prop where
  c : ExcC K C
  ty : PySem.W.typeIn K (.ref C) = some (.type "type")
  self : PySem.W.subIn K (.ref C) (.ref C) = some true
theorem cls_some {K : PySem.W.Frag} {C : Addr} (h : PySem.W.hasDictIn K C = true) : (PySem.W.clsIn K C).isSome = true := by
  obtain ⟨cd, hc, _⟩ := PySem.W.any_some h
  rw [hc]
  rfl
theorem kit_ref {K : PySem.W.Frag} {C D : Addr} {b : Bool} (g : ExG K C) (h : PySem.W.subIn K (.ref D) (.ref C) = some b) : PySem.W.kitOne K (.ref D) (.ref C) = some b := by
  unfold PySem.W.kitOne
  by_cases e : (Value.ref D == Value.ref C) = true
  · rw [if_pos e]
    have e2 : D = C := Value.ref.inj (beq_iff_eq.mp e)
    subst e2
    rw [g.self] at h
    exact h
  · rw [if_neg e]
    have e2 : ((PySem.W.clsIn K C).isSome && PySem.W.typeIn K (.ref C) == some (.type "type")) = true := by rw [cls_some g.c.hd, g.ty] <;> rfl
    show (if ((PySem.W.clsIn K C).isSome && PySem.W.typeIn K (.ref C) == some (.type "type")) = true then PySem.W.subIn K (.ref D) (.ref C) else none) = some b
    rw [if_pos e2]
    exact h
theorem kit_typ {K : PySem.W.Frag} {D : Addr} {T : String} {b : Bool} (hm : PySem.W.kitMeta T = true) (h : PySem.W.subIn K (.ref D) (.type T) = some b) : PySem.W.kitOne K (.ref D) (.type T) = some b := by
  unfold PySem.W.kitOne
  have e : ¬ (Value.ref D == Value.type T) = true := fun z => by cases beq_iff_eq.mp z
  rw [if_neg e]
  show (if PySem.W.kitMeta T = true then PySem.W.subIn K (.ref D) (.type T) else none) = some b
  rw [if_pos hm]
  exact h
theorem exm_of {K : PySem.W.Frag} {C : Addr} {cls : Value} {b : Bool} (g : ExG K C) (h : PySem.W.subIn K cls (.ref C) = some b) : PySem.W.exmOne K cls (.ref C) = some b := PySem.W.exm_ref g.c.hs g.c.hd g.ty h
inductive TyE (K : PySem.W.Frag) (H : Hp) : V → Value → Prop where
  | old {x : V} {t : Value} : TyX K H x t → TyE K H x t
  | exc {a D : Addr} : H a = some (ExK (.ref D) none a) → ExcC K D → TyE K H (.ref a) (.ref D)
def rIsiE (K : PySem.W.Frag) : List V → Hp → VK → Prop := fun xs H Q => ∃ (x c : V) (t u : Value) (b : Bool), xs = [x, c] ∧ ClsV c u ∧ TyE K H x t ∧ PySem.W.kitOne K t u = some b ∧ Q (.bl b) H
def rIsiTE (K : PySem.W.Frag) : List V → Hp → VK → Prop := fun xs H Q => ∃ (x : V) (tp : Addr) (cs : List V) (t : Value) (us : List Value) (b : Bool), xs = [x, .ref tp] ∧ H tp = some (.tup cs) ∧ Paired ClsV cs us ∧ TyE K H x t ∧ PySem.W.kitAny K t us = some b ∧ Q (.bl b) H
section
variable {X : Cx} {pins : List (Addr × Obj)} {σ : L2.St} {H : Hp} {s : Shared}
theorem kit_ofE {x : V} {u t : Value} (I : Inv X pins σ H s) (rx : RelV x u) (ty : TyE X.K H x t) : ∃ P : Heap → Prop, PySem.W.KitX X.K u t P ∧ P s.heap ∧ u ≠ .builtin "__main__.__loader__#opaque" := by
  cases ty with
  | old ty => exact kit_of I rx ty
  | @exc a D e C =>
    cases (show u = Value.ref a from rx)
    obtain ⟨⟨oe, vs, e1, z, dd⟩, _, _⟩ := (show ObjOk X.prog X.w H s.heap a (ExK (.ref D) none a) from I.hok a _ e)
    have J : PySem.W.InstAt s.heap a oe D none := by
      obtain ⟨oc, od, oda, osl⟩ := oe
      obtain ⟨h1, h2⟩ := z
      dsimp only at h1 h2 dd
      subst h1 h2 dd
      exact ⟨e1, rfl, rfl, trivial⟩
    exact ⟨_, PySem.W.handS_kitx_exc C.hg C.hk C.hs C.hd C.ha C.hn C.ht C.hm, J, fun z => nomatch z⟩
theorem call_isiE : CallR X (.builtin "isinstance") (rIsiE X.K) := by
  intro pins s σ H xs us Q I r h
  obtain ⟨x, c, t, u, b, rfl, k, ty, e, q⟩ := h
  obtain ⟨u1, u2, rfl, r1, r2⟩ := vals2 r
  have e2 := k.eq r2
  subst e2
  obtain ⟨P, Z, p, hx⟩ := kit_ofE I r1 ty
  exact PySem.W.kia_one Z I.kIn p e hx fun tk => ⟨.bl b, H, I.tok tk, rfl, q⟩
theorem call_isiTE : CallR X (.builtin "isinstance") (rIsiTE X.K) := by
  intro pins s σ H xs us Q I r h
  obtain ⟨x, tp, cs, t, ws, b, rfl, hT, k, ty, e, q⟩ := h
  obtain ⟨u1, u2, rfl, r1, r2⟩ := vals2 r
  cases (show u2 = Value.ref tp from r2)
  obtain ⟨P, Z, p, hx⟩ := kit_ofE I r1 ty
  obtain ⟨_, its, rv, o, h1, h2, n, h3⟩ := (show ObjOk X.prog X.w H s.heap tp (.tup cs) from I.hok tp _ hT)
  have e3 := ClsV.all k rv
  subst e3
  obtain ⟨oc, od, dt, sl⟩ := o
  simp only at h2 h3
  subst h2 h3
  exact PySem.W.kia_tup Z I.kIn p h1 e hx fun tk => ⟨.bl b, H, I.tok tk, rfl, q⟩
end
/-- a def that a local may hold -/
structure Hd (P : Program) (w : World) (K : PySem.W.Frag) (mg : Str → Option Value) (base : Heap) (CX : CXT) (kk : Nat) (f : Addr) (sp : Sp) : Prop where
  ex : ∃ (k : Nat) (fd : FuncData) (ps : List Str), k ≤ kk ∧ FnOk P w K mg base CX k f fd ps sp ∧ Binds K fd ps []
  kp : PySem.W.keepIn K (.ref f) = true
theorem hd_of {P : Program} {w : World} {K : PySem.W.Frag} {mg : Str → Option Value} {base : Heap} {CX : CXT} {k kk : Nat} {x : Str} {f : Addr} {ps : List Str} {sp : Sp} (G : Cb P w K mg base CX k x f ps sp) (h : k ≤ kk) : Hd P w K mg base CX kk f sp := by
  obtain ⟨⟨fd, F, b⟩, g, kp⟩ := G
  exact ⟨⟨k, fd, ps, h, F, b⟩, kp⟩
def tCallD (i : Nat) (S : Addr → Sp → Prop) (E : L2.St → XK) (t : TA) : TE := fun σ H Q => ∃ f sp, σ[i]? = some (some (.ref f)) ∧ S f sp ∧ t σ H fun vs H1 => sp vs H1 Q (E σ)
theorem pe_callD {X : Cx} {CX : CXT} {kk i : Nat} {S : Addr → Sp → Prop} {E : L2.St → XK} {x : Str} {p pos : Pos} {e : Expr} {es : List Expr} {t : TA} (A : ∀ f sp, S f sp → Hd X.prog X.w X.K X.mg X.base CX kk f sp) (hr : Room kk X.A) (hx : ∀ σ, PassesAt CX X σ (E σ))
    (ha : PA X (e :: es) t) (hN : X.N[i]? = some x := by rfl) (hv : Vis X.env.scope x := by first | exact Or.inl rfl | exact Or.inr (Or.inl rfl) | exact Or.inr (Or.inr rfl))
    (hdb : (x == ("__debug__" : Str)) = false := by decide) (hcd : (x == ("__classdict__" : Str)) = false := by decide)
    (he : starEach (e :: es) X.env = (false, eval e X.env) :: starEach es X.env := by rfl) (hpl : (backTo pos (starEach es X.env)).any (·.1) = false := by rfl) : PE X (.Call (.Name x p) (e :: es) [] pos) (tCallD i S E t) := by
  refine ⟨fun pins s σ H Q I h => ?_⟩
  obtain ⟨f, sp, hs, hS, ht⟩ := h
  obtain ⟨⟨k, fd, ps, hk, F, hb⟩, kp⟩ := A f sp hS
  refine wpAny_Call_Name_kw (thn ((pe_var (pos := p) hN hv hdb hcd).run pins s σ H (fun v H1 => v = .ref f ∧ H1 = H) I ⟨.ref f, hs, rfl, rfl⟩) fun u s1 ⟨v, H1, I1, r1, q1⟩ => ?_)
  obtain ⟨rfl, rfl⟩ := q1
  cases r1
  refine PySem.W.callWith_K (h₀ := X.base) I.ok.mod.kin kp (thn (ha.run pos pins s1 σ _ _ I1 ht) fun us s2 ⟨vs, H2, I2, r, q⟩ => ⟨I2.kIn, ?_⟩) he hpl
  exact run_fnS F (hr.mono hk) hb (hx σ) I2 r q

/-! ### how many good wishes; the first and the last ones -/
def hmany (n k : Nat) : Int := if n < k then 0 else if k = 0 then 1 else ((n : Int) + 1 - k) * ((n : Int) + 1) ^ (k - 1)
def ChkS (K : PySem.W.Frag) (a : Ad) (hi : Nat) (s : V) (H : Hp) (E : XK) (R : Nat → Prop) : Prop := ∃ T, TyB K H s T ∧ ((inB 0 hi s = false ∧ E (.ref a.e_NoCount) none H) ∨ ∃ k : Nat, s = .int k ∧ k ≤ hi ∧ R k)
theorem ChkS.ok {K : PySem.W.Frag} {a : Ad} {hi k : Nat} {H : Hp} {E : XK} {R : Nat → Prop} (h : k ≤ hi) (r : R k) : ChkS K a hi (.int k) H E R := ⟨_, .int _, .inr ⟨k, rfl, h, r⟩⟩
theorem inB_nat {hi k : Nat} (h : k ≤ hi) : inB 0 hi (.int k) = true := by
  simp [inB]
  omega
def sp_how_many (K : PySem.W.Frag) (a : Ad) : Sp := fun vs H Q E => ∃ b s, vs = [b, s] ∧ ChkQ K a b H E fun n => ChkS K a 400 s H E fun k => Q (.int (hmany n k)) H
abbrev N_how_many : List Str := ["berths", "ships", "many", "_"]
def t_how_many (K : PySem.W.Frag) (a : Ad) (E : XK) : TS :=
  (tSeq (tDrop (tCall (sp_check_quay K a) [] E (tCons (tVar 0) tNil)))
    (tSeq (tIfS (tNot (tB (tCall (sp_is_from_to K a) [] E0 (tCons (tC (.int 0)) (tCons (tC (.int 400)) (tCons (tVar 1) tNil)))))) (tRaise a.e_NoCount E) tNext)
    (tSeq (tIfS (tTest (tOp rGtI (tVar 1) (tVar 0))) (tRet (tC (.int 0))) tNext)
    (tSeq (tIfS (tTest (tOp rEq (tVar 1) (tC (.int 0)))) (tRet (tC (.int 1))) tNext)
    (tSeq (tAsg (tOp rSubI (tOp rAddI (tVar 0) (tC (.int 1))) (tVar 1)) (gName 2))
    (tSeq (tFor (iRng1 (tCons (tOp rSubI (tVar 1) (tC (.int 1))) tNil)) (gName 3)
    (tAsg (tOp rMulI (tVar 2) (tOp rAddI (tVar 0) (tC (.int 1)))) (gName 2)))
    (tRet (tVar 2))))))))
theorem len_how_many {K : PySem.W.Frag} {a : Ad} {vs : List V} {H : Hp} {Q : VK} {E : XK} (h : sp_how_many K a vs H Q E) : vs.length = 2 := by
  obtain ⟨b, s, rfl, _⟩ := h
  rfl
theorem pu_how_many {K : PySem.W.Frag} {a : Ad} {vs : List V} {H : Hp} {Q : VK} {E : XK} (h : sp_how_many K a vs H Q E) : t_how_many K a E { nx := fun _ H' => Q .non H', rt := Q } (start N_how_many vs) H := by
  obtain ⟨b, s, rfl, h⟩ := h
  refine ⟨b, rfl, b, rfl, ChkQ.imp h fun n eb h1 h2 r => ?_⟩
  subst eb
  obtain ⟨T, ty, r⟩ := r
  refine ⟨s, rfl, 0, 400, s, T, rfl, ty, inB 0 400 s, rfl, ?_⟩
  rcases r with ⟨e, q⟩ | ⟨k, rfl, hk, q⟩
  · have e : inB 0 400 s = false := e
    rw [e]
    exact iteT q
  have e : inB 0 400 (.int k) = true := inB_nat (hi := 400) hk
  rw [e]
  refine iteF ⟨.int k, rfl, .int n, rfl, _, _, rfl, rfl, _, rfl, ite2 (fun c => ?_) (fun c => ?_)⟩
  · have c : (n : Int) < k := of_decide_eq_true c
    have e : hmany n k = 0 := if_pos (by omega)
    rw [e] at q
    exact q
  have c : ¬ (n : Int) < k := fun z => c (decide_eq_true z)
  refine ⟨.int k, rfl, rfl, _, rfl, ite2 (fun d => ?_) (fun d => ?_)⟩
  · have d : V.int k = V.int 0 := of_decide_eq_true d
    have d := V.int.inj d
    have e : hmany n k = 1 := by
      unfold hmany
      rw [if_neg (by omega), if_pos (by omega)]
    rw [e] at q
    exact q
  have d : ¬ V.int k = V.int 0 := fun z => d (decide_eq_true z)
  have d : k ≠ 0 := fun z => d (by rw [z]; rfl)
  refine ⟨.int n, rfl, _, 1, rfl, rfl, .int k, rfl, _, _, rfl, rfl, ?_⟩
  refine ⟨.int k, rfl, _, 1, rfl, rfl, _, rfl, by omega, by omega, ?_⟩
  have ek : ((k : Int) - 1).toNat = k - 1 := by omega
  rw [ek]
  refine for_range (fun i σ H' => (∃ y, σ = [some (.int n), some (.int k), some (.int (((n : Int) + 1 - k) * ((n : Int) + 1) ^ i)), y]) ∧ H' = H) ⟨⟨none, ?_⟩, rfl⟩ ?_ ?_
  · rw [Int.pow_zero, Int.mul_one]
    rfl
  · rintro i σ H' hi ⟨⟨y, rfl⟩, rfl⟩
    refine ⟨_, rfl, .int n, rfl, _, 1, rfl, rfl, _, _, rfl, rfl, .inr ⟨by omega, by omega⟩, ⟨some (.int (0 + (i : Int))), ?_⟩, rfl⟩
    rw [Int.pow_succ, ← Int.mul_assoc]
    rfl
  · rintro σ H' ⟨⟨y, rfl⟩, rfl⟩
    refine ⟨_, rfl, ?_⟩
    have e : hmany n k = ((n : Int) + 1 - k) * ((n : Int) + 1) ^ (k - 1) := by
      unfold hmany
      rw [if_neg (by omega), if_neg d]
    rw [e] at q
    exact q
def sp_p_check_ships (K : PySem.W.Frag) (a : Ad) : Sp := fun vs H Q E => ∃ b s, vs = [b, s] ∧ ChkQ K a b H E fun n => ChkS K a n s H E fun _ => Q .non H
abbrev N_p_check_ships : List Str := ["berths", "ships"]
def t_p_check_ships (K : PySem.W.Frag) (a : Ad) (E : XK) : TS :=
  (tSeq (tDrop (tCall (sp_check_quay K a) [] E (tCons (tVar 0) tNil)))
    (tIfS (tNot (tB (tCall (sp_is_from_to K a) [] E0 (tCons (tC (.int 0)) (tCons (tVar 0) (tCons (tVar 1) tNil)))))) (tRaise a.e_NoCount E) tNext))
theorem len_p_check_ships {K : PySem.W.Frag} {a : Ad} {vs : List V} {H : Hp} {Q : VK} {E : XK} (h : sp_p_check_ships K a vs H Q E) : vs.length = 2 := by
  obtain ⟨b, s, rfl, _⟩ := h
  rfl
theorem pu_p_check_ships {K : PySem.W.Frag} {a : Ad} {vs : List V} {H : Hp} {Q : VK} {E : XK} (h : sp_p_check_ships K a vs H Q E) : t_p_check_ships K a E { nx := fun _ H' => Q .non H', rt := Q } (start N_p_check_ships vs) H := by
  obtain ⟨b, s, rfl, h⟩ := h
  refine ⟨b, rfl, b, rfl, ChkQ.imp h fun n eb h1 h2 r => ?_⟩
  subst eb
  obtain ⟨T, ty, r⟩ := r
  refine ⟨.int n, rfl, s, rfl, 0, n, s, T, rfl, ty, inB 0 n s, rfl, ?_⟩
  rcases r with ⟨e, q⟩ | ⟨k, rfl, hk, q⟩
  · rw [e]
    exact iteT q
  · rw [inB_nat hk]
    exact iteF q
def sp_first_row (K : PySem.W.Frag) (a : Ad) : Sp := fun vs H Q E => ∃ b s, vs = [b, s] ∧ ChkQ K a b H E fun n => ChkS K a n s H E fun k => ∀ (l : Addr) (H' : Hp), Same H H' → H' l = some (.tup ((List.replicate k 1).map V.int)) → Q (.ref l) H'
abbrev N_first_row : List Str := ["berths", "ships"]
def t_first_row (K : PySem.W.Frag) (a : Ad) (E : XK) : TS :=
  (tSeq (tDrop (tCall (sp_p_check_ships K a) [] E (tCons (tVar 0) (tCons (tVar 1) tNil))))
    (tRet (tOp (rRepTA K) (tTup (tCons (tC (.int 1)) tNil)) (tVar 1))))
theorem len_first_row {K : PySem.W.Frag} {a : Ad} {vs : List V} {H : Hp} {Q : VK} {E : XK} (h : sp_first_row K a vs H Q E) : vs.length = 2 := by
  obtain ⟨b, s, rfl, _⟩ := h
  rfl
theorem flat_repR (n : Nat) (x : Int) : (List.replicate n [V.int x]).flatten = (List.replicate n x).map V.int := by
  induction n with
  | zero => rfl
  | succ n ih => rw [List.replicate_succ, List.replicate_succ, List.flatten_cons, ih]; rfl
/-- (1,) * k -/
theorem ones_of {K : PySem.W.Frag} {te : TE} {σ : L2.St} {H : Hp} {Q : VK} {k : Nat} (hk : k ≤ 400) (ht : ∀ H1 : Hp, Same H H1 → ∀ Q' : VK, Q' (.int k) H1 → te σ H1 Q') (q : ∀ (l : Addr) (H' : Hp), Same H H' → H' l = some (.tup ((List.replicate k 1).map V.int)) → Q (.ref l) H') :
    (tOp (rRepTA K) (tTup (tCons (tC (.int 1)) tNil)) te) σ H Q := by
  refine ⟨l1000 (by show 1 ≤ 1000; decide), fun p np => ht _ (same_new np) _ ⟨p, k, _, rfl, rfl, sqT_of upd_same, (fun z => by cases z), by omega, by omega, (by show 1 ≤ 1000; decide), fun e => ?_, fun e l nl => ?_⟩⟩
  · refine q p _ (same_new np) ?_
    have e : k = 1 := by omega
    rw [e, upd_same]
    rfl
  · refine q l _ ((same_new np).store (same_new np |>.free nl)) ?_
    rw [upd_same, show ((k : Int)).toNat = k by omega, flat_repR]
theorem pu_first_row {K : PySem.W.Frag} {a : Ad} {vs : List V} {H : Hp} {Q : VK} {E : XK} (h : sp_first_row K a vs H Q E) : t_first_row K a E { nx := fun _ H' => Q .non H', rt := Q } (start N_first_row vs) H := by
  obtain ⟨b, s, rfl, h⟩ := h
  refine ⟨b, rfl, s, rfl, b, s, rfl, ChkQ.imp h fun n eb h1 h2 r => ?_⟩
  subst eb
  obtain ⟨T, ty, r⟩ := r
  refine ⟨T, ty, ?_⟩
  rcases r with r | ⟨k, rfl, hk, q⟩
  · exact .inl r
  refine .inr ⟨k, rfl, hk, ?_⟩
  change (tOp (rRepTA K) (tTup (tCons (tC (.int 1)) tNil)) (tVar 1)) _ _ _
  exact ones_of (K := K) (by omega) (fun _ _ _ q' => ⟨.int k, rfl, q'⟩) q
def downs (n k : Nat) : List Int := (List.range k).map fun (i : Nat) => (n : Int) - i
theorem rgD_downs {n k : Nat} {c : Int} (h : c = (n : Int) - k) : rgD n c = (downs n k).map V.int := by
  unfold rgD downs
  rw [show ((n : Int) - c).toNat = k by omega, List.map_map]
  rfl
theorem downs_take {n k : Nat} (h : k ≤ n) : (downs n n).take k = downs n k := by
  unfold downs
  rw [← List.map_take, List.take_range, Nat.min_eq_left h]
def sp_last_row (K : PySem.W.Frag) (a : Ad) : Sp := fun vs H Q E => ∃ b s, vs = [b, s] ∧ ChkQ K a b H E fun n => ChkS K a n s H E fun k => ∀ (l : Addr) (H' : Hp), Same H H' → H' l = some (.tup ((downs n k).map V.int)) → Q (.ref l) H'
abbrev N_last_row : List Str := ["berths", "ships"]
def t_last_row (K : PySem.W.Frag) (a : Ad) (E : XK) : TS :=
  (tSeq (tDrop (tCall (sp_p_check_ships K a) [] E (tCons (tVar 0) (tCons (tVar 1) tNil))))
    (tRet (tTupRg3 (tCons (tVar 0) (tCons (tOp rSubI (tVar 0) (tVar 1)) (tCons (tUn (rU fun i => .int (-i)) (tC (.int 1))) tNil))))))
theorem len_last_row {K : PySem.W.Frag} {a : Ad} {vs : List V} {H : Hp} {Q : VK} {E : XK} (h : sp_last_row K a vs H Q E) : vs.length = 2 := by
  obtain ⟨b, s, rfl, _⟩ := h
  rfl
theorem pu_last_row {K : PySem.W.Frag} {a : Ad} {vs : List V} {H : Hp} {Q : VK} {E : XK} (h : sp_last_row K a vs H Q E) : t_last_row K a E { nx := fun _ H' => Q .non H', rt := Q } (start N_last_row vs) H := by
  obtain ⟨b, s, rfl, h⟩ := h
  refine ⟨b, rfl, s, rfl, b, s, rfl, ChkQ.imp h fun n eb h1 h2 r => ?_⟩
  subst eb
  obtain ⟨T, ty, r⟩ := r
  refine ⟨T, ty, ?_⟩
  rcases r with r | ⟨k, rfl, hk, q⟩
  · exact .inl r
  refine .inr ⟨k, rfl, hk, .int n, rfl, .int n, rfl, .int k, rfl, n, k, rfl, rfl, 1, rfl, n, (n : Int) - k, rfl, ⟨by omega, by omega, by omega, by omega, by omega⟩, fun l nl => ?_⟩
  refine q l _ (same_new nl) ?_
  rw [upd_same, rgD_downs rfl]

/-! ### what the laws read of a script -/
def cellAt (ns : List Int) (k : Int) : Int := ns.getD k.toNat 0
theorem cut_drop (xs : List V) (k : Nat) : cutV xs (some (k : Int)) none = xs.drop k := by
  unfold cutV
  rw [HT.sIx_nat, HT.sIx_none]
  by_cases h : k ≤ xs.length
  · rw [Nat.min_eq_left h]
    exact List.take_of_length_le (by rw [List.length_drop]; omega)
  · rw [Nat.min_eq_right (by omega), Nat.sub_self, List.take_zero, List.drop_eq_nil_of_le (by omega)]
theorem cut2 (xs : List V) : cutV xs (some 2) none = xs.drop 2 := cut_drop xs 2
theorem atI_lit (xs : List V) (j : Nat) {v : V} (h : xs[j]? = some v) : atI xs (j : Int) = some v := atI_nat h
def sp_l_cell_at (K : PySem.W.Frag) : Sp := fun vs H Q _ => ∃ (s : Addr) (ns : List Int) (k : Int), vs = [.ref s, .int k] ∧ SqL K H s (ns.map V.int) ∧ 0 ≤ k ∧ Q (.int (cellAt ns k)) H
abbrev N_l_cell_at : List Str := ["_law_script", "_law_k"]
def t_l_cell_at (K : PySem.W.Frag) (a : Ad) : TS :=
  (tSeq (tIfS (tTest (tOp rLtI (tVar 1) (tCB (rLenSq K) (tCons (tVar 0) tNil)))) (tRet (tOp (rIxL K) (tVar 0) (tVar 1))) tNext)
    (tRet (tC (.int 0))))
theorem len_l_cell_at {K : PySem.W.Frag} {vs : List V} {H : Hp} {Q : VK} {E : XK} (h : sp_l_cell_at K vs H Q E) : vs.length = 2 := by
  obtain ⟨s, ns, k, rfl, _⟩ := h
  rfl
theorem pu_l_cell_at {K : PySem.W.Frag} {a : Ad} {vs : List V} {H : Hp} {Q : VK} {E : XK} (h : sp_l_cell_at K vs H Q E) : t_l_cell_at K a { nx := fun _ H' => Q .non H', rt := Q } (start N_l_cell_at vs) H := by
  obtain ⟨s, ns, k, rfl, hs, h0, q⟩ := h
  refine ⟨.int k, rfl, .ref s, rfl, s, _, rfl, .inl hs, _, _, rfl, rfl, _, rfl, ?_⟩
  by_cases h : k < ((ns.map V.int).length : Nat)
  · rw [decide_eq_true h]
    rw [List.length_map] at h
    have e : ns[k.toNat]? = some (cellAt ns k) := by
      unfold cellAt
      rw [List.getD_eq_getElem?_getD, List.getElem?_eq_getElem (by omega)]
      rfl
    refine iteT ⟨.ref s, rfl, .int k, rfl, s, _, k, _, rfl, rfl, hs, at_of (j := k.toNat) (by omega) (by rw [List.getElem?_map, e]; rfl), q⟩
  · rw [decide_eq_false h]
    rw [List.length_map] at h
    have e : cellAt ns k = 0 := by
      unfold cellAt
      rw [List.getD_eq_getElem?_getD, List.getElem?_eq_none (by omega)]
      rfl
    rw [e] at q
    exact iteF q
theorem p3 : (0 : Int) < 3 := by decide
theorem p4 : (0 : Int) < 4 := by decide
theorem d2 {n : Int} : CDiv n 2 := ⟨by decide, by decide⟩
theorem d3 {n : Int} : CDiv n 3 := ⟨by decide, by decide⟩
theorem d12 {n : Int} : CDiv n 12 := ⟨by decide, by decide⟩
theorem pick3 (c : Int) (x y z : V) : ∃ v, atI [x, y, z] (c % 3) = some v ∧ (v = x ∨ v = y ∨ v = z) := by
  have h : c % 3 = 0 ∨ c % 3 = 1 ∨ c % 3 = 2 := by omega
  rcases h with h | h | h <;> rw [h]
  · exact ⟨x, rfl, .inl rfl⟩
  · exact ⟨y, rfl, .inr (.inl rfl)⟩
  · exact ⟨z, rfl, .inr (.inr rfl)⟩
theorem pick4 (c : Int) (x y z u : V) : ∃ v, atI [x, y, z, u] (c % 4) = some v ∧ (v = x ∨ v = y ∨ v = z ∨ v = u) := by
  have h : c % 4 = 0 ∨ c % 4 = 1 ∨ c % 4 = 2 ∨ c % 4 = 3 := by omega
  rcases h with h | h | h | h <;> rw [h]
  · exact ⟨x, rfl, .inl rfl⟩
  · exact ⟨y, rfl, .inr (.inl rfl)⟩
  · exact ⟨z, rfl, .inr (.inr (.inl rfl))⟩
  · exact ⟨u, rfl, .inr (.inr (.inr rfl))⟩
/-! ### a whole number -/
def sp_l_whole (K : PySem.W.Frag) : Sp := fun vs H Q _ => ∃ (i : Int), vs = [.int i] ∧ Q (.bl true) H
abbrev N_l_whole : List Str := ["_law_found"]
def t_l_whole (K : PySem.W.Frag) (a : Ad) : TS :=
  (tRet (tAndV (tCB (rIsi K) (tCons (tVar 0) (tCons (tC (.ty "int")) tNil))) (tNotV (tCB (rIsi K) (tCons (tVar 0) (tCons (tC (.ty "bool")) tNil))))))
theorem len_l_whole {K : PySem.W.Frag} {vs : List V} {H : Hp} {Q : VK} {E : XK} (h : sp_l_whole K vs H Q E) : vs.length = 1 := by
  obtain ⟨i, rfl, _⟩ := h
  rfl
theorem kit_ii {K : PySem.W.Frag} : PySem.W.kitOne K (.type "int") (.type "int") = some true := kit_ty (by decide +kernel)
theorem kit_ib {K : PySem.W.Frag} : PySem.W.kitOne K (.type "int") (.type "bool") = some false := kit_ty (by decide +kernel)
theorem kit_ll {K : PySem.W.Frag} : PySem.W.kitOne K (.type "list") (.type "list") = some true := kit_ty (by decide +kernel)
theorem pu_l_whole {K : PySem.W.Frag} {a : Ad} {vs : List V} {H : Hp} {Q : VK} {E : XK} (h : sp_l_whole K vs H Q E) : t_l_whole K a { nx := fun _ H' => Q .non H', rt := Q } (start N_l_whole vs) H := by
  obtain ⟨i, rfl, q⟩ := h
  exact ⟨.int i, rfl, .int i, _, _, _, true, rfl, .ty _, .base (.int i), kit_ii, true, rfl, iteT ⟨.int i, rfl, .int i, _, _, _, false, rfl, .ty _, .base (.int i), kit_ib, false, rfl, q⟩⟩

/-! ### what the law counts itself -/
def sp_l_due (K : PySem.W.Frag) : Sp := fun vs H Q _ => ∃ (n k : Nat), vs = [.int n, .int k] ∧ 1 ≤ n ∧ n ≤ 400 ∧ k ≤ 400 ∧ ∀ H' : Hp, Same H H' → Q (.int (hmany n k)) H'
abbrev N_l_due : List Str := ["_law_berths", "_law_ships", "_law_many", "_law_k"]
def t_l_due (K : PySem.W.Frag) (a : Ad) : TS :=
  (tSeq (tIfS (tTest (tOp rGtI (tVar 1) (tVar 0))) (tRet (tC (.int 0))) tNext)
    (tSeq (tAsg (tC (.int 1)) (gName 2))
    (tSeq (tFor (iRng1 (tCons (tOp rSubI (tVar 1) (tC (.int 1))) tNil)) (gName 3)
    (tAsg (tOp rMulI (tVar 2) (tOp rAddI (tVar 0) (tC (.int 1)))) (gName 2)))
    (tRet (tOp rMulI (tVar 2) (tOp (rIxL K) (tLst (tCons (tC (.int 1)) (tCons (tOp rSubI (tOp rAddI (tVar 0) (tC (.int 1))) (tVar 1)) tNil))) (tCB rInt1 (tCons (tOp rGtI (tVar 1) (tC (.int 0))) tNil))))))))
theorem len_l_due {K : PySem.W.Frag} {vs : List V} {H : Hp} {Q : VK} {E : XK} (h : sp_l_due K vs H Q E) : vs.length = 2 := by
  obtain ⟨n, k, rfl, _⟩ := h
  rfl
theorem pu_l_due {K : PySem.W.Frag} {a : Ad} {vs : List V} {H : Hp} {Q : VK} {E : XK} (h : sp_l_due K vs H Q E) : t_l_due K a { nx := fun _ H' => Q .non H', rt := Q } (start N_l_due vs) H := by
  obtain ⟨n, k, rfl, h1, h2, hk, q⟩ := h
  refine ⟨.int k, rfl, .int n, rfl, _, _, rfl, rfl, _, rfl, ite2 (fun c => ?_) (fun c => ?_)⟩
  · have c : (n : Int) < k := of_decide_eq_true c
    have e : hmany n k = 0 := if_pos (by omega)
    rw [e] at q
    exact q _ (Same.refl _)
  have c : ¬ (n : Int) < k := fun z => c (decide_eq_true z)
  refine ⟨.int k, rfl, _, 1, rfl, rfl, _, rfl, by omega, by omega, ?_⟩
  have ek : ((k : Int) - 1).toNat = k - 1 := by omega
  rw [ek]
  refine for_range (fun i σ H' => (∃ y, σ = [some (.int n), some (.int k), some (.int (((n : Int) + 1) ^ i)), y]) ∧ H' = H) ⟨⟨none, ?_⟩, rfl⟩ ?_ ?_
  · rw [Int.pow_zero]
    rfl
  · rintro i σ H' hi ⟨⟨y, rfl⟩, rfl⟩
    refine ⟨_, rfl, .int n, rfl, _, 1, rfl, rfl, _, _, rfl, rfl, .inr ⟨by omega, by omega⟩, ⟨some (.int (0 + (i : Int))), ?_⟩, rfl⟩
    rw [Int.pow_succ]
    rfl
  · rintro σ H' ⟨⟨y, rfl⟩, rfl⟩
    refine ⟨_, rfl, .int n, rfl, _, 1, rfl, rfl, .int k, rfl, _, k, rfl, rfl, l1000 (by show 2 ≤ 1000; decide), fun p np => ?_⟩
    by_cases d : k = 0
    · subst d
      refine ⟨.int (0 : Nat), rfl, _, 0, rfl, rfl, .inr ⟨_, rfl, p, _, _, .int 1, rfl, rfl, sqL_of upd_same, rfl, _, 1, rfl, rfl, .inr ⟨by decide, by decide⟩, ?_⟩⟩
      have e : hmany n 0 = 1 := by
        unfold hmany
        rw [if_neg (by omega), if_pos rfl]
      rw [e] at q
      exact q _ (same_new np)
    · have dk : decide ((0 : Int) < (k : Int)) = true := decide_eq_true (by omega)
      refine ⟨.int k, rfl, _, 0, rfl, rfl, .inr ⟨_, rfl, p, _, _, .int ((n : Int) + 1 - k), rfl, rfl, sqL_of upd_same, ?_, _, (n : Int) + 1 - k, rfl, rfl, .inr ⟨by omega, by omega⟩, ?_⟩⟩
      · rw [dk]
        rfl
      · have e : hmany n k = ((n : Int) + 1) ^ (k - 1) * ((n : Int) + 1 - k) := by
          unfold hmany
          rw [if_neg (by omega), if_neg d, Int.mul_comm]
        rw [e] at q
        exact q _ (same_new np)
/-! ### by what an act is refused -/
structure RefQ (K : PySem.W.Frag) (C : Addr) (a : Ad) (q : Bool) : Prop where
  ex : PySem.W.exmOne K (.ref C) (.ref a.e_BerthError) = some true
  c : ExcC K C
  o : PySem.W.kitOne K (.ref C) (.ref a.e_NoOrder) = some false
  t : PySem.W.kitOne K (.ref C) (.ref a.e_NoTree) = some false
  w : PySem.W.kitOne K (.ref C) (.ref a.e_NoWishes) = some false
  m : PySem.W.kitOne K (.ref C) (.ref a.e_TooMany) = some false
  v : PySem.W.kitOne K (.ref C) (.type "ValueError") = some true
  k0 : PySem.W.kitOne K (.ref C) (.ref a.e_NoQuay) = some q
  k1 : PySem.W.kitOne K (.ref C) (.ref a.e_NoCount) = some (!q)
def cOf (a : Ad) (q : Bool) : Addr := if q then a.e_NoQuay else a.e_NoCount
def nmOf (q : Bool) : Str := if q then Str.ofString "NoQuay" else Str.ofString "NoCount"
def S_row (K : PySem.W.Frag) (a : Ad) : Addr → Sp → Prop := fun f sp => (f = a.f_how_many ∧ sp = sp_how_many K a) ∨ (f = a.f_first_row ∧ sp = sp_first_row K a) ∨ (f = a.f_last_row ∧ sp = sp_last_row K a)
theorem A_row {P : Program} {w : World} {K : PySem.W.Frag} {mg : Str → Option Value} {base : Heap} {CX : CXT} {k1 k2 k3 kk : Nat} {x1 x2 x3 : Str} {ps1 ps2 ps3 : List Str} {a : Ad} (g1 : Cb P w K mg base CX k1 x1 a.f_how_many ps1 (sp_how_many K a))
    (g2 : Cb P w K mg base CX k2 x2 a.f_first_row ps2 (sp_first_row K a)) (g3 : Cb P w K mg base CX k3 x3 a.f_last_row ps3 (sp_last_row K a)) (h1 : k1 ≤ kk) (h2 : k2 ≤ kk) (h3 : k3 ≤ kk) (f : Addr) (sp : Sp) (h : S_row K a f sp) : Hd P w K mg base CX kk f sp := by
  rcases h with ⟨rfl, rfl⟩ | ⟨rfl, rfl⟩ | ⟨rfl, rfl⟩
  · exact hd_of g1 h1
  · exact hd_of g2 h2
  · exact hd_of g3 h3
def sp_l_caught (K : PySem.W.Frag) (a : Ad) : Sp := fun vs H Q _ => ∃ (f : Addr) (b s : V) (sp : Sp) (q : Bool), vs = [.ref f, b, s] ∧ S_row K a f sp ∧ (∀ (Q' : VK) (E' : XK), E' (.ref (cOf a q)) none H → sp [b, s] H Q' E') ∧
  ∀ (l : Addr) (H' : Hp), H l = none → Same H H' → H' l = some (.lst [.str (nmOf q)]) → Q (.ref l) H'
abbrev N_l_caught : List Str := ["_law_act", "_law_berths", "_law_ships", "_law_caught_here", "e", "_law_kinds"]
def t_l_caught (K : PySem.W.Frag) (a : Ad) : TS :=
  (tSeq (tAsg (tC .non) (gName 3))
    (tSeq (tTryKeep K a.e_BerthError 4 3 fun W => (tDrop (tCallD 0 (S_row K a) (WE W) (tCons (tVar 1) (tCons (tVar 2) tNil)))))
    (tSeq (tAsg (tLst (tCons (tCB (rIsiE K) (tCons (tVar 3) (tCons (tC (.ref a.e_NoOrder)) tNil))) (tCons (tCB (rIsiE K) (tCons (tVar 3) (tCons (tC (.ref a.e_NoTree)) tNil))) (tCons (tCB (rIsiE K) (tCons (tVar 3) (tCons (tC (.ref a.e_NoWishes)) tNil))) tNil)))) (gName 5))
    (tSeq (tIfS (tOr (tTest (tOp (rIn K false) (tC (.bl true)) (tVar 5))) (tOr (tB (tCB (rIsiE K) (tCons (tVar 3) (tCons (tC (.ref a.e_TooMany)) tNil)))) (tNot (tB (tCB (rIsiE K) (tCons (tVar 3) (tCons (tC (.ty "ValueError")) tNil))))))) (tRet (tLst (tCons (tC (.str (Str.ofString "other"))) tNil))) tNext)
    (tRet (tOp rCat (tOp rRep (tLst (tCons (tC (.str (Str.ofString "NoQuay"))) tNil)) (tCB rInt1 (tCons (tCB (rIsiE K) (tCons (tVar 3) (tCons (tC (.ref a.e_NoQuay)) tNil))) tNil))) (tOp rRep (tLst (tCons (tC (.str (Str.ofString "NoCount"))) tNil)) (tCB rInt1 (tCons (tCB (rIsiE K) (tCons (tVar 3) (tCons (tC (.ref a.e_NoCount)) tNil))) tNil)))))))))
theorem len_l_caught {K : PySem.W.Frag} {a : Ad} {vs : List V} {H : Hp} {Q : VK} {E : XK} (h : sp_l_caught K a vs H Q E) : vs.length = 3 := by
  obtain ⟨f, b, s, sp, q, rfl, _⟩ := h
  rfl
theorem rep_b (q : Bool) : -(2 ^ 63) ≤ (if q = true then (1 : Int) else 0) ∧ (if q = true then (1 : Int) else 0) < 2 ^ 63 := by cases q <;> decide
theorem pu_l_caught {K : PySem.W.Frag} {a : Ad} (F1 : RefQ K a.e_NoQuay a true) (F0 : RefQ K a.e_NoCount a false) {vs : List V} {H : Hp} {Q : VK} {E : XK} (h : sp_l_caught K a vs H Q E) : t_l_caught K a { nx := fun _ H' => Q .non H', rt := Q } (start N_l_caught vs) H := by
  obtain ⟨f, b, s, sp, q, rfl, hS, hsp, hq⟩ := h
  have F : RefQ K (cOf a q) a q := by cases q <;> assumption
  refine ⟨f, sp, rfl, hS, b, rfl, s, rfl, hsp _ _ ⟨F.ex, fun x nx => ?_⟩⟩
  have s1 : Same H (upd H x (ExK (.ref (cOf a q)) none x)) := same_new nx
  have e1 : (upd H x (ExK (.ref (cOf a q)) none x)) x = some (ExK (.ref (cOf a q)) none x) := upd_same
  refine ⟨.ref x, rfl, .ref x, _, _, _, false, rfl, .own _, .exc e1 F.c, F.o, .ref x, rfl, .ref x, _, _, _, false, rfl, .own _, .exc e1 F.c, F.t, .ref x, rfl, .ref x, _, _, _, false, rfl, .own _, .exc e1 F.c, F.w, l1000 (by show 3 ≤ 1000; decide), fun kl nkl => ?_⟩
  have s2 := s1.store (s1.free nkl) (o := .lst [.bl false, .bl false, .bl false])
  have e2 : (upd (upd H x (ExK (.ref (cOf a q)) none x)) kl (.lst [.bl false, .bl false, .bl false])) x = some (ExK (.ref (cOf a q)) none x) := same_new nkl _ _ e1
  refine ⟨.ref kl, rfl, kl, _, rfl, .inl (sqL_of upd_same), rfl, rfl, _, rfl, ?_⟩
  have ei : inV (V.bl true) [.bl false, .bl false, .bl false] = false := rfl
  rw [if_neg Bool.false_ne_true, ei]
  refine iteF ⟨.ref x, rfl, .ref x, _, _, _, false, rfl, .own _, .exc e2 F.c, F.m, false, rfl, iteF ⟨.ref x, rfl, .ref x, _, _, _, true, rfl, .ty _, .exc e2 F.c, F.v, true, rfl, iteF ?_⟩⟩
  refine ⟨l1000 (by show 1 ≤ 1000; decide), fun p0 np0 => ?_⟩
  have s3 := s2.store (s2.free np0) (o := .lst [.str (Str.ofString "NoQuay")])
  have e3 := same_new np0 (o := .lst [.str (Str.ofString "NoQuay")]) _ _ e2
  refine ⟨.ref x, rfl, .ref x, _, _, _, q, rfl, .own _, .exc e3 F.c, F.k0, .inr ⟨q, rfl, p0, _, _, rfl, rfl, upd_same, (rep_b q).1, (rep_b q).2, l1000 (by cases q <;> decide), fun p1 np1 => ?_⟩⟩
  have s4 := s3.store (s3.free np1) (o := .lst (List.replicate (if q = true then (1 : Int) else 0).toNat [V.str (Str.ofString "NoQuay")]).flatten)
  have e4 := same_new np1 (o := .lst (List.replicate (if q = true then (1 : Int) else 0).toNat [V.str (Str.ofString "NoQuay")]).flatten) _ _ e3
  refine ⟨l1000 (by show 1 ≤ 1000; decide), fun p2 np2 => ?_⟩
  have s5 := s4.store (s4.free np2) (o := .lst [.str (Str.ofString "NoCount")])
  have e5 := same_new np2 (o := .lst [.str (Str.ofString "NoCount")]) _ _ e4
  refine ⟨.ref x, rfl, .ref x, _, _, _, !q, rfl, .own _, .exc e5 F.c, F.k1, .inr ⟨!q, rfl, p2, _, _, rfl, rfl, upd_same, (rep_b (!q)).1, (rep_b (!q)).2, l1000 (by cases q <;> decide), fun p3 np3 => ?_⟩⟩
  have s6 := s5.store (s5.free np3) (o := .lst (List.replicate (if (!q) = true then (1 : Int) else 0).toNat [V.str (Str.ofString "NoCount")]).flatten)
  refine ⟨p1, p3, _, _, rfl, rfl, same_new np3 _ _ (same_new np2 _ _ upd_same), upd_same, l1000 (by cases q <;> decide), fun l nl => ?_⟩
  refine hq l _ (s6.free nl) (s6.store (s6.free nl)) ?_
  rw [upd_same]
  cases q <;> rfl

/-! ### the law: how many, the first, the last -/
theorem pick2 (c : Int) (x y : V) : ∃ v, atI [x, y] (c % 2) = some v ∧ (v = x ∨ v = y) := by
  have h : c % 2 = 0 ∨ c % 2 = 1 := by omega
  rcases h with h | h <;> rw [h]
  · exact ⟨x, rfl, .inl rfl⟩
  · exact ⟨y, rfl, .inr rfl⟩
theorem no_many {K : PySem.W.Frag} {a : Ad} {n : Nat} {s : V} {T : String} {H : Hp} (n1 : 1 ≤ n) (n2 : n ≤ 400) (ty : TyB K H s T) (h : inB 0 400 s = false) (Q : VK) (E : XK) (e : E (.ref a.e_NoCount) none H) : sp_how_many K a [.int n, s] H Q E := ⟨_, _, rfl, ChkQ.ok n1 n2 ⟨_, ty, .inl ⟨h, e⟩⟩⟩
theorem no_first {K : PySem.W.Frag} {a : Ad} {n : Nat} {s : V} {T : String} {H : Hp} (n1 : 1 ≤ n) (n2 : n ≤ 400) (ty : TyB K H s T) (h : inB 0 n s = false) (Q : VK) (E : XK) (e : E (.ref a.e_NoCount) none H) : sp_first_row K a [.int n, s] H Q E := ⟨_, _, rfl, ChkQ.ok n1 n2 ⟨_, ty, .inl ⟨h, e⟩⟩⟩
theorem no_last {K : PySem.W.Frag} {a : Ad} {n : Nat} {s : V} {T : String} {H : Hp} (n1 : 1 ≤ n) (n2 : n ≤ 400) (ty : TyB K H s T) (h : inB 0 n s = false) (Q : VK) (E : XK) (e : E (.ref a.e_NoCount) none H) : sp_last_row K a [.int n, s] H Q E := ⟨_, _, rfl, ChkQ.ok n1 n2 ⟨_, ty, .inl ⟨h, e⟩⟩⟩
theorem no_quay {K : PySem.W.Frag} {a : Ad} {f : Addr} {sp : Sp} {b s : V} {T : String} {H : Hp} (hS : S_row K a f sp) (ty : TyB K H b T) (h : inB 1 400 b = false) (Q : VK) (E : XK) (e : E (.ref a.e_NoQuay) none H) : sp [b, s] H Q E := by
  rcases hS with ⟨rfl, rfl⟩ | ⟨rfl, rfl⟩ | ⟨rfl, rfl⟩ <;> exact ⟨_, _, rfl, ⟨_, ty, .inl ⟨h, e⟩⟩⟩
theorem inB_hi {n k : Nat} (h : n < k) : inB 0 n (.int k) = false := by
  simp [inB]
  omega
theorem lc_caught {K : PySem.W.Frag} {a : Ad} {σ : L2.St} {H : Hp} {Q : VK} {n k : Nat} (n1 : 1 ≤ n) (n2 : n ≤ 400) (hnk : n < k) (h2 : ∀ v : V, ((wipe σ [5]).set 5 (some v))[2]? = some (some (.int n))) (h3 : ∀ v : V, ((wipe σ [5]).set 5 (some v))[3]? = some (some (.int k)))
    (h5 : ∀ v : V, ((wipe σ [5]).set 5 (some v))[5]? = some (some v)) (hw : ∀ v : V, wipe ((wipe σ [5]).set 5 (some v)) [5] = wipe σ [5])
    (q : ∀ (D p1 p2 : Addr) (H' : Hp), Same H H' → H' D = some (.lst [.ref p1, .ref p2]) → H' p1 = some (.lst [.str (Str.ofString "NoCount")]) → H' p2 = some (.lst [.str (Str.ofString "NoCount")]) → Q (.ref D) H') :
    (tLc (iList K (tLst (tCons (tC (.ref a.f_first_row)) (tCons (tC (.ref a.f_last_row)) tNil)))) (gName 5) tYes (tCall (sp_l_caught K a) [] E0 (tCons (tVar 5) (tCons (tVar 2) (tCons (tVar 3) tNil)))) [5]) σ H Q := by
  refine ⟨l1000 (by show 2 ≤ 1000; decide), fun la nla => ⟨la, rfl, ⟨_, sqL_of upd_same⟩, fun D nD => ?_⟩⟩
  have s0 := same_new nla (o := .lst [.ref a.f_first_row, .ref a.f_last_row])
  have e0 : (upd H la (.lst [.ref a.f_first_row, .ref a.f_last_row])) la = some (.lst [.ref a.f_first_row, .ref a.f_last_row]) := upd_same
  generalize (upd H la (.lst [.ref a.f_first_row, .ref a.f_last_row])) = H1 at *
  refine lc_it (walk_list (K := K) (a := la) (xs := [.ref a.f_first_row, .ref a.f_last_row])) (fun i H' => Same H1 H' ∧ ∃ ls : List Addr, ls.length = i ∧ H' D = some (.lst (ls.map V.ref)) ∧ ∀ l ∈ ls, H' l = some (.lst [.str (Str.ofString "NoCount")]))
    ⟨same_new nD, [], rfl, upd_same, fun l hl => by cases hl⟩ (fun i H' _ h => h.1.seq (sqL_of e0)) ?_ ?_
  · rintro i x H30 H4 hi ⟨s3, ls, hl, eD, el⟩ hy
    obtain ⟨rfl, hx⟩ := hy
    have hx2 : ∃ f sp, x = .ref f ∧ S_row K a f sp ∧ ∀ (Q' : VK) (E' : XK), E' (.ref (cOf a false)) none H4 → sp [.int n, .int k] H4 Q' E' := by
      match i, hx with
      | 0, hx => cases hx; exact ⟨_, _, rfl, .inr (.inl ⟨rfl, rfl⟩), fun Q' E' e => no_first n1 n2 (.int _) (inB_hi hnk) Q' E' e⟩
      | 1, hx => cases hx; exact ⟨_, _, rfl, .inr (.inr ⟨rfl, rfl⟩), fun Q' E' e => no_last n1 n2 (.int _) (inB_hi hnk) Q' E' e⟩
      | i + 2, hx => cases hx
    obtain ⟨f, sp, rfl, hS, hsp⟩ := hx2
    refine ⟨hw _, iteT (B := Same H1 H4 ∧ ∃ ls : List Addr, ls.length = i + 1 ∧ H4 D = some (.lst (ls.map V.ref)) ∧ ∀ l ∈ ls, H4 l = some (.lst [.str (Str.ofString "NoCount")])) ⟨.ref f, h5 _, .int n, h2 _, .int k, h3 _, f, _, _, sp, false, rfl, hS, hsp, fun l H5 nl s5 e5 => ?_⟩⟩
    have eD5 := s5 _ _ eD
    have ne : l ≠ D := fun z => by rw [z, eD] at nl; cases nl
    refine ⟨_, eD5, ?_, (s3.trans s5).store nD, ls ++ [l], by rw [List.length_append, hl]; rfl, by rw [upd_same, List.map_append]; rfl, fun l' hl' => ?_⟩
    · rw [List.length_map, hl]
      have hi : i < 2 := hi
      exact small1000 (by omega)
    · rcases List.mem_append.mp hl' with z | z
      · have e6 := s5 _ _ (el l' z)
        have ne' : l' ≠ D := fun z2 => by
          have := el l' z
          rw [z2, eD] at this
          cases ls with
          | nil => cases z
          | cons b r =>
            injection this with this
            injection this with this
            cases this
        rw [upd_ne ne']
        exact e6
      · rw [List.mem_singleton.mp z, upd_ne ne]
        exact e5
  · rintro H3 ⟨s3, ls, hl, eD, el⟩
    match ls, hl with
    | [p1, p2], _ => exact q D p1 p2 H3 (s0.trans s3) eD (el p1 (by simp)) (el p2 (by simp))
theorem dp_tup {K : PySem.W.Frag} {H : Hp} {p : Addr} {ns : List Int} (h : SqT K H p (ns.map V.int)) : Dp K H (.ref p) (PySem.W.Datum.toD (PySem.W.Tup.mk ns)) := .tup h (dp_ints ns)
theorem dp_strs {K : PySem.W.Frag} {H : Hp} {p : Addr} {x : Str} (h : SqL K H p [V.str x]) : Dp K H (.ref p) (PySem.W.Datum.toD [x]) := .lst h (.cons (.str x) .nil)
theorem lc_caughtI {K : PySem.W.Frag} {a : Ad} {σ : L2.St} {H : Hp} {A B : TS} {D : Ends} {n k : Nat} (n1 : 1 ≤ n) (n2 : n ≤ 400) (hnk : n < k) (h2 : ∀ v : V, ((wipe σ [5]).set 5 (some v))[2]? = some (some (.int n))) (h3 : ∀ v : V, ((wipe σ [5]).set 5 (some v))[3]? = some (some (.int k)))
    (h5 : ∀ v : V, ((wipe σ [5]).set 5 (some v))[5]? = some (some v)) (hw : ∀ v : V, wipe ((wipe σ [5]).set 5 (some v)) [5] = wipe σ [5]) (q : ∀ H' : Hp, Same H H' → B D σ H') :
    tIfS (tTest (tOp (rNeT K) (tLc (iList K (tLst (tCons (tC (.ref a.f_first_row)) (tCons (tC (.ref a.f_last_row)) tNil)))) (gName 5) tYes (tCall (sp_l_caught K a) [] E0 (tCons (tVar 5) (tCons (tVar 2) (tCons (tVar 3) tNil)))) [5]) (tLst (tCons (tLst (tCons (tC (.str (Str.ofString "NoCount"))) tNil)) (tCons (tLst (tCons (tC (.str (Str.ofString "NoCount"))) tNil)) tNil))))) A B D σ H := by
  change (tLc (iList K (tLst (tCons (tC (.ref a.f_first_row)) (tCons (tC (.ref a.f_last_row)) tNil)))) (gName 5) tYes (tCall (sp_l_caught K a) [] E0 (tCons (tVar 5) (tCons (tVar 2) (tCons (tVar 3) tNil)))) [5]) σ H
    (fun x H1 => (tLst (tCons (tLst (tCons (tC (.str (Str.ofString "NoCount"))) tNil)) (tCons (tLst (tCons (tC (.str (Str.ofString "NoCount"))) tNil)) tNil))) σ H1 fun y H2 => rNeT K x y H2 fun v H3 => ∃ k, v = .bl k ∧ (if k = true then A D σ H3 else B D σ H3))
  refine lc_caught n1 n2 hnk h2 h3 h5 hw fun D p1 p2 H5 s5 eD ep1 ep2 => ?_
  refine ⟨l1000 (by show 1 ≤ 1000; decide), fun q1 nq1 => ⟨l1000 (by show 1 ≤ 1000; decide), fun q2 nq2 => ⟨l1000 (by show 2 ≤ 1000; decide), fun q3 nq3 => ?_⟩⟩⟩
  have t1 := same_new nq1 (o := .lst [.str (Str.ofString "NoCount")])
  have t2 := same_new nq2 (o := .lst [.str (Str.ofString "NoCount")])
  have t3 := same_new nq3 (o := .lst [.ref q1, .ref q2])
  have t23 := t2.trans t3
  have t13 := t1.trans t23
  refine neT_of (a := [[Str.ofString "NoCount"], [Str.ofString "NoCount"]]) (b := [[Str.ofString "NoCount"], [Str.ofString "NoCount"]]) (.lst (sqL_of (t13 _ _ eD)) (.cons (dp_strs (sqL_of (t13 _ _ ep1))) (.cons (dp_strs (sqL_of (t13 _ _ ep2))) .nil)))
    (.lst (sqL_of upd_same) (.cons (dp_strs (sqL_of (t23 _ _ upd_same))) (.cons (dp_strs (sqL_of (t3 _ _ upd_same))) .nil))) (by decide) ⟨_, rfl, ?_⟩
  rw [decide_eq_false (fun z => z rfl)]
  exact iteF (q _ (s5.trans t13))
theorem cut_takeR (xs : List V) (k : Nat) : cutV xs none (some (k : Int)) = xs.take k := by
  unfold cutV
  rw [HT.sIx_nat, HT.sIx_none, List.drop_zero, Nat.sub_zero]
  by_cases h : k ≤ xs.length
  · rw [Nat.min_eq_left h]
  · rw [Nat.min_eq_right (by omega), List.take_of_length_le (Nat.le_refl _), List.take_of_length_le (by omega)]
def sp_law (K : PySem.W.Frag) : Sp := fun vs H Q _ => ∃ (s : Addr) (ns : List Int), vs = [.ref s] ∧ SqL K H s (ns.map V.int) ∧ ns.length ≤ 63 ∧ ∀ H', Q (.bl true) H'
abbrev N_law : List Str := ["_law_script", "_law_cell", "_law_berths", "_law_ships", "_law_found", "_law_act", "_law_odd"]
def t_law (K : PySem.W.Frag) (a : Ad) : TS :=
  (tSeq (tFor (iList K (tOp (rCatS K) (tLst (tCons (tC (.int 5)) tNil)) (tVar 0))) (gName 1)
    (tSeq (tAsg (tOp (rIxL K) (tLst (tCons (tOp rAddI (tC (.int 1)) (tOp rModI (tVar 1) (tC (.int 9)))) (tCons (tOp rAddI (tC (.int 1)) (tOp rModI (tOp rDivI (tVar 1) (tC (.int 9))) (tC (.int 400)))) tNil))) (tOp rModI (tOp rDivI (tVar 1) (tC (.int 3600))) (tC (.int 2)))) (gName 2))
    (tSeq (tAsg (tOp (rIxL K) (tLst (tCons (tOp rModI (tOp rDivI (tVar 1) (tC (.int 7200))) (tOp rAddI (tVar 2) (tC (.int 1)))) (tCons (tOp rModI (tOp rDivI (tVar 1) (tC (.int 7200))) (tC (.int 401))) (tCons (tVar 2) tNil)))) (tOp rModI (tOp rDivI (tVar 1) (tC (.int 3))) (tC (.int 3)))) (gName 3))
    (tSeq (tAsg (tCall (sp_how_many K a) [] E0 (tCons (tVar 2) (tCons (tVar 3) tNil))) (gName 4))
    (tSeq (tIfS (tOr (tNot (tB (tCall (sp_l_whole K) [] E0 (tCons (tVar 4) tNil)))) (tTest (tOp rNe (tVar 4) (tCall (sp_l_due K) [] E0 (tCons (tVar 2) (tCons (tVar 3) tNil)))))) (tRet (tC (.bl false))) tNext)
    (tIfS (tTest (tOp rGtI (tVar 3) (tVar 2))) (tIfS (tTest (tOp (rNeT K) (tLc (iList K (tLst (tCons (tC (.ref a.f_first_row)) (tCons (tC (.ref a.f_last_row)) tNil)))) (gName 5) tYes (tCall (sp_l_caught K a) [] E0 (tCons (tVar 5) (tCons (tVar 2) (tCons (tVar 3) tNil)))) [5]) (tLst (tCons (tLst (tCons (tC (.str (Str.ofString "NoCount"))) tNil)) (tCons (tLst (tCons (tC (.str (Str.ofString "NoCount"))) tNil)) tNil))))) (tRet (tC (.bl false))) tNext) (tIfS (tTest (tOp (rNeT K) (tCall (sp_first_row K a) [] E0 (tCons (tVar 2) (tCons (tVar 3) tNil))) (tOp (rRepTA K) (tTup (tCons (tC (.int 1)) tNil)) (tVar 3)))) (tRet (tC (.bl false))) (tIfS (tTest (tOp (rNeT K) (tCall (sp_last_row K a) [] E0 (tCons (tVar 2) (tCons (tVar 3) tNil))) (tCB (rTupleOf K) (tCons (tSl (rSlL K) (tLstRg3 (tCons (tVar 2) (tCons (tC (.int 0)) (tCons (tUn (rU fun i => .int (-i)) (tC (.int 1))) tNil)))) tNoPart (tPart (tVar 3))) tNil)))) (tRet (tC (.bl false))) tNext))))))))
    (tSeq (tFor (iList K (tLst (tCons (tC (.ref a.f_how_many)) (tCons (tC (.ref a.f_first_row)) (tCons (tC (.ref a.f_last_row)) tNil))))) (gName 5)
    (tSeq (tFor (iList K (tLst (tCons (tC (.int 0)) (tCons (tC (.int 401)) (tCons (tUn (rU fun i => .int (-i)) (tC (.int 1))) (tCons (tC .non) (tCons (tC (.bl true)) (tCons (tC (.str (Str.ofString "5"))) (tCons (tLst (tCons (tC (.int 3)) tNil)) (tCons (tOp rPowI (tC (.int 10)) (tC (.int 40))) tNil)))))))))) (gName 6)
    (tIfS (tOr (tTest (tOp (rNeT K) (tCall (sp_l_caught K a) [] E0 (tCons (tVar 5) (tCons (tVar 6) (tCons (tC (.int 1)) tNil)))) (tLst (tCons (tC (.str (Str.ofString "NoQuay"))) tNil)))) (tTest (tOp (rNeT K) (tCall (sp_l_caught K a) [] E0 (tCons (tVar 5) (tCons (tVar 6) (tCons (tUn (rU fun i => .int (-i)) (tC (.int 1))) tNil)))) (tLst (tCons (tC (.str (Str.ofString "NoQuay"))) tNil))))) (tRet (tC (.bl false))) tNext))
    (tFor (iList K (tLst (tCons (tUn (rU fun i => .int (-i)) (tC (.int 1))) (tCons (tC (.int 401)) (tCons (tC .non) (tCons (tC (.bl false)) (tCons (tC (.str (Str.ofString "0"))) (tCons (tTup (tCons (tC (.int 1)) tNil)) (tCons (tOp rPowI (tC (.int 10)) (tC (.int 40))) tNil))))))))) (gName 6)
    (tIfS (tTest (tOp (rNeT K) (tCall (sp_l_caught K a) [] E0 (tCons (tVar 5) (tCons (tC (.int 5)) (tCons (tVar 6) tNil)))) (tLst (tCons (tC (.str (Str.ofString "NoCount"))) tNil)))) (tRet (tC (.bl false))) tNext))))
    (tRet (tAndV (tOp rEq (tCall (sp_how_many K a) [] E0 (tCons (tC (.int 400)) (tCons (tC (.int 0)) tNil))) (tC (.int 1))) (tAndV (tOp rEq (tCall (sp_how_many K a) [] E0 (tCons (tC (.int 1)) (tCons (tC (.int 1)) tNil))) (tC (.int 1))) (tOp rEq (tCall (sp_how_many K a) [] E0 (tCons (tC (.int 3)) (tCons (tC (.int 3)) tNil))) (tC (.int 16))))))))
theorem len_law {K : PySem.W.Frag} {vs : List V} {H : Hp} {Q : VK} {E : XK} (h : sp_law K vs H Q E) : vs.length = 1 := by
  obtain ⟨s, ns, rfl, _⟩ := h
  rfl
theorem pu_law {K : PySem.W.Frag} {a : Ad} {vs : List V} {H : Hp} {Q : VK} {E : XK} (h : sp_law K vs H Q E) : t_law K a { nx := fun _ H' => Q .non H', rt := Q } (start N_law vs) H := by
  obtain ⟨s, ns, rfl, hs, hl, q⟩ := h
  have cp : CPow 10 40 := ⟨by decide, by decide, by decide⟩
  refine ⟨l1000 (by show 1 ≤ 1000; decide), fun l0 nl0 => ⟨.ref s, rfl, l0, s, _, _, rfl, rfl, sqL_of upd_same, (same_new nl0).seq hs, l1000 (by rw [List.length_map]; show 1 + _ ≤ _; omega), fun l1 nl1 => ?_⟩⟩
  have e1 : (upd (upd H l0 (.lst [.int 5])) l1 (.lst ([V.int 5] ++ ns.map V.int))) l1 = some (.lst (((5 : Int) :: ns).map V.int)) := upd_same
  refine ⟨l1, rfl, ⟨_, sqL_of e1⟩, ?_⟩
  generalize (upd (upd H l0 (.lst [.int 5])) l1 (.lst ([V.int 5] ++ ns.map V.int))) = H1 at *
  refine for_list (K := K) (a := l1) (xs := ((5 : Int) :: ns).map V.int) (fun i σ H' => (∃ y1 y2 y3 y4, σ = [some (.ref s), y1, y2, y3, y4, none, none]) ∧ Same H1 H') ⟨⟨none, none, none, none, rfl⟩, Same.refl _⟩ (fun i σ H' _ z => z.2.seq (sqL_of e1)) ?_ ?_
  · rintro i x σ H' hx ⟨⟨y1, y2, y3, y4, rfl⟩, s1⟩
    obtain ⟨c, _, rfl⟩ := item_of hx
    -- berths
    refine ⟨.int c, rfl, c, 9, rfl, rfl, (by decide : (0 : Int) < 9), 1, _, rfl, rfl, .int c, rfl, c, 9, rfl, rfl, ⟨by decide, by decide⟩, _, 400, rfl, rfl, (by decide : (0 : Int) < 400), 1, _, rfl, rfl, l1000 (by show 2 ≤ 1000; decide), fun p np => ?_⟩
    refine ⟨.int c, rfl, c, 3600, rfl, rfl, ⟨by decide, by decide⟩, _, 2, rfl, rfl, (by decide : (0 : Int) < 2), ?_⟩
    obtain ⟨v, e, hv⟩ := pick2 (c / 3600) (.int (1 + c % 9)) (.int (1 + c / 9 % 400))
    obtain ⟨n, rfl, n1, n2⟩ : ∃ n : Nat, v = .int n ∧ 1 ≤ n ∧ n ≤ 400 := by
      rcases hv with h | h <;> subst h
      · exact ⟨(1 + c % 9).toNat, by rw [show (((1 + c % 9).toNat : Nat) : Int) = 1 + c % 9 by omega], by omega, by omega⟩
      · exact ⟨(1 + c / 9 % 400).toNat, by rw [show (((1 + c / 9 % 400).toNat : Nat) : Int) = 1 + c / 9 % 400 by omega], by omega, by omega⟩
    refine ⟨p, _, _, .int n, rfl, rfl, sqL_of upd_same, e, ?_⟩
    have s2 := s1.trans (same_new np (o := .lst [.int (1 + c % 9), .int (1 + c / 9 % 400)]))
    -- ships
    refine ⟨.int c, rfl, c, 7200, rfl, rfl, ⟨by decide, by decide⟩, .int n, rfl, n, 1, rfl, rfl, _, _, rfl, rfl, (by show (0 : Int) < (n : Int) + 1; omega), .int c, rfl, c, 7200, rfl, rfl, ⟨by decide, by decide⟩, _, 401, rfl, rfl, (by decide : (0 : Int) < 401), .int n, rfl, l1000 (by show 3 ≤ 1000; decide), fun p2 np2 => ?_⟩
    refine ⟨.int c, rfl, c, 3, rfl, rfl, d3, _, 3, rfl, rfl, p3, ?_⟩
    obtain ⟨v, e, hv⟩ := pick3 (c / 3) (.int (c / 7200 % ((n : Int) + 1))) (.int (c / 7200 % 401)) (.int n)
    obtain ⟨k, rfl, k4⟩ : ∃ k : Nat, v = .int k ∧ k ≤ 400 := by
      have b1 := Int.emod_nonneg (c / 7200) (show (n : Int) + 1 ≠ 0 by omega)
      have b2 := Int.emod_lt_of_pos (c / 7200) (show (0 : Int) < (n : Int) + 1 by omega)
      rcases hv with h | h | h <;> subst h
      · exact ⟨(c / 7200 % ((n : Int) + 1)).toNat, by rw [show (((c / 7200 % ((n : Int) + 1)).toNat : Nat) : Int) = c / 7200 % ((n : Int) + 1) by omega], by omega⟩
      · exact ⟨(c / 7200 % 401).toNat, by rw [show (((c / 7200 % 401).toNat : Nat) : Int) = c / 7200 % 401 by omega], by omega⟩
      · exact ⟨n, rfl, n2⟩
    refine ⟨p2, _, _, .int k, rfl, rfl, sqL_of upd_same, e, ?_⟩
    have s3 := s2.trans (same_new np2 (o := .lst [.int (c / 7200 % ((n : Int) + 1)), .int (c / 7200 % 401), .int n]))
    -- how many
    refine ⟨.int n, rfl, .int k, rfl, _, _, rfl, ChkQ.ok n1 n2 (ChkS.ok k4 ?_)⟩
    refine ⟨_, rfl, _, rfl, true, rfl, iteF ⟨_, rfl, .int n, rfl, .int k, rfl, n, k, rfl, n1, n2, k4, fun H4 s4 => ⟨rfl, _, rfl, ?_⟩⟩⟩
    rw [decide_eq_true rfl]
    refine iteF ?_
    have s14 := s3.trans s4
    refine ⟨.int k, rfl, .int n, rfl, _, _, rfl, rfl, _, rfl, ite2 (fun d => ?_) (fun d => ?_)⟩
    · have d : (n : Int) < k := of_decide_eq_true d
      exact lc_caughtI (n := n) (k := k) n1 n2 (by omega) (fun _ => rfl) (fun _ => rfl) (fun _ => rfl) (fun _ => rfl) fun H5 s5 => ⟨⟨_, _, _, _, rfl⟩, s14.trans s5⟩
    · have d : ¬ (n : Int) < k := fun z => d (decide_eq_true z)
      have hkn : k ≤ n := by omega
      refine ⟨.int n, rfl, .int k, rfl, _, _, rfl, ChkQ.ok n1 n2 (ChkS.ok hkn fun f1 H5 s5 ef1 => ?_)⟩
      change (tOp (rRepTA K) (tTup (tCons (tC (.int 1)) tNil)) (tVar 3)) _ _ _
      refine ones_of (K := K) (k := k) k4 (fun _ _ _ q' => ⟨.int k, rfl, q'⟩) fun f2 H6 s6 ef2 => ?_
      refine neT_of (dp_tup (sqT_of (s6 _ _ ef1))) (dp_tup (sqT_of ef2)) (by decide) ⟨_, rfl, ?_⟩
      rw [decide_eq_false (fun z => z rfl)]
      refine iteF ⟨.int n, rfl, .int k, rfl, _, _, rfl, ChkQ.ok n1 n2 (ChkS.ok hkn fun f3 H7 s7 ef3 => ?_)⟩
      refine ⟨.int n, rfl, 1, rfl, n, 0, rfl, ⟨by omega, by omega, by omega, by omega, by omega⟩, fun lr nlr => ⟨.int k, rfl, k, rfl, lr, _, rfl, sqL_of upd_same, fun ls nls => ⟨ls, _, rfl, .inl ⟨sqL_of upd_same, fun lt nlt => ?_⟩⟩⟩⟩
      have ec : cutV (rgD n 0) none (some (k : Int)) = (downs n k).map V.int := by rw [cut_takeR, rgD_downs (n := n) (k := n) (by omega), ← List.map_take, downs_take hkn]
      rw [ec] at nlt ⊢
      have s8 := ((same_new nlr (o := .lst (rgD n 0))).trans (same_new nls (o := .lst ((downs n k).map V.int)))).trans (same_new nlt (o := .tup ((downs n k).map V.int)))
      refine neT_of (dp_tup (sqT_of (s8 _ _ ef3))) (dp_tup (sqT_of upd_same)) (by decide) ⟨_, rfl, ?_⟩
      rw [decide_eq_false (fun z => z rfl)]
      exact iteF ⟨⟨_, _, _, _, rfl⟩, (((s14.trans s5).trans s6).trans s7).trans s8⟩
  · rintro σ H' ⟨⟨y1, y2, y3, y4, rfl⟩, s1⟩
    refine ⟨l1000 (by show 3 ≤ 1000; decide), fun la nla => ?_⟩
    have e2 : (upd H' la (.lst [.ref a.f_how_many, .ref a.f_first_row, .ref a.f_last_row])) la = some (.lst [.ref a.f_how_many, .ref a.f_first_row, .ref a.f_last_row]) := upd_same
    refine ⟨la, rfl, ⟨_, sqL_of e2⟩, ?_⟩
    generalize (upd H' la (.lst [.ref a.f_how_many, .ref a.f_first_row, .ref a.f_last_row])) = H2 at *
    refine for_list (K := K) (a := la) (xs := [.ref a.f_how_many, .ref a.f_first_row, .ref a.f_last_row]) (fun i σ H' => (∃ y5 y6, σ = [some (.ref s), y1, y2, y3, y4, y5, y6]) ∧ Same H2 H') ⟨⟨none, none, rfl⟩, Same.refl _⟩ (fun i σ H' _ z => z.2.seq (sqL_of e2)) ?_ ?_
    · rintro i x σ H3 hx ⟨⟨y5, y6, rfl⟩, s3⟩
      have hx2 : ∃ f sp, x = .ref f ∧ S_row K a f sp ∧ ∀ (s : V) (T : String) (H : Hp) (Q' : VK) (E' : XK), TyB K H s T → inB 0 400 s = false → inB 0 5 s = false → E' (.ref (cOf a false)) none H → sp [.int 5, s] H Q' E' := by
        match i, hx with
        | 0, hx => cases hx; exact ⟨_, _, rfl, .inl ⟨rfl, rfl⟩, fun s T H Q' E' ty h1 h2 e => no_many (n := 5) (by decide) (by decide) ty h1 Q' E' e⟩
        | 1, hx => cases hx; exact ⟨_, _, rfl, .inr (.inl ⟨rfl, rfl⟩), fun s T H Q' E' ty h1 h2 e => no_first (n := 5) (by decide) (by decide) ty h2 Q' E' e⟩
        | 2, hx => cases hx; exact ⟨_, _, rfl, .inr (.inr ⟨rfl, rfl⟩), fun s T H Q' E' ty h1 h2 e => no_last (n := 5) (by decide) (by decide) ty h2 Q' E' e⟩
        | i + 3, hx => cases hx
      obtain ⟨f, sp, rfl, hS, hno⟩ := hx2
      -- what is no quay
      refine ⟨1, rfl, l1000 (by show 1 ≤ 1000; decide), fun l3 nl3 => ⟨10, 40, rfl, rfl, cp, l1000 (by show 8 ≤ 1000; decide), fun lo nlo => ?_⟩⟩
      have t3 := same_new nl3 (o := .lst [.int 3])
      have e4 : (upd (upd H3 l3 (.lst [.int 3])) lo (.lst [.int 0, .int 401, .int (-1), .non, .bl true, .str (Str.ofString "5"), .ref l3, .int (10 ^ (40 : Int).toNat)])) lo = some (.lst [.int 0, .int 401, .int (-1), .non, .bl true, .str (Str.ofString "5"), .ref l3, .int (10 ^ (40 : Int).toNat)]) := upd_same
      have e3 := same_new nlo (o := .lst [.int 0, .int 401, .int (-1), .non, .bl true, .str (Str.ofString "5"), .ref l3, .int (10 ^ (40 : Int).toNat)]) l3 _ upd_same
      have s4 : Same H2 (upd (upd H3 l3 (.lst [.int 3])) lo (.lst [.int 0, .int 401, .int (-1), .non, .bl true, .str (Str.ofString "5"), .ref l3, .int (10 ^ (40 : Int).toNat)])) := (s3.trans t3).trans (same_new nlo)
      refine ⟨lo, rfl, ⟨_, sqL_of e4⟩, ?_⟩
      generalize (upd (upd H3 l3 (.lst [.int 3])) lo (.lst [.int 0, .int 401, .int (-1), .non, .bl true, .str (Str.ofString "5"), .ref l3, .int (10 ^ (40 : Int).toNat)])) = H4 at *
      refine for_list (K := K) (a := lo) (xs := [.int 0, .int 401, .int (-1), .non, .bl true, .str (Str.ofString "5"), .ref l3, .int (10 ^ (40 : Int).toNat)]) (fun i σ H' => (∃ y6, σ = [some (.ref s), y1, y2, y3, y4, some (.ref f), y6]) ∧ Same H4 H') ⟨⟨_, rfl⟩, Same.refl _⟩ (fun i σ H' _ z => z.2.seq (sqL_of e4)) ?_ ?_
      · rintro j x σ H5 hx ⟨⟨y6, rfl⟩, s5⟩
        have ho : ∀ H6, Same H5 H6 → (∃ T, TyB K H6 x T) ∧ inB 1 400 x = false := fun H6 s6 => by
          match j, hx with
          | 0, hx => cases hx; exact ⟨⟨_, .int _⟩, rfl⟩
          | 1, hx => cases hx; exact ⟨⟨_, .int _⟩, rfl⟩
          | 2, hx => cases hx; exact ⟨⟨_, .int _⟩, rfl⟩
          | 3, hx => cases hx; exact ⟨⟨_, .non⟩, rfl⟩
          | 4, hx => cases hx; exact ⟨⟨_, .bl _⟩, rfl⟩
          | 5, hx => cases hx; exact ⟨⟨_, .str _⟩, rfl⟩
          | 6, hx => cases hx; exact ⟨⟨_, .lst ((s5.trans s6).seq (sqL_of e3))⟩, rfl⟩
          | 7, hx => cases hx; exact ⟨⟨_, .int _⟩, by decide⟩
          | i + 8, hx => cases hx
        obtain ⟨⟨T, ty⟩, hi⟩ := ho H5 (Same.refl _)
        refine ⟨.ref f, rfl, x, rfl, f, x, .int 1, sp, true, rfl, hS, fun Q' E' e => no_quay hS ty hi Q' E' e, fun l H6 nl s6 el => ⟨l1000 (by show 1 ≤ 1000; decide), fun l7 nl7 => ?_⟩⟩
        refine neT_of (a := [Str.ofString "NoQuay"]) (b := [Str.ofString "NoQuay"]) (dp_strs (sqL_of (same_new nl7 _ _ el))) (dp_strs (sqL_of upd_same)) (by decide) ⟨_, rfl, ?_⟩
        rw [decide_eq_false (fun z => z rfl)]
        have s57 := s6.trans (same_new nl7 (o := .lst [.str (Str.ofString "NoQuay")]))
        obtain ⟨⟨T, ty⟩, _⟩ := ho _ s57
        refine iteF ⟨.ref f, rfl, x, rfl, 1, rfl, f, x, .int (-1), sp, true, rfl, hS, fun Q' E' e => no_quay hS ty hi Q' E' e, fun l H8 nl s8 el => ⟨l1000 (by show 1 ≤ 1000; decide), fun l9 nl9 => ?_⟩⟩
        refine neT_of (a := [Str.ofString "NoQuay"]) (b := [Str.ofString "NoQuay"]) (dp_strs (sqL_of (same_new nl9 _ _ el))) (dp_strs (sqL_of upd_same)) (by decide) ⟨_, rfl, ?_⟩
        rw [decide_eq_false (fun z => z rfl)]
        exact iteF ⟨⟨_, rfl⟩, ((s5.trans s57).trans s8).trans (same_new nl9)⟩
      rintro σ H5 ⟨⟨y6, rfl⟩, s5⟩
      -- what is no number of ships
      refine ⟨1, rfl, l1000 (by show 1 ≤ 1000; decide), fun t6 nt6 => ⟨10, 40, rfl, rfl, cp, l1000 (by show 7 ≤ 1000; decide), fun lp nlp => ?_⟩⟩
      have e6 : (upd (upd H5 t6 (.tup [.int 1])) lp (.lst [.int (-1), .int 401, .non, .bl false, .str (Str.ofString "0"), .ref t6, .int (10 ^ (40 : Int).toNat)])) lp = some (.lst [.int (-1), .int 401, .non, .bl false, .str (Str.ofString "0"), .ref t6, .int (10 ^ (40 : Int).toNat)]) := upd_same
      have e7 := same_new nlp (o := .lst [.int (-1), .int 401, .non, .bl false, .str (Str.ofString "0"), .ref t6, .int (10 ^ (40 : Int).toNat)]) t6 _ upd_same
      have s6 : Same H2 (upd (upd H5 t6 (.tup [.int 1])) lp (.lst [.int (-1), .int 401, .non, .bl false, .str (Str.ofString "0"), .ref t6, .int (10 ^ (40 : Int).toNat)])) := ((s4.trans s5).trans (same_new nt6)).trans (same_new nlp)
      refine ⟨lp, rfl, ⟨_, sqL_of e6⟩, ?_⟩
      generalize (upd (upd H5 t6 (.tup [.int 1])) lp (.lst [.int (-1), .int 401, .non, .bl false, .str (Str.ofString "0"), .ref t6, .int (10 ^ (40 : Int).toNat)])) = H6 at *
      refine for_list (K := K) (a := lp) (xs := [.int (-1), .int 401, .non, .bl false, .str (Str.ofString "0"), .ref t6, .int (10 ^ (40 : Int).toNat)]) (fun i σ H' => (∃ y6, σ = [some (.ref s), y1, y2, y3, y4, some (.ref f), y6]) ∧ Same H6 H') ⟨⟨_, rfl⟩, Same.refl _⟩ (fun i σ H' _ z => z.2.seq (sqL_of e6)) ?_ ?_
      · rintro j x σ H7 hx ⟨⟨y6, rfl⟩, s7⟩
        obtain ⟨⟨T, ty⟩, hi, hj⟩ : (∃ T, TyB K H7 x T) ∧ inB 0 400 x = false ∧ inB 0 5 x = false := by
          match j, hx with
          | 0, hx => cases hx; exact ⟨⟨_, .int _⟩, rfl, rfl⟩
          | 1, hx => cases hx; exact ⟨⟨_, .int _⟩, rfl, rfl⟩
          | 2, hx => cases hx; exact ⟨⟨_, .non⟩, rfl, rfl⟩
          | 3, hx => cases hx; exact ⟨⟨_, .bl _⟩, rfl, rfl⟩
          | 4, hx => cases hx; exact ⟨⟨_, .str _⟩, rfl, rfl⟩
          | 5, hx => cases hx; exact ⟨⟨_, .tup (s7.seqT (sqT_of e7))⟩, rfl, rfl⟩
          | 6, hx => cases hx; exact ⟨⟨_, .int _⟩, by decide, by decide⟩
          | i + 7, hx => cases hx
        refine ⟨.ref f, rfl, x, rfl, f, .int 5, x, sp, false, rfl, hS, fun Q' E' e => hno x T H7 Q' E' ty hi hj e, fun l H8 nl s8 el => ⟨l1000 (by show 1 ≤ 1000; decide), fun l9 nl9 => ?_⟩⟩
        refine neT_of (a := [Str.ofString "NoCount"]) (b := [Str.ofString "NoCount"]) (dp_strs (sqL_of (same_new nl9 _ _ el))) (dp_strs (sqL_of upd_same)) (by decide) ⟨_, rfl, ?_⟩
        rw [decide_eq_false (fun z => z rfl)]
        exact iteF ⟨⟨_, rfl⟩, (s7.trans s8).trans (same_new nl9)⟩
      · rintro σ H7 ⟨⟨y6, rfl⟩, s7⟩
        exact ⟨⟨_, _, rfl⟩, s6.trans s7⟩
    · rintro σ H3 ⟨⟨y5, y6, rfl⟩, s3⟩
      have a1 : decide (V.int (hmany 400 0) = V.int 1) = true := by decide
      have a2 : decide (V.int (hmany 1 1) = V.int 1) = true := by decide
      have a3 : decide (V.int (hmany 3 3) = V.int 16) = true := by decide
      refine ⟨_, _, rfl, ChkQ.ok (n := 400) (by decide) (by decide) (ChkS.ok (k := 0) (by decide) ⟨rfl, _, rfl, ?_⟩)⟩
      rw [a1]
      refine iteT ⟨_, _, rfl, ChkQ.ok (n := 1) (by decide) (by decide) (ChkS.ok (k := 1) (by decide) ⟨rfl, _, rfl, ?_⟩)⟩
      rw [a2]
      refine iteT ⟨_, _, rfl, ChkQ.ok (n := 3) (by decide) (by decide) (ChkS.ok (k := 3) (by decide) ⟨rfl, ?_⟩)⟩
      rw [a3]
      exact q _

section
variable {P : Program} {w : World} {K : PySem.W.Frag} {mg : Str → Option Value} {base : Heap} {a : Ad}
def topS (i : Nat) : Stmt := PySem.Challenge.pw_berthrow_k06_how_many.main.body.getD i (.Pass ⟨0, 0, 0, 0⟩)
structure Txt (K : PySem.W.Frag) (mg : Str → Option Value) (a : Ad) : Prop where
  t_0 : True
  b_ValueError : mg "ValueError" = none
  b_bool : mg "bool" = none
  b_int : mg "int" = none
  b_isinstance : mg "isinstance" = none
  b_len : mg "len" = none
  b_list : mg "list" = none
  b_range : mg "range" = none
  b_tuple : mg "tuple" = none
  b_type : mg "type" = none
  c_MOST : ∃ u, mg "MOST" = some u ∧ RelV (.int 400) u
  e_BerthError : ExF K mg "BerthError" a.e_BerthError
  e_NoCount : ExF K mg "NoCount" a.e_NoCount
  e_NoOrder : ExF K mg "NoOrder" a.e_NoOrder
  e_NoQuay : ExF K mg "NoQuay" a.e_NoQuay
  e_NoTree : ExF K mg "NoTree" a.e_NoTree
  e_NoWishes : ExF K mg "NoWishes" a.e_NoWishes
  e_TooMany : ExF K mg "TooMany" a.e_TooMany
  g_BerthError : ExG K a.e_BerthError
  g_NoQuay : ExG K a.e_NoQuay
  g_NoWishes : ExG K a.e_NoWishes
  g_TooMany : ExG K a.e_TooMany
  g_NoCount : ExG K a.e_NoCount
  g_NoTree : ExG K a.e_NoTree
  g_NoOrder : ExG K a.e_NoOrder
  s_NoQuay_BerthError : PySem.W.subIn K (.ref a.e_NoQuay) (.ref a.e_BerthError) = some true
  s_NoQuay_NoOrder : PySem.W.subIn K (.ref a.e_NoQuay) (.ref a.e_NoOrder) = some false
  s_NoQuay_NoTree : PySem.W.subIn K (.ref a.e_NoQuay) (.ref a.e_NoTree) = some false
  s_NoQuay_NoWishes : PySem.W.subIn K (.ref a.e_NoQuay) (.ref a.e_NoWishes) = some false
  s_NoQuay_TooMany : PySem.W.subIn K (.ref a.e_NoQuay) (.ref a.e_TooMany) = some false
  s_NoQuay_NoQuay : PySem.W.subIn K (.ref a.e_NoQuay) (.ref a.e_NoQuay) = some true
  s_NoQuay_NoCount : PySem.W.subIn K (.ref a.e_NoQuay) (.ref a.e_NoCount) = some false
  s_NoCount_BerthError : PySem.W.subIn K (.ref a.e_NoCount) (.ref a.e_BerthError) = some true
  s_NoCount_NoOrder : PySem.W.subIn K (.ref a.e_NoCount) (.ref a.e_NoOrder) = some false
  s_NoCount_NoTree : PySem.W.subIn K (.ref a.e_NoCount) (.ref a.e_NoTree) = some false
  s_NoCount_NoWishes : PySem.W.subIn K (.ref a.e_NoCount) (.ref a.e_NoWishes) = some false
  s_NoCount_TooMany : PySem.W.subIn K (.ref a.e_NoCount) (.ref a.e_TooMany) = some false
  s_NoCount_NoQuay : PySem.W.subIn K (.ref a.e_NoCount) (.ref a.e_NoQuay) = some false
  s_NoCount_NoCount : PySem.W.subIn K (.ref a.e_NoCount) (.ref a.e_NoCount) = some true
  s_NoQuay_V : PySem.W.subIn K (.ref a.e_NoQuay) (.type "ValueError") = some true
  s_NoCount_V : PySem.W.subIn K (.ref a.e_NoCount) (.type "ValueError") = some true
abbrev s_is_number : Stmt := topS 10
theorem sc_is_number : FnScope N_is_number ["thing"] (defScope s_is_number) := ⟨rfl, rfl, rfl, by decide +kernel, rfl, by decide +kernel, by decide +kernel⟩
theorem ok_is_number (D : DF K mg "is_number" s_is_number ["thing"] a.f_is_number) (T : Txt K mg a) : Cb P w K mg base CX0 1 "is_number" a.f_is_number ["thing"] (sp_is_number K a) := by
  obtain ⟨⟨fd, F, bb⟩, gg⟩ := D
  refine ⟨⟨fd, F.ok sc_is_number (fun vs H Q E h => len_is_number h) (fun cdv A outer s H vs Q E hr h => ⟨t_is_number K a, ?_, pu_is_number h⟩), bb⟩, gg, F.kp⟩
  exact (pss_one (ps_ret (pe_cmpR op_isTyB (pe_callTy call_type1 (by rfl) T.b_type (by decide +kernel) (pa_cons (pv 0) pa_nil)) (pe_bltn (by rfl) T.b_int (by decide +kernel) rfl) (nomark _))))

abbrev s_is_from_to : Stmt := topS 11
theorem sc_is_from_to : FnScope N_is_from_to ["low", "high", "thing"] (defScope s_is_from_to) := ⟨rfl, rfl, rfl, by decide +kernel, rfl, by decide +kernel, by decide +kernel⟩
theorem ok_is_from_to (D : DF K mg "is_from_to" s_is_from_to ["low", "high", "thing"] a.f_is_from_to) (T : Txt K mg a) (g_is_number : Cb P w K mg base CX0 1 "is_number" a.f_is_number ["thing"] (sp_is_number K a)) : Cb P w K mg base CX0 2 "is_from_to" a.f_is_from_to ["low", "high", "thing"] (sp_is_from_to K a) := by
  obtain ⟨⟨fd, F, bb⟩, gg⟩ := D
  refine ⟨⟨fd, F.ok sc_is_from_to (fun vs H Q E h => len_is_from_to h) (fun cdv A outer s H vs Q E hr h => ⟨t_is_from_to K a, ?_, pu_is_from_to h⟩), bb⟩, gg, F.kp⟩
  exact (pss_one (ps_ret (pe_and (pe_cb g_is_number (hr.mono (by decide)) (by rfl) pass0 (pa_cons (pv 2) pa_nil)) (pe_one (pe_chain op_le op_le (pv 0) (pv 2) (pv 1))))))

abbrev s_check_quay : Stmt := topS 12
theorem sc_check_quay : FnScope N_check_quay ["berths"] (defScope s_check_quay) := ⟨rfl, rfl, rfl, by decide +kernel, rfl, by decide +kernel, by decide +kernel⟩
theorem ok_check_quay (D : DF K mg "check_quay" s_check_quay ["berths"] a.f_check_quay) (T : Txt K mg a) (g_is_from_to : Cb P w K mg base CX0 2 "is_from_to" a.f_is_from_to ["low", "high", "thing"] (sp_is_from_to K a)) : Cb P w K mg base (L2.CX P w) 3 "check_quay" a.f_check_quay ["berths"] (sp_check_quay K a) := by
  obtain ⟨⟨fd, F, bb⟩, gg⟩ := D
  refine ⟨⟨fd, F.okX sc_check_quay (fun vs H Q E h => len_check_quay h) (fun cdv A outer s H vs Q E hr h => ⟨t_check_quay K a E, ?_, pu_check_quay h⟩), bb⟩, gg, F.kp⟩
  exact (pss_one (ps_if (pt_not (pt_val (pe_cb g_is_from_to (hr.mono (by decide)) (by rfl) pass0 (pa_cons pe_int (pa_cons (pe_gl (by rfl) T.c_MOST) (pa_cons (pv 0) pa_nil)))))) (pss_one (ps_raise rfl (takes_of rfl rfl rfl rfl) (pmk_own PySem.F.excBase_ValueError T.e_NoQuay.x T.e_NoQuay.g T.e_NoQuay.k (raises_own T.e_NoQuay.b T.e_NoQuay.t) (by exact rfl)))) pss_nil))

abbrev s_how_many : Stmt := topS 14
theorem sc_how_many : FnScope N_how_many ["berths", "ships"] (defScope s_how_many) := ⟨rfl, rfl, rfl, by decide +kernel, rfl, by decide +kernel, by decide +kernel⟩
theorem ok_how_many (D : DF K mg "how_many" s_how_many ["berths", "ships"] a.f_how_many) (T : Txt K mg a) (g_is_from_to : Cb P w K mg base CX0 2 "is_from_to" a.f_is_from_to ["low", "high", "thing"] (sp_is_from_to K a)) (g_check_quay : Cb P w K mg base (L2.CX P w) 3 "check_quay" a.f_check_quay ["berths"] (sp_check_quay K a)) : Cb P w K mg base (L2.CX P w) 4 "how_many" a.f_how_many ["berths", "ships"] (sp_how_many K a) := by
  obtain ⟨⟨fd, F, bb⟩, gg⟩ := D
  refine ⟨⟨fd, F.okX sc_how_many (fun vs H Q E h => len_how_many h) (fun cdv A outer s H vs Q E hr h => ⟨t_how_many K a E, ?_, pu_how_many h⟩), bb⟩, gg, F.kp⟩
  exact (pss_cons (ps_expr (pe_cb g_check_quay (hr.mono (by decide)) (by rfl) (passes_call (takes_of rfl rfl rfl rfl) (fun _ _ _ _ h => h)) (pa_cons (pv 0) pa_nil)))
    (pss_cons (ps_if (pt_not (pt_val (pe_cb g_is_from_to (hr.mono (by decide)) (by rfl) pass0 (pa_cons pe_int (pa_cons (pe_gl (by rfl) T.c_MOST) (pa_cons (pv 1) pa_nil)))))) (pss_one (ps_raise rfl (takes_of rfl rfl rfl rfl) (pmk_own PySem.F.excBase_ValueError T.e_NoCount.x T.e_NoCount.g T.e_NoCount.k (raises_own T.e_NoCount.b T.e_NoCount.t) (by exact rfl)))) pss_nil)
    (pss_cons (ps_if (pt_cmpR op_gt (pv 1) (pv 0) (nomark _)) (pss_one (ps_ret pe_int)) pss_nil)
    (pss_cons (ps_if (pt_cmpR op_eq (pv 1) pe_int (nomark _)) (pss_one (ps_ret pe_int)) pss_nil)
    (pss_cons (ps_set (i := 2) sc_how_many.nd rfl (by first | exact Or.inl rfl | exact Or.inr rfl) (pe_op op_sub (pe_op op_add (pv 0) pe_int) (pv 1)))
    (pss_cons (ps_for (passes_of rfl) rfl (pi_range1 (by rfl) T.b_range (pa_cons (pe_op op_sub (pv 1) pe_int) pa_nil)) (pg_name (i := 3) sc_how_many.nd rfl (by first | exact Or.inl rfl | exact Or.inr rfl))
    (pss_one (ps_set (i := 2) sc_how_many.nd rfl (by first | exact Or.inl rfl | exact Or.inr rfl) (pe_op op_mul (pv 2) (pe_op op_add (pv 0) pe_int)))))
    (pss_one (ps_ret (pv 2)))))))))

abbrev s_p_check_ships : Stmt := topS 17
theorem sc_p_check_ships : FnScope N_p_check_ships ["berths", "ships"] (defScope s_p_check_ships) := ⟨rfl, rfl, rfl, by decide +kernel, rfl, by decide +kernel, by decide +kernel⟩
theorem ok_p_check_ships (D : DF K mg "_check_ships" s_p_check_ships ["berths", "ships"] a.f_p_check_ships) (T : Txt K mg a) (g_is_from_to : Cb P w K mg base CX0 2 "is_from_to" a.f_is_from_to ["low", "high", "thing"] (sp_is_from_to K a)) (g_check_quay : Cb P w K mg base (L2.CX P w) 3 "check_quay" a.f_check_quay ["berths"] (sp_check_quay K a)) : Cb P w K mg base (L2.CX P w) 4 "_check_ships" a.f_p_check_ships ["berths", "ships"] (sp_p_check_ships K a) := by
  obtain ⟨⟨fd, F, bb⟩, gg⟩ := D
  refine ⟨⟨fd, F.okX sc_p_check_ships (fun vs H Q E h => len_p_check_ships h) (fun cdv A outer s H vs Q E hr h => ⟨t_p_check_ships K a E, ?_, pu_p_check_ships h⟩), bb⟩, gg, F.kp⟩
  exact (pss_cons (ps_expr (pe_cb g_check_quay (hr.mono (by decide)) (by rfl) (passes_call (takes_of rfl rfl rfl rfl) (fun _ _ _ _ h => h)) (pa_cons (pv 0) pa_nil)))
    (pss_one (ps_if (pt_not (pt_val (pe_cb g_is_from_to (hr.mono (by decide)) (by rfl) pass0 (pa_cons pe_int (pa_cons (pv 0) (pa_cons (pv 1) pa_nil)))))) (pss_one (ps_raise rfl (takes_of rfl rfl rfl rfl) (pmk_own PySem.F.excBase_ValueError T.e_NoCount.x T.e_NoCount.g T.e_NoCount.k (raises_own T.e_NoCount.b T.e_NoCount.t) (by exact rfl)))) pss_nil)))

abbrev s_first_row : Stmt := topS 15
theorem sc_first_row : FnScope N_first_row ["berths", "ships"] (defScope s_first_row) := ⟨rfl, rfl, rfl, by decide +kernel, rfl, by decide +kernel, by decide +kernel⟩
theorem ok_first_row (D : DF K mg "first_row" s_first_row ["berths", "ships"] a.f_first_row) (T : Txt K mg a) (g_p_check_ships : Cb P w K mg base (L2.CX P w) 4 "_check_ships" a.f_p_check_ships ["berths", "ships"] (sp_p_check_ships K a)) : Cb P w K mg base (L2.CX P w) 5 "first_row" a.f_first_row ["berths", "ships"] (sp_first_row K a) := by
  obtain ⟨⟨fd, F, bb⟩, gg⟩ := D
  refine ⟨⟨fd, F.okX sc_first_row (fun vs H Q E h => len_first_row h) (fun cdv A outer s H vs Q E hr h => ⟨t_first_row K a E, ?_, pu_first_row h⟩), bb⟩, gg, F.kp⟩
  exact (pss_cons (ps_expr (pe_cb g_p_check_ships (hr.mono (by decide)) (by rfl) (passes_call (takes_of rfl rfl rfl rfl) (fun _ _ _ _ h => h)) (pa_cons (pv 0) (pa_cons (pv 1) pa_nil))))
    (pss_one (ps_ret (pe_op op_repTA (pe_tup (pa_cons pe_int pa_nil)) (pv 1)))))

abbrev s_last_row : Stmt := topS 16
theorem sc_last_row : FnScope N_last_row ["berths", "ships"] (defScope s_last_row) := ⟨rfl, rfl, rfl, by decide +kernel, rfl, by decide +kernel, by decide +kernel⟩
theorem ok_last_row (D : DF K mg "last_row" s_last_row ["berths", "ships"] a.f_last_row) (T : Txt K mg a) (g_p_check_ships : Cb P w K mg base (L2.CX P w) 4 "_check_ships" a.f_p_check_ships ["berths", "ships"] (sp_p_check_ships K a)) : Cb P w K mg base (L2.CX P w) 5 "last_row" a.f_last_row ["berths", "ships"] (sp_last_row K a) := by
  obtain ⟨⟨fd, F, bb⟩, gg⟩ := D
  refine ⟨⟨fd, F.okX sc_last_row (fun vs H Q E h => len_last_row h) (fun cdv A outer s H vs Q E hr h => ⟨t_last_row K a E, ?_, pu_last_row h⟩), bb⟩, gg, F.kp⟩
  exact (pss_cons (ps_expr (pe_cb g_p_check_ships (hr.mono (by decide)) (by rfl) (passes_call (takes_of rfl rfl rfl rfl) (fun _ _ _ _ h => h)) (pa_cons (pv 0) (pa_cons (pv 1) pa_nil))))
    (pss_one (ps_ret (pe_tupRg3 rfl (by rfl) T.b_tuple (by rfl) T.b_range (pa_cons (pv 0) (pa_cons (pe_op op_sub (pv 0) (pv 1)) (pa_cons (pe_un un_neg pe_int) pa_nil)))))))

abbrev s_l_cell_at : Stmt := topS 19
theorem sc_l_cell_at : FnScope N_l_cell_at ["_law_script", "_law_k"] (defScope s_l_cell_at) := ⟨rfl, rfl, rfl, by decide +kernel, rfl, by decide +kernel, by decide +kernel⟩
theorem ok_l_cell_at (D : DF K mg "_law_cell_at" s_l_cell_at ["_law_script", "_law_k"] a.f_l_cell_at) (T : Txt K mg a) : Cb P w K mg base CX0 1 "_law_cell_at" a.f_l_cell_at ["_law_script", "_law_k"] (sp_l_cell_at K) := by
  obtain ⟨⟨fd, F, bb⟩, gg⟩ := D
  refine ⟨⟨fd, F.ok sc_l_cell_at (fun vs H Q E h => len_l_cell_at h) (fun cdv A outer s H vs Q E hr h => ⟨t_l_cell_at K a, ?_, pu_l_cell_at h⟩), bb⟩, gg, F.kp⟩
  exact (pss_cons (ps_if (pt_cmpR op_lt (pv 1) (pe_callB call_len_seq (by rfl) T.b_len (by decide +kernel) (pa_cons (pv 0) pa_nil)) (nomark _)) (pss_one (ps_ret (pe_ix ix_list (pv 0) (pv 1) (fun _ _ => rfl)))) pss_nil)
    (pss_one (ps_ret pe_int)))

abbrev s_l_whole : Stmt := topS 20
theorem sc_l_whole : FnScope N_l_whole ["_law_found"] (defScope s_l_whole) := ⟨rfl, rfl, rfl, by decide +kernel, rfl, by decide +kernel, by decide +kernel⟩
theorem ok_l_whole (D : DF K mg "_law_whole" s_l_whole ["_law_found"] a.f_l_whole) (T : Txt K mg a) : Cb P w K mg base CX0 1 "_law_whole" a.f_l_whole ["_law_found"] (sp_l_whole K) := by
  obtain ⟨⟨fd, F, bb⟩, gg⟩ := D
  refine ⟨⟨fd, F.ok sc_l_whole (fun vs H Q E h => len_l_whole h) (fun cdv A outer s H vs Q E hr h => ⟨t_l_whole K a, ?_, pu_l_whole h⟩), bb⟩, gg, F.kp⟩
  exact (pss_one (ps_ret (pe_and (pe_callB call_isi (by rfl) T.b_isinstance (by decide +kernel) (pa_cons (pv 0) (pa_cons (pe_bltn (by rfl) T.b_int (by decide +kernel) rfl) pa_nil))) (pe_one (pe_not (pe_callB call_isi (by rfl) T.b_isinstance (by decide +kernel) (pa_cons (pv 0) (pa_cons (pe_bltn (by rfl) T.b_bool (by decide +kernel) rfl) pa_nil))))))))

abbrev s_l_due : Stmt := topS 21
theorem sc_l_due : FnScope N_l_due ["_law_berths", "_law_ships"] (defScope s_l_due) := ⟨rfl, rfl, rfl, by decide +kernel, rfl, by decide +kernel, by decide +kernel⟩
theorem ok_l_due (D : DF K mg "_law_due" s_l_due ["_law_berths", "_law_ships"] a.f_l_due) (T : Txt K mg a) : Cb P w K mg base CX0 1 "_law_due" a.f_l_due ["_law_berths", "_law_ships"] (sp_l_due K) := by
  obtain ⟨⟨fd, F, bb⟩, gg⟩ := D
  refine ⟨⟨fd, F.ok sc_l_due (fun vs H Q E h => len_l_due h) (fun cdv A outer s H vs Q E hr h => ⟨t_l_due K a, ?_, pu_l_due h⟩), bb⟩, gg, F.kp⟩
  exact (pss_cons (ps_if (pt_cmpR op_gt (pv 1) (pv 0) (nomark _)) (pss_one (ps_ret pe_int)) pss_nil)
    (pss_cons (ps_set (i := 2) sc_l_due.nd rfl (by first | exact Or.inl rfl | exact Or.inr rfl) pe_int)
    (pss_cons (ps_for PassesOwn.never rfl (pi_range1 (by rfl) T.b_range (pa_cons (pe_op op_sub (pv 1) pe_int) pa_nil)) (pg_name (i := 3) sc_l_due.nd rfl (by first | exact Or.inl rfl | exact Or.inr rfl))
    (pss_one (ps_set (i := 2) sc_l_due.nd rfl (by first | exact Or.inl rfl | exact Or.inr rfl) (pe_op op_mul (pv 2) (pe_op op_add (pv 0) pe_int)))))
    (pss_one (ps_ret (pe_op op_mul (pv 2) (pe_ix ix_list (pe_lst (pa_cons pe_int (pa_cons (pe_op op_sub (pe_op op_add (pv 0) pe_int) (pv 1)) pa_nil))) (pe_callTy call_int1 (by rfl) T.b_int (by decide +kernel) (pa_cons (pe_cmpR op_gt (pv 1) pe_int (nomark _)) pa_nil)) (fun _ _ => rfl))))))))

abbrev s_l_caught : Stmt := topS 22
theorem sc_l_caught : FnScope N_l_caught ["_law_act", "_law_berths", "_law_ships"] (defScope s_l_caught) := ⟨rfl, rfl, rfl, by decide +kernel, rfl, by decide +kernel, by decide +kernel⟩
theorem ok_l_caught (D : DF K mg "_law_caught" s_l_caught ["_law_act", "_law_berths", "_law_ships"] a.f_l_caught) (T : Txt K mg a) (g_how_many : Cb P w K mg base (L2.CX P w) 4 "how_many" a.f_how_many ["berths", "ships"] (sp_how_many K a)) (g_first_row : Cb P w K mg base (L2.CX P w) 5 "first_row" a.f_first_row ["berths", "ships"] (sp_first_row K a)) (g_last_row : Cb P w K mg base (L2.CX P w) 5 "last_row" a.f_last_row ["berths", "ships"] (sp_last_row K a)) : Cb P w K mg base CX0 6 "_law_caught" a.f_l_caught ["_law_act", "_law_berths", "_law_ships"] (sp_l_caught K a) := by
  obtain ⟨⟨fd, F, bb⟩, gg⟩ := D
  refine ⟨⟨fd, F.ok sc_l_caught (fun vs H Q E h => len_l_caught h) (fun cdv A outer s H vs Q E hr h => ⟨t_l_caught K a, ?_, pu_l_caught ⟨exm_of T.g_BerthError T.s_NoQuay_BerthError, T.g_NoQuay.c, kit_ref T.g_NoOrder T.s_NoQuay_NoOrder, kit_ref T.g_NoTree T.s_NoQuay_NoTree, kit_ref T.g_NoWishes T.s_NoQuay_NoWishes, kit_ref T.g_TooMany T.s_NoQuay_TooMany, kit_typ (by decide +kernel) T.s_NoQuay_V, kit_ref T.g_NoQuay T.s_NoQuay_NoQuay, kit_ref T.g_NoCount T.s_NoQuay_NoCount⟩ ⟨exm_of T.g_BerthError T.s_NoCount_BerthError, T.g_NoCount.c, kit_ref T.g_NoOrder T.s_NoCount_NoOrder, kit_ref T.g_NoTree T.s_NoCount_NoTree, kit_ref T.g_NoWishes T.s_NoCount_NoWishes, kit_ref T.g_TooMany T.s_NoCount_TooMany, kit_typ (by decide +kernel) T.s_NoCount_V, kit_ref T.g_NoQuay T.s_NoCount_NoQuay, kit_ref T.g_NoCount T.s_NoCount_NoCount⟩ h⟩), bb⟩, gg, F.kp⟩
  exact (pss_cons (ps_set (i := 3) sc_l_caught.nd rfl (by first | exact Or.inl rfl | exact Or.inr rfl) pe_non)
    (pss_cons (ps_try_keep (i := 4) (j := 3) (tb := fun W => (tDrop (tCallD 0 (S_row K a) (WE W) (tCons (tVar 1) (tCons (tVar 2) tNil))))) rfl rfl rfl sc_l_caught.nd rfl rfl ⟨rfl, by decide, .inl T.e_BerthError.g⟩ (fun W pn xe tk _ => (pss_one (ps_expr (pe_callD (kk := 5) (i := 0) (A_row g_how_many g_first_row g_last_row (by decide) (by decide) (by decide)) (hr.mono (by decide)) (fun s => passAt tk s) (pa_cons (pv 1) (pa_cons (pv 2) pa_nil)))))) (fun _ _ _ _ _ _ _ => pss_one (ps_set (i := 3) sc_l_caught.nd rfl (.inl rfl) (pv 4))))
    (pss_cons (ps_set (i := 5) sc_l_caught.nd rfl (by first | exact Or.inl rfl | exact Or.inr rfl) (pe_lst (pa_cons (pe_callB call_isiE (by rfl) T.b_isinstance (by decide +kernel) (pa_cons (pv 3) (pa_cons (pe_glob (by rfl) T.e_NoOrder.g rfl) pa_nil))) (pa_cons (pe_callB call_isiE (by rfl) T.b_isinstance (by decide +kernel) (pa_cons (pv 3) (pa_cons (pe_glob (by rfl) T.e_NoTree.g rfl) pa_nil))) (pa_cons (pe_callB call_isiE (by rfl) T.b_isinstance (by decide +kernel) (pa_cons (pv 3) (pa_cons (pe_glob (by rfl) T.e_NoWishes.g rfl) pa_nil))) pa_nil)))))
    (pss_cons (ps_if (PW.pt (pw_or (pt_cmpR op_in_seq pe_bl (pv 5) (by rfl)) (pw_or (pt_val (pe_callB call_isiE (by rfl) T.b_isinstance (by decide +kernel) (pa_cons (pv 3) (pa_cons (pe_glob (by rfl) T.e_TooMany.g rfl) pa_nil)))) (pw_or1 (pt_not (pt_val (pe_callB call_isiE (by rfl) T.b_isinstance (by decide +kernel) (pa_cons (pv 3) (pa_cons (pe_bltn (by rfl) T.b_ValueError (by decide +kernel) rfl) pa_nil))))))))) (pss_one (ps_ret (pe_lst (pa_cons pe_str pa_nil)))) pss_nil)
    (pss_one (ps_ret (pe_op op_cat (pe_op op_rep (pe_lst (pa_cons pe_str pa_nil)) (pe_callTy call_int1 (by rfl) T.b_int (by decide +kernel) (pa_cons (pe_callB call_isiE (by rfl) T.b_isinstance (by decide +kernel) (pa_cons (pv 3) (pa_cons (pe_glob (by rfl) T.e_NoQuay.g rfl) pa_nil))) pa_nil))) (pe_op op_rep (pe_lst (pa_cons pe_str pa_nil)) (pe_callTy call_int1 (by rfl) T.b_int (by decide +kernel) (pa_cons (pe_callB call_isiE (by rfl) T.b_isinstance (by decide +kernel) (pa_cons (pv 3) (pa_cons (pe_glob (by rfl) T.e_NoCount.g rfl) pa_nil))) pa_nil))))))))))

abbrev s_law : Stmt := topS 23
theorem sc_law : FnScope N_law ["_law_script"] (defScope s_law) := ⟨rfl, rfl, rfl, by decide +kernel, rfl, by decide +kernel, by decide +kernel⟩
theorem ok_law {f : Addr} {fd : FuncData} (F : Fun K "law" "law" s_law f fd) (T : Txt K mg a) (g_how_many : Cb P w K mg base (L2.CX P w) 4 "how_many" a.f_how_many ["berths", "ships"] (sp_how_many K a)) (g_first_row : Cb P w K mg base (L2.CX P w) 5 "first_row" a.f_first_row ["berths", "ships"] (sp_first_row K a)) (g_last_row : Cb P w K mg base (L2.CX P w) 5 "last_row" a.f_last_row ["berths", "ships"] (sp_last_row K a)) (g_l_whole : Cb P w K mg base CX0 1 "_law_whole" a.f_l_whole ["_law_found"] (sp_l_whole K)) (g_l_due : Cb P w K mg base CX0 1 "_law_due" a.f_l_due ["_law_berths", "_law_ships"] (sp_l_due K)) (g_l_caught : Cb P w K mg base CX0 6 "_law_caught" a.f_l_caught ["_law_act", "_law_berths", "_law_ships"] (sp_l_caught K a)) : FnOk P w K mg base CX0 7 f fd ["_law_script"] (sp_law K) := by
  refine F.ok sc_law (fun vs H Q E h => len_law h) (fun cdv A outer s H vs Q E hr h => ⟨t_law K a, ?_, pu_law h⟩)
  exact (pss_cons (ps_for PassesOwn.never rfl (pi_list (pe_op op_catS (pe_lst (pa_cons pe_int pa_nil)) (pv 0))) (pg_name (i := 1) sc_law.nd rfl (by first | exact Or.inl rfl | exact Or.inr rfl))
    (pss_cons (ps_set (i := 2) sc_law.nd rfl (by first | exact Or.inl rfl | exact Or.inr rfl) (pe_ix ix_list (pe_lst (pa_cons (pe_op op_add pe_int (pe_op op_mod (pv 1) pe_int)) (pa_cons (pe_op op_add pe_int (pe_op op_mod (pe_op op_fdiv (pv 1) pe_int) pe_int)) pa_nil))) (pe_op op_mod (pe_op op_fdiv (pv 1) pe_int) pe_int) (fun _ _ => rfl)))
    (pss_cons (ps_set (i := 3) sc_law.nd rfl (by first | exact Or.inl rfl | exact Or.inr rfl) (pe_ix ix_list (pe_lst (pa_cons (pe_op op_mod (pe_op op_fdiv (pv 1) pe_int) (pe_op op_add (pv 2) pe_int)) (pa_cons (pe_op op_mod (pe_op op_fdiv (pv 1) pe_int) pe_int) (pa_cons (pv 2) pa_nil)))) (pe_op op_mod (pe_op op_fdiv (pv 1) pe_int) pe_int) (fun _ _ => rfl)))
    (pss_cons (ps_set (i := 4) sc_law.nd rfl (by first | exact Or.inl rfl | exact Or.inr rfl) (pe_cb g_how_many (hr.mono (by decide)) (by rfl) passL (pa_cons (pv 2) (pa_cons (pv 3) pa_nil))))
    (pss_cons (ps_if (PW.pt (pw_or (pt_not (pt_val (pe_cb g_l_whole (hr.mono (by decide)) (by rfl) pass0 (pa_cons (pv 4) pa_nil)))) (pw_or1 (pt_cmpR op_ne (pv 4) (pe_cb g_l_due (hr.mono (by decide)) (by rfl) pass0 (pa_cons (pv 2) (pa_cons (pv 3) pa_nil))) (nomark _))))) (pss_one (ps_ret pe_bl)) pss_nil)
    (pss_one (ps_if (pt_cmpR op_gt (pv 3) (pv 2) (nomark _)) (pss_one (ps_if (pt_cmpR (op_neT hr.units) (pe_lc (own := [("_law_act", 5)]) rfl sc_law.nd (pi_list (pe_lst (pa_cons (pe_glob (by rfl) g_first_row.g rfl) (pa_cons (pe_glob (by rfl) g_last_row.g rfl) pa_nil)))) (blkOk_by (N := N_law) (sc := defScope s_law) (by decide +kernel)) (fun _ _ _ _ _ => (pg_name (i := 5) sc_law.nd rfl (by first | exact Or.inl rfl | exact Or.inr rfl))) (fun _ _ _ _ _ => pts_nil) (fun _ _ _ _ _ => (pe_cb g_l_caught (hr.mono (by decide)) (by rfl) pass0 (pa_cons (pv 5) (pa_cons (pv 2) (pa_cons (pv 3) pa_nil)))))) (pe_lst (pa_cons (pe_lst (pa_cons pe_str pa_nil)) (pa_cons (pe_lst (pa_cons pe_str pa_nil)) pa_nil))) (nomark _)) (pss_one (ps_ret pe_bl)) pss_nil)) (pss_one (ps_if (pt_cmpR (op_neT hr.units) (pe_cb g_first_row (hr.mono (by decide)) (by rfl) passL (pa_cons (pv 2) (pa_cons (pv 3) pa_nil))) (pe_op op_repTA (pe_tup (pa_cons pe_int pa_nil)) (pv 3)) (nomark _)) (pss_one (ps_ret pe_bl)) (pss_one (ps_if (pt_cmpR (op_neT hr.units) (pe_cb g_last_row (hr.mono (by decide)) (by rfl) passL (pa_cons (pv 2) (pa_cons (pv 3) pa_nil))) (pe_callTy call_tuple_of (by rfl) T.b_tuple (by decide +kernel) (pa_cons (pe_slice sl_list (pe_listRg3 rfl (by rfl) T.b_list (by rfl) T.b_range (pa_cons (pv 2) (pa_cons pe_int (pa_cons (pe_un un_neg pe_int) pa_nil)))) po_none (po_some (pv 3))) pa_nil)) (nomark _)) (pss_one (ps_ret pe_bl)) pss_nil)))))))))))
    (pss_cons (ps_for PassesOwn.never rfl (pi_list (pe_lst (pa_cons (pe_glob (by rfl) g_how_many.g rfl) (pa_cons (pe_glob (by rfl) g_first_row.g rfl) (pa_cons (pe_glob (by rfl) g_last_row.g rfl) pa_nil))))) (pg_name (i := 5) sc_law.nd rfl (by first | exact Or.inl rfl | exact Or.inr rfl))
    (pss_cons (ps_for PassesOwn.never rfl (pi_list (pe_lst (pa_cons pe_int (pa_cons pe_int (pa_cons (pe_un un_neg pe_int) (pa_cons pe_non (pa_cons pe_bl (pa_cons pe_str (pa_cons (pe_lst (pa_cons pe_int pa_nil)) (pa_cons (pe_op op_pow pe_int pe_int) pa_nil)))))))))) (pg_name (i := 6) sc_law.nd rfl (by first | exact Or.inl rfl | exact Or.inr rfl))
    (pss_one (ps_if (PW.pt (pw_or (pt_cmpR (op_neT hr.units) (pe_cb g_l_caught (hr.mono (by decide)) (by rfl) pass0 (pa_cons (pv 5) (pa_cons (pv 6) (pa_cons pe_int pa_nil)))) (pe_lst (pa_cons pe_str pa_nil)) (nomark _)) (pw_or1 (pt_cmpR (op_neT hr.units) (pe_cb g_l_caught (hr.mono (by decide)) (by rfl) pass0 (pa_cons (pv 5) (pa_cons (pv 6) (pa_cons (pe_un un_neg pe_int) pa_nil)))) (pe_lst (pa_cons pe_str pa_nil)) (nomark _))))) (pss_one (ps_ret pe_bl)) pss_nil)))
    (pss_one (ps_for PassesOwn.never rfl (pi_list (pe_lst (pa_cons (pe_un un_neg pe_int) (pa_cons pe_int (pa_cons pe_non (pa_cons pe_bl (pa_cons pe_str (pa_cons (pe_tup (pa_cons pe_int pa_nil)) (pa_cons (pe_op op_pow pe_int pe_int) pa_nil))))))))) (pg_name (i := 6) sc_law.nd rfl (by first | exact Or.inl rfl | exact Or.inr rfl))
    (pss_one (ps_if (pt_cmpR (op_neT hr.units) (pe_cb g_l_caught (hr.mono (by decide)) (by rfl) pass0 (pa_cons (pv 5) (pa_cons pe_int (pa_cons (pv 6) pa_nil)))) (pe_lst (pa_cons pe_str pa_nil)) (nomark _)) (pss_one (ps_ret pe_bl)) pss_nil))))))
    (pss_one (ps_ret (pe_and (pe_cmpR op_eq (pe_cb g_how_many (hr.mono (by decide)) (by rfl) passL (pa_cons pe_int (pa_cons pe_int pa_nil))) pe_int (nomark _)) (pe_and (pe_cmpR op_eq (pe_cb g_how_many (hr.mono (by decide)) (by rfl) passL (pa_cons pe_int (pa_cons pe_int pa_nil))) pe_int (nomark _)) (pe_one (pe_cmpR op_eq (pe_cb g_how_many (hr.mono (by decide)) (by rfl) passL (pa_cons pe_int (pa_cons pe_int pa_nil))) pe_int (nomark _)))))))))
end
theorem all_mk {P : Program} {w : World} {K : PySem.W.Frag} {h : Heap} {mg : Str → Option Value} {fa : Addr} (X : K.In h) (G : h.Ns mainGlobals mg) (hfa : mg "law" = some (.ref fa))
    {f_is_number f_is_from_to f_check_quay f_how_many f_p_check_ships f_first_row f_last_row f_l_cell_at f_l_whole f_l_due f_l_caught f_law e_BerthError e_NoCount e_NoOrder e_NoQuay e_NoTree e_NoWishes e_TooMany : Addr}
    {od_is_number an_is_number od_is_from_to an_is_from_to od_check_quay an_check_quay od_how_many an_how_many od_p_check_ships an_p_check_ships od_first_row an_first_row od_last_row an_last_row od_l_cell_at an_l_cell_at od_l_whole an_l_whole od_l_due an_l_due od_l_caught an_l_caught od_law an_law : Option Addr}
    {sl_is_number sl_is_from_to sl_check_quay sl_how_many sl_p_check_ships sl_first_row sl_last_row sl_l_cell_at sl_l_whole sl_l_due sl_l_caught sl_law : Array (Option Value)}
    {oc_is_number kV_is_number dc_is_number pm_is_number cd_is_number ct_is_number oc_is_from_to kV_is_from_to dc_is_from_to pm_is_from_to cd_is_from_to ct_is_from_to oc_check_quay kV_check_quay dc_check_quay pm_check_quay cd_check_quay ct_check_quay oc_how_many kV_how_many dc_how_many pm_how_many cd_how_many ct_how_many oc_p_check_ships kV_p_check_ships dc_p_check_ships pm_p_check_ships cd_p_check_ships ct_p_check_ships oc_first_row kV_first_row dc_first_row pm_first_row cd_first_row ct_first_row oc_last_row kV_last_row dc_last_row pm_last_row cd_last_row ct_last_row oc_l_cell_at kV_l_cell_at dc_l_cell_at pm_l_cell_at cd_l_cell_at ct_l_cell_at oc_l_whole kV_l_whole dc_l_whole pm_l_whole cd_l_whole ct_l_whole oc_l_due kV_l_due dc_l_due pm_l_due cd_l_due ct_l_due oc_l_caught kV_l_caught dc_l_caught pm_l_caught cd_l_caught ct_l_caught oc_law kV_law dc_law pm_law cd_law ct_law : Value}
    {t_MOST : Tok}
    (a_is_number : PySem.W.nsIn K mainGlobals "is_number" = some (some (.ref f_is_number))) (l_is_number : K.lookup f_is_number = some ⟨oc_is_number, od_is_number, .func (PySem.W.fnOf "is_number" "is_number" (defArgs s_is_number) (defBody s_is_number) (defScope s_is_number) .none kV_is_number dc_is_number pm_is_number an_is_number cd_is_number ct_is_number), sl_is_number⟩) (cI_is_number : PySem.W.codeIn K cd_is_number "is_number" = true) (kI_is_number : PySem.W.keepIn K (.ref f_is_number) = true)
    (a_is_from_to : PySem.W.nsIn K mainGlobals "is_from_to" = some (some (.ref f_is_from_to))) (l_is_from_to : K.lookup f_is_from_to = some ⟨oc_is_from_to, od_is_from_to, .func (PySem.W.fnOf "is_from_to" "is_from_to" (defArgs s_is_from_to) (defBody s_is_from_to) (defScope s_is_from_to) .none kV_is_from_to dc_is_from_to pm_is_from_to an_is_from_to cd_is_from_to ct_is_from_to), sl_is_from_to⟩) (cI_is_from_to : PySem.W.codeIn K cd_is_from_to "is_from_to" = true) (kI_is_from_to : PySem.W.keepIn K (.ref f_is_from_to) = true)
    (a_check_quay : PySem.W.nsIn K mainGlobals "check_quay" = some (some (.ref f_check_quay))) (l_check_quay : K.lookup f_check_quay = some ⟨oc_check_quay, od_check_quay, .func (PySem.W.fnOf "check_quay" "check_quay" (defArgs s_check_quay) (defBody s_check_quay) (defScope s_check_quay) .none kV_check_quay dc_check_quay pm_check_quay an_check_quay cd_check_quay ct_check_quay), sl_check_quay⟩) (cI_check_quay : PySem.W.codeIn K cd_check_quay "check_quay" = true) (kI_check_quay : PySem.W.keepIn K (.ref f_check_quay) = true)
    (a_how_many : PySem.W.nsIn K mainGlobals "how_many" = some (some (.ref f_how_many))) (l_how_many : K.lookup f_how_many = some ⟨oc_how_many, od_how_many, .func (PySem.W.fnOf "how_many" "how_many" (defArgs s_how_many) (defBody s_how_many) (defScope s_how_many) .none kV_how_many dc_how_many pm_how_many an_how_many cd_how_many ct_how_many), sl_how_many⟩) (cI_how_many : PySem.W.codeIn K cd_how_many "how_many" = true) (kI_how_many : PySem.W.keepIn K (.ref f_how_many) = true)
    (a_p_check_ships : PySem.W.nsIn K mainGlobals "_check_ships" = some (some (.ref f_p_check_ships))) (l_p_check_ships : K.lookup f_p_check_ships = some ⟨oc_p_check_ships, od_p_check_ships, .func (PySem.W.fnOf "_check_ships" "_check_ships" (defArgs s_p_check_ships) (defBody s_p_check_ships) (defScope s_p_check_ships) .none kV_p_check_ships dc_p_check_ships pm_p_check_ships an_p_check_ships cd_p_check_ships ct_p_check_ships), sl_p_check_ships⟩) (cI_p_check_ships : PySem.W.codeIn K cd_p_check_ships "_check_ships" = true) (kI_p_check_ships : PySem.W.keepIn K (.ref f_p_check_ships) = true)
    (a_first_row : PySem.W.nsIn K mainGlobals "first_row" = some (some (.ref f_first_row))) (l_first_row : K.lookup f_first_row = some ⟨oc_first_row, od_first_row, .func (PySem.W.fnOf "first_row" "first_row" (defArgs s_first_row) (defBody s_first_row) (defScope s_first_row) .none kV_first_row dc_first_row pm_first_row an_first_row cd_first_row ct_first_row), sl_first_row⟩) (cI_first_row : PySem.W.codeIn K cd_first_row "first_row" = true) (kI_first_row : PySem.W.keepIn K (.ref f_first_row) = true)
    (a_last_row : PySem.W.nsIn K mainGlobals "last_row" = some (some (.ref f_last_row))) (l_last_row : K.lookup f_last_row = some ⟨oc_last_row, od_last_row, .func (PySem.W.fnOf "last_row" "last_row" (defArgs s_last_row) (defBody s_last_row) (defScope s_last_row) .none kV_last_row dc_last_row pm_last_row an_last_row cd_last_row ct_last_row), sl_last_row⟩) (cI_last_row : PySem.W.codeIn K cd_last_row "last_row" = true) (kI_last_row : PySem.W.keepIn K (.ref f_last_row) = true)
    (a_l_cell_at : PySem.W.nsIn K mainGlobals "_law_cell_at" = some (some (.ref f_l_cell_at))) (l_l_cell_at : K.lookup f_l_cell_at = some ⟨oc_l_cell_at, od_l_cell_at, .func (PySem.W.fnOf "_law_cell_at" "_law_cell_at" (defArgs s_l_cell_at) (defBody s_l_cell_at) (defScope s_l_cell_at) .none kV_l_cell_at dc_l_cell_at pm_l_cell_at an_l_cell_at cd_l_cell_at ct_l_cell_at), sl_l_cell_at⟩) (cI_l_cell_at : PySem.W.codeIn K cd_l_cell_at "_law_cell_at" = true) (kI_l_cell_at : PySem.W.keepIn K (.ref f_l_cell_at) = true)
    (a_l_whole : PySem.W.nsIn K mainGlobals "_law_whole" = some (some (.ref f_l_whole))) (l_l_whole : K.lookup f_l_whole = some ⟨oc_l_whole, od_l_whole, .func (PySem.W.fnOf "_law_whole" "_law_whole" (defArgs s_l_whole) (defBody s_l_whole) (defScope s_l_whole) .none kV_l_whole dc_l_whole pm_l_whole an_l_whole cd_l_whole ct_l_whole), sl_l_whole⟩) (cI_l_whole : PySem.W.codeIn K cd_l_whole "_law_whole" = true) (kI_l_whole : PySem.W.keepIn K (.ref f_l_whole) = true)
    (a_l_due : PySem.W.nsIn K mainGlobals "_law_due" = some (some (.ref f_l_due))) (l_l_due : K.lookup f_l_due = some ⟨oc_l_due, od_l_due, .func (PySem.W.fnOf "_law_due" "_law_due" (defArgs s_l_due) (defBody s_l_due) (defScope s_l_due) .none kV_l_due dc_l_due pm_l_due an_l_due cd_l_due ct_l_due), sl_l_due⟩) (cI_l_due : PySem.W.codeIn K cd_l_due "_law_due" = true) (kI_l_due : PySem.W.keepIn K (.ref f_l_due) = true)
    (a_l_caught : PySem.W.nsIn K mainGlobals "_law_caught" = some (some (.ref f_l_caught))) (l_l_caught : K.lookup f_l_caught = some ⟨oc_l_caught, od_l_caught, .func (PySem.W.fnOf "_law_caught" "_law_caught" (defArgs s_l_caught) (defBody s_l_caught) (defScope s_l_caught) .none kV_l_caught dc_l_caught pm_l_caught an_l_caught cd_l_caught ct_l_caught), sl_l_caught⟩) (cI_l_caught : PySem.W.codeIn K cd_l_caught "_law_caught" = true) (kI_l_caught : PySem.W.keepIn K (.ref f_l_caught) = true)
    (a_law : PySem.W.nsIn K mainGlobals "law" = some (some (.ref f_law))) (l_law : K.lookup f_law = some ⟨oc_law, od_law, .func (PySem.W.fnOf "law" "law" (defArgs s_law) (defBody s_law) (defScope s_law) .none kV_law dc_law pm_law an_law cd_law ct_law), sl_law⟩) (cI_law : PySem.W.codeIn K cd_law "law" = true) (kI_law : PySem.W.keepIn K (.ref f_law) = true)
    (z_ValueError : PySem.W.nsIn K mainGlobals "ValueError" = some none)
    (z_bool : PySem.W.nsIn K mainGlobals "bool" = some none)
    (z_int : PySem.W.nsIn K mainGlobals "int" = some none)
    (z_isinstance : PySem.W.nsIn K mainGlobals "isinstance" = some none)
    (z_len : PySem.W.nsIn K mainGlobals "len" = some none)
    (z_list : PySem.W.nsIn K mainGlobals "list" = some none)
    (z_range : PySem.W.nsIn K mainGlobals "range" = some none)
    (z_tuple : PySem.W.nsIn K mainGlobals "tuple" = some none)
    (z_type : PySem.W.nsIn K mainGlobals "type" = some none)
    (y_MOST : PySem.W.nsIn K mainGlobals "MOST" = some (some (.int 400 t_MOST)))
    (xg_BerthError : PySem.W.nsIn K mainGlobals "BerthError" = some (some (.ref e_BerthError)))
    (xx_BerthError : PySem.W.excIn K e_BerthError [.type "ValueError", .type "Exception", .type "BaseException", .type "object"] "ValueError.__new__" = true)
    (xk_BerthError : PySem.W.keepIn K (.ref e_BerthError) = true)
    (xb_BerthError : PySem.W.subIn K (.ref e_BerthError) (.type "BaseException") = some true)
    (xt_BerthError : PySem.W.typeIn K (.ref e_BerthError) = some (.type "type"))
    (xg_NoCount : PySem.W.nsIn K mainGlobals "NoCount" = some (some (.ref e_NoCount)))
    (xx_NoCount : PySem.W.excIn K e_NoCount [.type "ValueError", .type "Exception", .type "BaseException", .type "object"] "ValueError.__new__" = true)
    (xk_NoCount : PySem.W.keepIn K (.ref e_NoCount) = true)
    (xb_NoCount : PySem.W.subIn K (.ref e_NoCount) (.type "BaseException") = some true)
    (xt_NoCount : PySem.W.typeIn K (.ref e_NoCount) = some (.type "type"))
    (xg_NoOrder : PySem.W.nsIn K mainGlobals "NoOrder" = some (some (.ref e_NoOrder)))
    (xx_NoOrder : PySem.W.excIn K e_NoOrder [.type "ValueError", .type "Exception", .type "BaseException", .type "object"] "ValueError.__new__" = true)
    (xk_NoOrder : PySem.W.keepIn K (.ref e_NoOrder) = true)
    (xb_NoOrder : PySem.W.subIn K (.ref e_NoOrder) (.type "BaseException") = some true)
    (xt_NoOrder : PySem.W.typeIn K (.ref e_NoOrder) = some (.type "type"))
    (xg_NoQuay : PySem.W.nsIn K mainGlobals "NoQuay" = some (some (.ref e_NoQuay)))
    (xx_NoQuay : PySem.W.excIn K e_NoQuay [.type "ValueError", .type "Exception", .type "BaseException", .type "object"] "ValueError.__new__" = true)
    (xk_NoQuay : PySem.W.keepIn K (.ref e_NoQuay) = true)
    (xb_NoQuay : PySem.W.subIn K (.ref e_NoQuay) (.type "BaseException") = some true)
    (xt_NoQuay : PySem.W.typeIn K (.ref e_NoQuay) = some (.type "type"))
    (xg_NoTree : PySem.W.nsIn K mainGlobals "NoTree" = some (some (.ref e_NoTree)))
    (xx_NoTree : PySem.W.excIn K e_NoTree [.type "ValueError", .type "Exception", .type "BaseException", .type "object"] "ValueError.__new__" = true)
    (xk_NoTree : PySem.W.keepIn K (.ref e_NoTree) = true)
    (xb_NoTree : PySem.W.subIn K (.ref e_NoTree) (.type "BaseException") = some true)
    (xt_NoTree : PySem.W.typeIn K (.ref e_NoTree) = some (.type "type"))
    (xg_NoWishes : PySem.W.nsIn K mainGlobals "NoWishes" = some (some (.ref e_NoWishes)))
    (xx_NoWishes : PySem.W.excIn K e_NoWishes [.type "ValueError", .type "Exception", .type "BaseException", .type "object"] "ValueError.__new__" = true)
    (xk_NoWishes : PySem.W.keepIn K (.ref e_NoWishes) = true)
    (xb_NoWishes : PySem.W.subIn K (.ref e_NoWishes) (.type "BaseException") = some true)
    (xt_NoWishes : PySem.W.typeIn K (.ref e_NoWishes) = some (.type "type"))
    (xg_TooMany : PySem.W.nsIn K mainGlobals "TooMany" = some (some (.ref e_TooMany)))
    (xx_TooMany : PySem.W.excIn K e_TooMany [.type "ValueError", .type "Exception", .type "BaseException", .type "object"] "ValueError.__new__" = true)
    (xk_TooMany : PySem.W.keepIn K (.ref e_TooMany) = true)
    (xb_TooMany : PySem.W.subIn K (.ref e_TooMany) (.type "BaseException") = some true)
    (xt_TooMany : PySem.W.typeIn K (.ref e_TooMany) = some (.type "type"))
    (v_hn : PySem.W.specialIn K (.builtin "object.__class__") "__get__" = some (some (.builtin "getset_descriptor.__get__")))
    (v_ht : PySem.W.takesIn K (.builtin "object.__class__") = some true)
    (vhg_BerthError : PySem.W.findIn K (.ref e_BerthError) "__getattribute__" = some (some (.builtin "BaseException.__getattribute__")))
    (vhk_BerthError : PySem.W.findIn K (.ref e_BerthError) "__getattr__" = some none)
    (vhs_BerthError : PySem.W.subIn K (.ref e_BerthError) (.type "BaseException") = some true)
    (vhd_BerthError : PySem.W.hasDictIn K e_BerthError = true)
    (vha_BerthError : PySem.W.findIn K (.ref e_BerthError) "__class__" = some (some (.builtin "object.__class__")))
    (vhm_BerthError : PySem.W.mroIn K e_BerthError (.type "object") = some true)
    (vty_BerthError : PySem.W.typeIn K (.ref e_BerthError) = some (.type "type"))
    (vse_BerthError : PySem.W.subIn K (.ref e_BerthError) (.ref e_BerthError) = some true)
    (vhg_NoQuay : PySem.W.findIn K (.ref e_NoQuay) "__getattribute__" = some (some (.builtin "BaseException.__getattribute__")))
    (vhk_NoQuay : PySem.W.findIn K (.ref e_NoQuay) "__getattr__" = some none)
    (vhs_NoQuay : PySem.W.subIn K (.ref e_NoQuay) (.type "BaseException") = some true)
    (vhd_NoQuay : PySem.W.hasDictIn K e_NoQuay = true)
    (vha_NoQuay : PySem.W.findIn K (.ref e_NoQuay) "__class__" = some (some (.builtin "object.__class__")))
    (vhm_NoQuay : PySem.W.mroIn K e_NoQuay (.type "object") = some true)
    (vty_NoQuay : PySem.W.typeIn K (.ref e_NoQuay) = some (.type "type"))
    (vse_NoQuay : PySem.W.subIn K (.ref e_NoQuay) (.ref e_NoQuay) = some true)
    (vhg_NoWishes : PySem.W.findIn K (.ref e_NoWishes) "__getattribute__" = some (some (.builtin "BaseException.__getattribute__")))
    (vhk_NoWishes : PySem.W.findIn K (.ref e_NoWishes) "__getattr__" = some none)
    (vhs_NoWishes : PySem.W.subIn K (.ref e_NoWishes) (.type "BaseException") = some true)
    (vhd_NoWishes : PySem.W.hasDictIn K e_NoWishes = true)
    (vha_NoWishes : PySem.W.findIn K (.ref e_NoWishes) "__class__" = some (some (.builtin "object.__class__")))
    (vhm_NoWishes : PySem.W.mroIn K e_NoWishes (.type "object") = some true)
    (vty_NoWishes : PySem.W.typeIn K (.ref e_NoWishes) = some (.type "type"))
    (vse_NoWishes : PySem.W.subIn K (.ref e_NoWishes) (.ref e_NoWishes) = some true)
    (vhg_TooMany : PySem.W.findIn K (.ref e_TooMany) "__getattribute__" = some (some (.builtin "BaseException.__getattribute__")))
    (vhk_TooMany : PySem.W.findIn K (.ref e_TooMany) "__getattr__" = some none)
    (vhs_TooMany : PySem.W.subIn K (.ref e_TooMany) (.type "BaseException") = some true)
    (vhd_TooMany : PySem.W.hasDictIn K e_TooMany = true)
    (vha_TooMany : PySem.W.findIn K (.ref e_TooMany) "__class__" = some (some (.builtin "object.__class__")))
    (vhm_TooMany : PySem.W.mroIn K e_TooMany (.type "object") = some true)
    (vty_TooMany : PySem.W.typeIn K (.ref e_TooMany) = some (.type "type"))
    (vse_TooMany : PySem.W.subIn K (.ref e_TooMany) (.ref e_TooMany) = some true)
    (vhg_NoCount : PySem.W.findIn K (.ref e_NoCount) "__getattribute__" = some (some (.builtin "BaseException.__getattribute__")))
    (vhk_NoCount : PySem.W.findIn K (.ref e_NoCount) "__getattr__" = some none)
    (vhs_NoCount : PySem.W.subIn K (.ref e_NoCount) (.type "BaseException") = some true)
    (vhd_NoCount : PySem.W.hasDictIn K e_NoCount = true)
    (vha_NoCount : PySem.W.findIn K (.ref e_NoCount) "__class__" = some (some (.builtin "object.__class__")))
    (vhm_NoCount : PySem.W.mroIn K e_NoCount (.type "object") = some true)
    (vty_NoCount : PySem.W.typeIn K (.ref e_NoCount) = some (.type "type"))
    (vse_NoCount : PySem.W.subIn K (.ref e_NoCount) (.ref e_NoCount) = some true)
    (vhg_NoTree : PySem.W.findIn K (.ref e_NoTree) "__getattribute__" = some (some (.builtin "BaseException.__getattribute__")))
    (vhk_NoTree : PySem.W.findIn K (.ref e_NoTree) "__getattr__" = some none)
    (vhs_NoTree : PySem.W.subIn K (.ref e_NoTree) (.type "BaseException") = some true)
    (vhd_NoTree : PySem.W.hasDictIn K e_NoTree = true)
    (vha_NoTree : PySem.W.findIn K (.ref e_NoTree) "__class__" = some (some (.builtin "object.__class__")))
    (vhm_NoTree : PySem.W.mroIn K e_NoTree (.type "object") = some true)
    (vty_NoTree : PySem.W.typeIn K (.ref e_NoTree) = some (.type "type"))
    (vse_NoTree : PySem.W.subIn K (.ref e_NoTree) (.ref e_NoTree) = some true)
    (vhg_NoOrder : PySem.W.findIn K (.ref e_NoOrder) "__getattribute__" = some (some (.builtin "BaseException.__getattribute__")))
    (vhk_NoOrder : PySem.W.findIn K (.ref e_NoOrder) "__getattr__" = some none)
    (vhs_NoOrder : PySem.W.subIn K (.ref e_NoOrder) (.type "BaseException") = some true)
    (vhd_NoOrder : PySem.W.hasDictIn K e_NoOrder = true)
    (vha_NoOrder : PySem.W.findIn K (.ref e_NoOrder) "__class__" = some (some (.builtin "object.__class__")))
    (vhm_NoOrder : PySem.W.mroIn K e_NoOrder (.type "object") = some true)
    (vty_NoOrder : PySem.W.typeIn K (.ref e_NoOrder) = some (.type "type"))
    (vse_NoOrder : PySem.W.subIn K (.ref e_NoOrder) (.ref e_NoOrder) = some true)
    (w_NoQuay_BerthError : PySem.W.subIn K (.ref e_NoQuay) (.ref e_BerthError) = some true)
    (w_NoQuay_NoOrder : PySem.W.subIn K (.ref e_NoQuay) (.ref e_NoOrder) = some false)
    (w_NoQuay_NoTree : PySem.W.subIn K (.ref e_NoQuay) (.ref e_NoTree) = some false)
    (w_NoQuay_NoWishes : PySem.W.subIn K (.ref e_NoQuay) (.ref e_NoWishes) = some false)
    (w_NoQuay_TooMany : PySem.W.subIn K (.ref e_NoQuay) (.ref e_TooMany) = some false)
    (w_NoQuay_NoQuay : PySem.W.subIn K (.ref e_NoQuay) (.ref e_NoQuay) = some true)
    (w_NoQuay_NoCount : PySem.W.subIn K (.ref e_NoQuay) (.ref e_NoCount) = some false)
    (w_NoCount_BerthError : PySem.W.subIn K (.ref e_NoCount) (.ref e_BerthError) = some true)
    (w_NoCount_NoOrder : PySem.W.subIn K (.ref e_NoCount) (.ref e_NoOrder) = some false)
    (w_NoCount_NoTree : PySem.W.subIn K (.ref e_NoCount) (.ref e_NoTree) = some false)
    (w_NoCount_NoWishes : PySem.W.subIn K (.ref e_NoCount) (.ref e_NoWishes) = some false)
    (w_NoCount_TooMany : PySem.W.subIn K (.ref e_NoCount) (.ref e_TooMany) = some false)
    (w_NoCount_NoQuay : PySem.W.subIn K (.ref e_NoCount) (.ref e_NoQuay) = some false)
    (w_NoCount_NoCount : PySem.W.subIn K (.ref e_NoCount) (.ref e_NoCount) = some true)
    (w_NoQuay_V : PySem.W.subIn K (.ref e_NoQuay) (.type "ValueError") = some true)
    (w_NoCount_V : PySem.W.subIn K (.ref e_NoCount) (.type "ValueError") = some true)
    : ∃ fd : FuncData, (∀ (s : Shared) (v : Value), BindsTo s fd ⟨[v], []⟩ [("_law_script", v)]) ∧ ∀ base : Heap, K.In base → base.Ns mainGlobals mg → FnOk P w K mg base CX0 7 fa fd ["_law_script"] (sp_law K) := by
  have e := hfa.symm.trans (PySem.W.mg_of X G a_law)
  cases e
  have T : Txt K mg ({ f_is_number := f_is_number, f_is_from_to := f_is_from_to, f_check_quay := f_check_quay, f_how_many := f_how_many, f_p_check_ships := f_p_check_ships, f_first_row := f_first_row, f_last_row := f_last_row, f_l_cell_at := f_l_cell_at, f_l_whole := f_l_whole, f_l_due := f_l_due, f_l_caught := f_l_caught, e_BerthError := e_BerthError, e_NoCount := e_NoCount, e_NoOrder := e_NoOrder, e_NoQuay := e_NoQuay, e_NoTree := e_NoTree, e_NoWishes := e_NoWishes, e_TooMany := e_TooMany } : Ad) := ⟨trivial,
    PySem.W.mg_none_of X G z_ValueError,
    PySem.W.mg_none_of X G z_bool,
    PySem.W.mg_none_of X G z_int,
    PySem.W.mg_none_of X G z_isinstance,
    PySem.W.mg_none_of X G z_len,
    PySem.W.mg_none_of X G z_list,
    PySem.W.mg_none_of X G z_range,
    PySem.W.mg_none_of X G z_tuple,
    PySem.W.mg_none_of X G z_type,
    ⟨_, PySem.W.mg_of X G y_MOST, ⟨_, rfl⟩⟩,
    ⟨PySem.W.mg_of X G xg_BerthError, xx_BerthError, xk_BerthError, xb_BerthError, xt_BerthError⟩,
    ⟨PySem.W.mg_of X G xg_NoCount, xx_NoCount, xk_NoCount, xb_NoCount, xt_NoCount⟩,
    ⟨PySem.W.mg_of X G xg_NoOrder, xx_NoOrder, xk_NoOrder, xb_NoOrder, xt_NoOrder⟩,
    ⟨PySem.W.mg_of X G xg_NoQuay, xx_NoQuay, xk_NoQuay, xb_NoQuay, xt_NoQuay⟩,
    ⟨PySem.W.mg_of X G xg_NoTree, xx_NoTree, xk_NoTree, xb_NoTree, xt_NoTree⟩,
    ⟨PySem.W.mg_of X G xg_NoWishes, xx_NoWishes, xk_NoWishes, xb_NoWishes, xt_NoWishes⟩,
    ⟨PySem.W.mg_of X G xg_TooMany, xx_TooMany, xk_TooMany, xb_TooMany, xt_TooMany⟩,
    ⟨⟨vhg_BerthError, vhk_BerthError, vhs_BerthError, vhd_BerthError, vha_BerthError, v_hn, v_ht, vhm_BerthError⟩, vty_BerthError, vse_BerthError⟩,
    ⟨⟨vhg_NoQuay, vhk_NoQuay, vhs_NoQuay, vhd_NoQuay, vha_NoQuay, v_hn, v_ht, vhm_NoQuay⟩, vty_NoQuay, vse_NoQuay⟩,
    ⟨⟨vhg_NoWishes, vhk_NoWishes, vhs_NoWishes, vhd_NoWishes, vha_NoWishes, v_hn, v_ht, vhm_NoWishes⟩, vty_NoWishes, vse_NoWishes⟩,
    ⟨⟨vhg_TooMany, vhk_TooMany, vhs_TooMany, vhd_TooMany, vha_TooMany, v_hn, v_ht, vhm_TooMany⟩, vty_TooMany, vse_TooMany⟩,
    ⟨⟨vhg_NoCount, vhk_NoCount, vhs_NoCount, vhd_NoCount, vha_NoCount, v_hn, v_ht, vhm_NoCount⟩, vty_NoCount, vse_NoCount⟩,
    ⟨⟨vhg_NoTree, vhk_NoTree, vhs_NoTree, vhd_NoTree, vha_NoTree, v_hn, v_ht, vhm_NoTree⟩, vty_NoTree, vse_NoTree⟩,
    ⟨⟨vhg_NoOrder, vhk_NoOrder, vhs_NoOrder, vhd_NoOrder, vha_NoOrder, v_hn, v_ht, vhm_NoOrder⟩, vty_NoOrder, vse_NoOrder⟩,
    w_NoQuay_BerthError,
    w_NoQuay_NoOrder,
    w_NoQuay_NoTree,
    w_NoQuay_NoWishes,
    w_NoQuay_TooMany,
    w_NoQuay_NoQuay,
    w_NoQuay_NoCount,
    w_NoCount_BerthError,
    w_NoCount_NoOrder,
    w_NoCount_NoTree,
    w_NoCount_NoWishes,
    w_NoCount_TooMany,
    w_NoCount_NoQuay,
    w_NoCount_NoCount,
    w_NoQuay_V,
    w_NoCount_V⟩
  have D_is_number : DF K mg "is_number" s_is_number ["thing"] f_is_number := df_mk (fun_mk (st := s_is_number) l_is_number cI_is_number kI_is_number) (fun _ _ _ _ _ _ us hl => match us, hl with | [_], _ => rfl) (PySem.W.mg_of X G a_is_number)
  have D_is_from_to : DF K mg "is_from_to" s_is_from_to ["low", "high", "thing"] f_is_from_to := df_mk (fun_mk (st := s_is_from_to) l_is_from_to cI_is_from_to kI_is_from_to) (fun _ _ _ _ _ _ us hl => match us, hl with | [_, _, _], _ => rfl) (PySem.W.mg_of X G a_is_from_to)
  have D_check_quay : DF K mg "check_quay" s_check_quay ["berths"] f_check_quay := df_mk (fun_mk (st := s_check_quay) l_check_quay cI_check_quay kI_check_quay) (fun _ _ _ _ _ _ us hl => match us, hl with | [_], _ => rfl) (PySem.W.mg_of X G a_check_quay)
  have D_how_many : DF K mg "how_many" s_how_many ["berths", "ships"] f_how_many := df_mk (fun_mk (st := s_how_many) l_how_many cI_how_many kI_how_many) (fun _ _ _ _ _ _ us hl => match us, hl with | [_, _], _ => rfl) (PySem.W.mg_of X G a_how_many)
  have D_p_check_ships : DF K mg "_check_ships" s_p_check_ships ["berths", "ships"] f_p_check_ships := df_mk (fun_mk (st := s_p_check_ships) l_p_check_ships cI_p_check_ships kI_p_check_ships) (fun _ _ _ _ _ _ us hl => match us, hl with | [_, _], _ => rfl) (PySem.W.mg_of X G a_p_check_ships)
  have D_first_row : DF K mg "first_row" s_first_row ["berths", "ships"] f_first_row := df_mk (fun_mk (st := s_first_row) l_first_row cI_first_row kI_first_row) (fun _ _ _ _ _ _ us hl => match us, hl with | [_, _], _ => rfl) (PySem.W.mg_of X G a_first_row)
  have D_last_row : DF K mg "last_row" s_last_row ["berths", "ships"] f_last_row := df_mk (fun_mk (st := s_last_row) l_last_row cI_last_row kI_last_row) (fun _ _ _ _ _ _ us hl => match us, hl with | [_, _], _ => rfl) (PySem.W.mg_of X G a_last_row)
  have D_l_cell_at : DF K mg "_law_cell_at" s_l_cell_at ["_law_script", "_law_k"] f_l_cell_at := df_mk (fun_mk (st := s_l_cell_at) l_l_cell_at cI_l_cell_at kI_l_cell_at) (fun _ _ _ _ _ _ us hl => match us, hl with | [_, _], _ => rfl) (PySem.W.mg_of X G a_l_cell_at)
  have D_l_whole : DF K mg "_law_whole" s_l_whole ["_law_found"] f_l_whole := df_mk (fun_mk (st := s_l_whole) l_l_whole cI_l_whole kI_l_whole) (fun _ _ _ _ _ _ us hl => match us, hl with | [_], _ => rfl) (PySem.W.mg_of X G a_l_whole)
  have D_l_due : DF K mg "_law_due" s_l_due ["_law_berths", "_law_ships"] f_l_due := df_mk (fun_mk (st := s_l_due) l_l_due cI_l_due kI_l_due) (fun _ _ _ _ _ _ us hl => match us, hl with | [_, _], _ => rfl) (PySem.W.mg_of X G a_l_due)
  have D_l_caught : DF K mg "_law_caught" s_l_caught ["_law_act", "_law_berths", "_law_ships"] f_l_caught := df_mk (fun_mk (st := s_l_caught) l_l_caught cI_l_caught kI_l_caught) (fun _ _ _ _ _ _ us hl => match us, hl with | [_, _, _], _ => rfl) (PySem.W.mg_of X G a_l_caught)
  refine ⟨PySem.W.fnOf "law" "law" (defArgs s_law) (defBody s_law) (defScope s_law) .none kV_law dc_law pm_law an_law cd_law ct_law, fun s v => .of_eq rfl, fun base _ _ => ?_⟩
  have g_is_number := ok_is_number (P := P) (w := w) (base := base) D_is_number T
  have g_is_from_to := ok_is_from_to (P := P) (w := w) (base := base) D_is_from_to T g_is_number
  have g_check_quay := ok_check_quay (P := P) (w := w) (base := base) D_check_quay T g_is_from_to
  have g_how_many := ok_how_many (P := P) (w := w) (base := base) D_how_many T g_is_from_to g_check_quay
  have g_p_check_ships := ok_p_check_ships (P := P) (w := w) (base := base) D_p_check_ships T g_is_from_to g_check_quay
  have g_first_row := ok_first_row (P := P) (w := w) (base := base) D_first_row T g_p_check_ships
  have g_last_row := ok_last_row (P := P) (w := w) (base := base) D_last_row T g_p_check_ships
  have g_l_cell_at := ok_l_cell_at (P := P) (w := w) (base := base) D_l_cell_at T
  have g_l_whole := ok_l_whole (P := P) (w := w) (base := base) D_l_whole T
  have g_l_due := ok_l_due (P := P) (w := w) (base := base) D_l_due T
  have g_l_caught := ok_l_caught (P := P) (w := w) (base := base) D_l_caught T g_how_many g_first_row g_last_row
  exact ok_law (fun_mk (st := s_law) l_law cI_law kI_law) T g_how_many g_first_row g_last_row g_l_whole g_l_due g_l_caught
end Br
open PySem PySem.W PyProof.Rows
set_option maxHeartbeats 0 in
theorem PySem.Challenge.cw_berthrow_k06_how_many_holds : PySem.Challenge.rw_berthrow_k06_how_many.Holds := by
  w_on; o_law; k_head; (case hw => w_witness2)
  k_fill
  refine L2.walk_of (l := PySem.Challenge.rw_berthrow_k06_how_many) (n := 63) (k := 7) (x := "_law_script") (CX := fun _ => L2.CX0) (sp := fun w => Br.sp_law _) rfl (by decide) rfl ⟨rfl, by decide, by decide⟩ (fun w h Y => PySem.W.kIn_of Y) ?F (fun _ _ a ns hl _ hS => ⟨a, ns, rfl, hS, hl, fun _ => rfl⟩) (fun _ _ _ _ _ h => h)
  case F =>
    intro w mg fa h KX G hmg
    refine' Br.all_mk KX G hmg ?a_is_number ?l_is_number ?cI_is_number ?kI_is_number ?a_is_from_to ?l_is_from_to ?cI_is_from_to ?kI_is_from_to ?a_check_quay ?l_check_quay ?cI_check_quay ?kI_check_quay ?a_how_many ?l_how_many ?cI_how_many ?kI_how_many ?a_p_check_ships ?l_p_check_ships ?cI_p_check_ships ?kI_p_check_ships ?a_first_row ?l_first_row ?cI_first_row ?kI_first_row ?a_last_row ?l_last_row ?cI_last_row ?kI_last_row ?a_l_cell_at ?l_l_cell_at ?cI_l_cell_at ?kI_l_cell_at ?a_l_whole ?l_l_whole ?cI_l_whole ?kI_l_whole ?a_l_due ?l_l_due ?cI_l_due ?kI_l_due ?a_l_caught ?l_l_caught ?cI_l_caught ?kI_l_caught ?a_law ?l_law ?cI_law ?kI_law ?z_ValueError ?z_bool ?z_int ?z_isinstance ?z_len ?z_list ?z_range ?z_tuple ?z_type ?y_MOST ?xg_BerthError ?xx_BerthError ?xk_BerthError ?xb_BerthError ?xt_BerthError ?xg_NoCount ?xx_NoCount ?xk_NoCount ?xb_NoCount ?xt_NoCount ?xg_NoOrder ?xx_NoOrder ?xk_NoOrder ?xb_NoOrder ?xt_NoOrder ?xg_NoQuay ?xx_NoQuay ?xk_NoQuay ?xb_NoQuay ?xt_NoQuay ?xg_NoTree ?xx_NoTree ?xk_NoTree ?xb_NoTree ?xt_NoTree ?xg_NoWishes ?xx_NoWishes ?xk_NoWishes ?xb_NoWishes ?xt_NoWishes ?xg_TooMany ?xx_TooMany ?xk_TooMany ?xb_TooMany ?xt_TooMany ?v_hn ?v_ht ?vhg_BerthError ?vhk_BerthError ?vhs_BerthError ?vhd_BerthError ?vha_BerthError ?vhm_BerthError ?vty_BerthError ?vse_BerthError ?vhg_NoQuay ?vhk_NoQuay ?vhs_NoQuay ?vhd_NoQuay ?vha_NoQuay ?vhm_NoQuay ?vty_NoQuay ?vse_NoQuay ?vhg_NoWishes ?vhk_NoWishes ?vhs_NoWishes ?vhd_NoWishes ?vha_NoWishes ?vhm_NoWishes ?vty_NoWishes ?vse_NoWishes ?vhg_TooMany ?vhk_TooMany ?vhs_TooMany ?vhd_TooMany ?vha_TooMany ?vhm_TooMany ?vty_TooMany ?vse_TooMany ?vhg_NoCount ?vhk_NoCount ?vhs_NoCount ?vhd_NoCount ?vha_NoCount ?vhm_NoCount ?vty_NoCount ?vse_NoCount ?vhg_NoTree ?vhk_NoTree ?vhs_NoTree ?vhd_NoTree ?vha_NoTree ?vhm_NoTree ?vty_NoTree ?vse_NoTree ?vhg_NoOrder ?vhk_NoOrder ?vhs_NoOrder ?vhd_NoOrder ?vha_NoOrder ?vhm_NoOrder ?vty_NoOrder ?vse_NoOrder ?w_NoQuay_BerthError ?w_NoQuay_NoOrder ?w_NoQuay_NoTree ?w_NoQuay_NoWishes ?w_NoQuay_TooMany ?w_NoQuay_NoQuay ?w_NoQuay_NoCount ?w_NoCount_BerthError ?w_NoCount_NoOrder ?w_NoCount_NoTree ?w_NoCount_NoWishes ?w_NoCount_TooMany ?w_NoCount_NoQuay ?w_NoCount_NoCount ?w_NoQuay_V ?w_NoCount_V
    (case a_is_number => k_is)
    (case l_is_number => k_is)
    (case cI_is_number => k_is)
    (case kI_is_number => k_is)
    (case a_is_from_to => k_is)
    (case l_is_from_to => k_is)
    (case cI_is_from_to => k_is)
    (case kI_is_from_to => k_is)
    (case a_check_quay => k_is)
    (case l_check_quay => k_is)
    (case cI_check_quay => k_is)
    (case kI_check_quay => k_is)
    (case a_how_many => k_is)
    (case l_how_many => k_is)
    (case cI_how_many => k_is)
    (case kI_how_many => k_is)
    (case a_p_check_ships => k_is)
    (case l_p_check_ships => k_is)
    (case cI_p_check_ships => k_is)
    (case kI_p_check_ships => k_is)
    (case a_first_row => k_is)
    (case l_first_row => k_is)
    (case cI_first_row => k_is)
    (case kI_first_row => k_is)
    (case a_last_row => k_is)
    (case l_last_row => k_is)
    (case cI_last_row => k_is)
    (case kI_last_row => k_is)
    (case a_l_cell_at => k_is)
    (case l_l_cell_at => k_is)
    (case cI_l_cell_at => k_is)
    (case kI_l_cell_at => k_is)
    (case a_l_whole => k_is)
    (case l_l_whole => k_is)
    (case cI_l_whole => k_is)
    (case kI_l_whole => k_is)
    (case a_l_due => k_is)
    (case l_l_due => k_is)
    (case cI_l_due => k_is)
    (case kI_l_due => k_is)
    (case a_l_caught => k_is)
    (case l_l_caught => k_is)
    (case cI_l_caught => k_is)
    (case kI_l_caught => k_is)
    (case a_law => k_is)
    (case l_law => k_is)
    (case cI_law => k_is)
    (case kI_law => k_is)
    (case z_ValueError => k_is)
    (case z_bool => k_is)
    (case z_int => k_is)
    (case z_isinstance => k_is)
    (case z_len => k_is)
    (case z_list => k_is)
    (case z_range => k_is)
    (case z_tuple => k_is)
    (case z_type => k_is)
    (case y_MOST => k_is)
    (case xg_BerthError => k_is)
    (case xx_BerthError => k_exc)
    (case xk_BerthError => k_is)
    (case xb_BerthError => k_is)
    (case xt_BerthError => k_is)
    (case xg_NoCount => k_is)
    (case xx_NoCount => k_exc)
    (case xk_NoCount => k_is)
    (case xb_NoCount => k_is)
    (case xt_NoCount => k_is)
    (case xg_NoOrder => k_is)
    (case xx_NoOrder => k_exc)
    (case xk_NoOrder => k_is)
    (case xb_NoOrder => k_is)
    (case xt_NoOrder => k_is)
    (case xg_NoQuay => k_is)
    (case xx_NoQuay => k_exc)
    (case xk_NoQuay => k_is)
    (case xb_NoQuay => k_is)
    (case xt_NoQuay => k_is)
    (case xg_NoTree => k_is)
    (case xx_NoTree => k_exc)
    (case xk_NoTree => k_is)
    (case xb_NoTree => k_is)
    (case xt_NoTree => k_is)
    (case xg_NoWishes => k_is)
    (case xx_NoWishes => k_exc)
    (case xk_NoWishes => k_is)
    (case xb_NoWishes => k_is)
    (case xt_NoWishes => k_is)
    (case xg_TooMany => k_is)
    (case xx_TooMany => k_exc)
    (case xk_TooMany => k_is)
    (case xb_TooMany => k_is)
    (case xt_TooMany => k_is)
    (case v_hn => k_is)
    (case v_ht => k_is)
    (case vhg_BerthError => k_is)
    (case vhk_BerthError => k_is)
    (case vhs_BerthError => k_is)
    (case vhd_BerthError => k_is)
    (case vha_BerthError => k_is)
    (case vhm_BerthError => k_is)
    (case vty_BerthError => k_is)
    (case vse_BerthError => k_is)
    (case vhg_NoQuay => k_is)
    (case vhk_NoQuay => k_is)
    (case vhs_NoQuay => k_is)
    (case vhd_NoQuay => k_is)
    (case vha_NoQuay => k_is)
    (case vhm_NoQuay => k_is)
    (case vty_NoQuay => k_is)
    (case vse_NoQuay => k_is)
    (case vhg_NoWishes => k_is)
    (case vhk_NoWishes => k_is)
    (case vhs_NoWishes => k_is)
    (case vhd_NoWishes => k_is)
    (case vha_NoWishes => k_is)
    (case vhm_NoWishes => k_is)
    (case vty_NoWishes => k_is)
    (case vse_NoWishes => k_is)
    (case vhg_TooMany => k_is)
    (case vhk_TooMany => k_is)
    (case vhs_TooMany => k_is)
    (case vhd_TooMany => k_is)
    (case vha_TooMany => k_is)
    (case vhm_TooMany => k_is)
    (case vty_TooMany => k_is)
    (case vse_TooMany => k_is)
    (case vhg_NoCount => k_is)
    (case vhk_NoCount => k_is)
    (case vhs_NoCount => k_is)
    (case vhd_NoCount => k_is)
    (case vha_NoCount => k_is)
    (case vhm_NoCount => k_is)
    (case vty_NoCount => k_is)
    (case vse_NoCount => k_is)
    (case vhg_NoTree => k_is)
    (case vhk_NoTree => k_is)
    (case vhs_NoTree => k_is)
    (case vhd_NoTree => k_is)
    (case vha_NoTree => k_is)
    (case vhm_NoTree => k_is)
    (case vty_NoTree => k_is)
    (case vse_NoTree => k_is)
    (case vhg_NoOrder => k_is)
    (case vhk_NoOrder => k_is)
    (case vhs_NoOrder => k_is)
    (case vhd_NoOrder => k_is)
    (case vha_NoOrder => k_is)
    (case vhm_NoOrder => k_is)
    (case vty_NoOrder => k_is)
    (case vse_NoOrder => k_is)
    (case w_NoQuay_BerthError => k_is)
    (case w_NoQuay_NoOrder => k_is)
    (case w_NoQuay_NoTree => k_is)
    (case w_NoQuay_NoWishes => k_is)
    (case w_NoQuay_TooMany => k_is)
    (case w_NoQuay_NoQuay => k_is)
    (case w_NoQuay_NoCount => k_is)
    (case w_NoCount_BerthError => k_is)
    (case w_NoCount_NoOrder => k_is)
    (case w_NoCount_NoTree => k_is)
    (case w_NoCount_NoWishes => k_is)
    (case w_NoCount_TooMany => k_is)
    (case w_NoCount_NoQuay => k_is)
    (case w_NoCount_NoCount => k_is)
    (case w_NoQuay_V => k_is)
    (case w_NoCount_V => k_is)
