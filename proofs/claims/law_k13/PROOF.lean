import PyProof.Rows.All
import Wide.All
import OpenK.AllK
import Wide.FinOn
import HandS.ForMost
import HandS.ForExc
import HandS.More
import HandS.Walk
import HandS.SortInts
import HandS.SetFor
import HandS.Style
import HandS.RevRange
import HandS.TupAny
import HandS.TupMul
import HandS.IsInst
import HandS.Conv
import HandS.ExcIs
import HandS.ExcCtx
import HandS.SortKw
import HandS.Remove
import HandS.TupLe
import HandS.Zip
import HandS.TupSets
import HandS.Small
import KE.DatumOrd
import KE.DatumMore
import KE.KSortedM
import KE.KStateDown
import KE.KDictPairs
import KE.KDictList
import KE.KDictIter
import KE.KDictSum
import HandS.ClsMeth
import KE.KSuperObj
import KE.KSuper
import KE.RegKSuper
import KE.KBoundM
import KE.GoesComp
import KE.KAsSuite
import HandS.Codes
import HandS.FStr
import PySem.Challenge.RW_berthrow_k13_books
set_option Elab.async false
set_option linter.all false
set_option maxRecDepth 100000
set_option maxHeartbeats 4000000
namespace Br
open PySem PySem.Spec PyProof.Rows L2
/-! ### addresses of what the top has made, by name -/
structure Ad where
  f_is_number : Addr := 0
  f_is_from_to : Addr := 0
  f_is_row : Addr := 0
  f_check_quay : Addr := 0
  f_check_wishes : Addr := 0
  f_first_free : Addr := 0
  f_placed : Addr := 0
  f_taken : Addr := 0
  f_gone_on : Addr := 0
  f_is_good : Addr := 0
  f_crowded : Addr := 0
  f_placed_round : Addr := 0
  f_left_over : Addr := 0
  f_turned : Addr := 0
  f_turning : Addr := 0
  f_how_many : Addr := 0
  f_first_row : Addr := 0
  f_last_row : Addr := 0
  f_next_row : Addr := 0
  f_p_check_ships : Addr := 0
  f_l_cell_at : Addr := 0
  f_l_mix : Addr := 0
  f_l_quay : Addr := 0
  f_l_wishes : Addr := 0
  f_l_placed : Addr := 0
  f_l_whole : Addr := 0
  f_l_good : Addr := 0
  f_l_crowded : Addr := 0
  f_l_order : Addr := 0
  f_l_round : Addr := 0
  f_l_refused : Addr := 0
  f_l_due : Addr := 0
  f_l_caught : Addr := 0
  f_l_lowered : Addr := 0
  f_first_free_round : Addr := 0
  f_check_full_row : Addr := 0
  f_tree_of : Addr := 0
  f_wishes_of : Addr := 0
  f_p_check_knots : Addr := 0
  f_lies : Addr := 0
  f_reaches : Addr := 0
  f_rows_to : Addr := 0
  f_p_check_order : Addr := 0
  f_is_name : Addr := 0
  f_written : Addr := 0
  f_read : Addr := 0
  f_p_parts : Addr := 0
  f_p_pair : Addr := 0
  f_p_number : Addr := 0
  f_p_check_name : Addr := 0
  f_l_asked : Addr := 0
  f_l_word : Addr := 0
  f_l_told : Addr := 0
  f_l_odd : Addr := 0
  f_l_no_quay : Addr := 0
  f_l_full : Addr := 0
  f_l_tree : Addr := 0
  f_l_drawn : Addr := 0
  f_l_hangs : Addr := 0
  f_l_right : Addr := 0
  f_l_lying : Addr := 0
  f_l_words : Addr := 0
  f_l_done : Addr := 0
  f_l_stands : Addr := 0
  f_l_nearer : Addr := 0
  f_l_read : Addr := 0
  f_l_text : Addr := 0
  f_l_odd_text : Addr := 0
  f_law : Addr := 0
  f_Q_init : Addr := 0
  f_Q_come : Addr := 0
  f_Q_leave : Addr := 0
  f_Q_where : Addr := 0
  f_Q_all_ships : Addr := 0
  f_Q_free_ones : Addr := 0
  f_Q_size : Addr := 0
  f_Q_kind : Addr := 0
  f_Q_first_free : Addr := 0
  f_Q_held : Addr := 0
  f_Q_check_there : Addr := 0
  f_R_init : Addr := 0
  f_R_come : Addr := 0
  f_R_leave : Addr := 0
  f_R_where : Addr := 0
  f_R_all_ships : Addr := 0
  f_R_free_ones : Addr := 0
  f_R_size : Addr := 0
  f_R_kind : Addr := 0
  f_R_first_free : Addr := 0
  c_Quay : Addr := 0
  c_Round : Addr := 0
  e_BerthError : Addr := 0
  e_NoQuay : Addr := 0
  e_NoWishes : Addr := 0
  e_TooMany : Addr := 0
  e_NoCount : Addr := 0
  e_NoTree : Addr := 0
  e_NoOrder : Addr := 0
  e_NoName : Addr := 0
  e_Taken : Addr := 0
  e_NoWish : Addr := 0
  e_NoRoom : Addr := 0
  e_NoShip : Addr := 0
  e_NoText : Addr := 0
/-- a def as it stands behind the top -/
structure DF (K : PySem.W.Frag) (mg : Str → Option Value) (x : Str) (st : Stmt) (ps : List Str) (f : Addr) : Prop where
  ex : ∃ fd, Fun K x x st f fd ∧ Binds K fd ps []
  g : mg x = some (.ref f)
/-- a def that keeps its promise, ready to be called by its name -/
structure Cb (P : Program) (w : World) (K : PySem.W.Frag) (mg : Str → Option Value) (base : Heap) (CX : CXT) (k : Nat) (x : Str) (f : Addr) (ps : List Str) (sp : Sp) : Prop where
  ex : ∃ fd, FnOk P w K mg base CX k f fd ps sp ∧ Binds K fd ps []
  g : mg x = some (.ref f)
  kp : PySem.W.keepIn K (.ref f) = true
/-- an own exception's class -/
structure ExF (K : PySem.W.Frag) (mg : Str → Option Value) (x : Str) (c : Addr) : Prop where
  g : mg x = some (.ref c)
  x : PySem.W.excIn K c [.type "ValueError", .type "Exception", .type "BaseException", .type "object"] "ValueError.__new__" = true
  k : PySem.W.keepIn K (.ref c) = true
  b : PySem.W.subIn K (.ref c) (.type "BaseException") = some true
  t : PySem.W.typeIn K (.ref c) = some (.type "type")
theorem df_mk {K : PySem.W.Frag} {mg : Str → Option Value} {x : Str} {st : Stmt} {ps : List Str} {f : Addr} {fd : FuncData} (F : Fun K x x st f fd)
    (h : ∀ (kV doc pm : Value) (an : Option Addr) (cdv ct : Value) (us : List Value), us.length = ps.length → bindArgs (PySem.W.fnOf x x (defArgs st) (defBody st) (defScope st) .none kV doc pm an cdv ct) ⟨us, []⟩ = pure (ps.zip us)) (g : mg x = some (.ref f)) : DF K mg x st ps f :=
  ⟨⟨fd, F, F.binds h⟩, g⟩
/-! ### readings by short names -/
def rAddI : R2 := rI0 fun i j => .int (i + j)
def rSubI : R2 := rI0 fun i j => .int (i - j)
def rMulI : R2 := rI CMul fun i j => .int (i * j)
def rModI : R2 := rI (fun _ j => 0 < j) fun i j => .int (i % j)
def rDivI : R2 := rI CDiv fun i j => .int (i / j)
def rPowI : R2 := rI CPow fun i j => .int (i ^ j.toNat)
def rLtI : R2 := rI0 fun i j => .bl (decide (i < j))
def rLeI : R2 := rI0 fun i j => .bl (decide (i ≤ j))
def rGtI : R2 := rI0 fun i j => .bl (decide (j < i))
def rGeI : R2 := rI0 fun i j => .bl (decide (j ≤ i))
def rIsTyB : R2 := fun x y H Q => ∃ a b, x = .ty a ∧ y = .ty b ∧ Q (.bl (decide (a = b))) H
def rIsB1 : R2 := fun x y H Q => ∃ a b, x = .bl a ∧ y = .bl b ∧ Q (.bl (decide (a = b))) H
def rLenSq (K : PySem.W.Frag) : List V → Hp → VK → Prop := fun xs H Q => ∃ p ys, xs = [.ref p] ∧ (SqL K H p ys ∨ SqT K H p ys) ∧ Q (.int ys.length) H
def rAddStr : R2 := fun x y H Q => ∃ i j, x = .str i ∧ y = .str j ∧ i.length + j.length ≤ sizeLine ∧ Q (.str (i ++ j)) H
def rMin2 : List V → Hp → VK → Prop := fun xs H Q => ∃ i j, xs = [.int i, .int j] ∧ Q (.int (if j < i then j else i)) H
def rMax2 : List V → Hp → VK → Prop := fun xs H Q => ∃ i j, xs = [.int i, .int j] ∧ Q (.int (if j > i then j else i)) H
def rInt1 : List V → Hp → VK → Prop := fun xs H Q => (∃ i, xs = [.int i] ∧ Q (.int i) H) ∨ ∃ k, xs = [.bl k] ∧ Q (.int (if k then 1 else 0)) H
def rListOf (K : PySem.W.Frag) : List V → Hp → VK → Prop := fun xs H Q => ∃ p ys, xs = [.ref p] ∧ (SqL K H p ys ∨ SqT K H p ys) ∧ ∀ l, H l = none → Q (.ref l) (upd H l (.lst ys))
def rTupleOf (K : PySem.W.Frag) : List V → Hp → VK → Prop := fun xs H Q => ∃ p ys, xs = [.ref p] ∧ ((SqL K H p ys ∧ ∀ l, H l = none → Q (.ref l) (upd H l (.tup ys))) ∨ (SqT K H p ys ∧ Q (.ref p) H))
def ipAdd : TIp := ipI fun i j => i + j
def ipSub : TIp := ipI fun i j => i - j
def tTru (K : PySem.W.Frag) (te : TE) : TT := fun σ H Q => te σ H fun x H' => ∃ k, TruV K x H' k ∧ Q k H'
def tRaise (c : Addr) (E : XK) : TS := fun _ _ H => E (.ref c) none H
def iSeq (K : PySem.W.Frag) (tl : TE) : TI := fun σ H R => iList K tl σ H R ∨ iTup K tl σ H R
def SqA (K : PySem.W.Frag) (H : Hp) (a : Addr) (xs : List V) : Prop := SqL K H a xs ∨ SqT K H a xs
theorem item_of0 {ns : List Int} {i : Nat} {y : V} (hi : (ns.map V.int)[i]? = some y) : ∃ z, ns[i]? = some z ∧ y = V.int z := by
  rw [List.getElem?_map] at hi
  cases e : ns[i]? with
  | none => rw [e] at hi; cases hi
  | some z => rw [e] at hi; exact ⟨z, rfl, (Option.some.inj hi).symm⟩
/-! ### rules -/
section
variable {X : Cx}
theorem pe_gl {x : Str} {v : V} {pos : Pos} (hg : Gl X x) (h : ∃ u, X.mg x = some u ∧ RelV v u) (hd : (x == ("__debug__" : Str)) = false := by decide) : PE X (.Name x pos) (tC v) := by
  obtain ⟨u, hm, r⟩ := h
  exact pe_glob hg hm r hd
theorem pe_cb {CX : CXT} {k : Nat} {f : Addr} {ps : List Str} {sp : Sp} {E : XK} {x : Str} {p pos : Pos} {e : Expr} {es : List Expr} {t : TA} (G : Cb X.prog X.w X.K X.mg X.base CX k x f ps sp) (hr : Room k X.A) (hg : Gl X x) (hx : Passes CX X E) (ha : PA X (e :: es) t)
    (hdb : (x == ("__debug__" : Str)) = false := by decide) (he : starEach (e :: es) X.env = (false, eval e X.env) :: starEach es X.env := by rfl) (hpl : (backTo pos (starEach es X.env)).any (·.1) = false := by rfl) :
    PE X (.Call (.Name x p) (e :: es) [] pos) (tCall sp [] E t) := by
  obtain ⟨⟨fd, F, b⟩, g, kp⟩ := G
  exact pe_call F hr hg g kp b .nil hx ha hdb he hpl
theorem pe_cbS {CX : CXT} {k : Nat} {f : Addr} {ps : List Str} {sp : Sp} {E : L2.St → XK} {x : Str} {p pos : Pos} {e : Expr} {es : List Expr} {t : TA} (G : Cb X.prog X.w X.K X.mg X.base CX k x f ps sp) (hr : Room k X.A) (hg : Gl X x) (hx : ∀ σ, PassesAt CX X σ (E σ)) (ha : PA X (e :: es) t)
    (hdb : (x == ("__debug__" : Str)) = false := by decide) (he : starEach (e :: es) X.env = (false, eval e X.env) :: starEach es X.env := by rfl) (hpl : (backTo pos (starEach es X.env)).any (·.1) = false := by rfl) :
    PE X (.Call (.Name x p) (e :: es) [] pos) (tCallS sp E t) := by
  obtain ⟨⟨fd, F, b⟩, g, kp⟩ := G
  exact pe_callS F hr hg g kp b hx ha hdb he hpl
theorem pi_seq {tg l : Expr} {tl : TE} (hl : PE X l tl) : PI X tg l (iSeq X.K tl) :=
  ⟨fun pins s σ H R I h => h.elim (fun h => (pi_list hl).run pins s σ H R I h) (fun h => (pi_tup hl).run pins s σ H R I h)⟩
/-- xs[i], by values: for xs[i] += e -/
theorem gt_list : PGet X (rIxL X.K) := by
  intro pins s σ H x y v u Q I rx ry h
  obtain ⟨p, xs, i, z, rfl, rfl, hq, he, q⟩ := h
  cases rx
  obtain ⟨t, rfl⟩ := ry
  obtain ⟨its, r, pl, hz⟩ := I.list hq
  obtain ⟨j, h1, h2, h3, h4, h5⟩ := atI_get he
  obtain ⟨w, ew, rw'⟩ := r.get h2
  have hl := r.length
  have hn := line63
  have fin : EP X pins σ Q w s := ⟨z, H, I, rw', q⟩
  by_cases h0 : 0 ≤ i
  · have hj : i.toNat = j := by
      rw [seqIndex_of h0 h5] at h1
      exact Option.some.inj h1
    exact wpAny_getItem_list pl.isList h0 (by omega) (by rw [hj]; simpa using ew) fin
  · have hj : (i + (its.toArray.size : Int)).toNat = j := by
      rw [seqIndex_neg (by omega) h4] at h1
      rw [List.size_toArray, ← hl]
      exact Option.some.inj h1
    exact wpAny_getItem_list_neg pl.isList (by omega) (by rw [List.size_toArray] <;> omega) (by omega) (by rw [hj]; simpa using ew) fin
/-! ### min(xs, default=d), xs a list of whole numbers -/
theorem minOf_int : ∀ (ys : List Int) (y : Int), PySem.W.minOf y ys ∈ y :: ys ∧ ∀ z ∈ y :: ys, PySem.W.minOf y ys ≤ z
  | [], y => ⟨List.mem_singleton.mpr rfl, fun z hz => by rw [List.mem_singleton.mp hz]; exact Int.le_refl _⟩
  | x :: r, y => by
    have e : PySem.W.minOf y (x :: r) = PySem.W.minOf (if x < y then x else y) r := by
      show PySem.W.minOf (if (decide (x < y)) = true then x else y) r = _
      by_cases h : x < y <;> simp [h]
    obtain ⟨h1, h2⟩ := minOf_int r (if x < y then x else y)
    rw [e]
    refine ⟨?_, fun z hz => ?_⟩
    · rcases List.mem_cons.mp h1 with k | k
      · rw [k]
        by_cases h : x < y <;> simp [h]
      · simp [k]
    · have hc := h2 _ (List.mem_cons_self)
      rcases List.mem_cons.mp hz with k | k
      · subst k
        by_cases h : x < z
        · rw [if_pos h] at hc ⊢
          omega
        · rw [if_neg h] at hc ⊢
          exact hc
      · rcases List.mem_cons.mp k with k | k
        · subst k
          by_cases h : z < y
          · rw [if_pos h] at hc ⊢
            exact hc
          · rw [if_neg h] at hc ⊢
            omega
        · exact h2 z (List.mem_cons_of_mem _ k)
def rMinD (K : PySem.W.Frag) : List V → List V → Hp → VK → Prop := fun vs zs H Q => ∃ (p : Addr) (d : V) (ns : List Int), vs = [.ref p] ∧ zs = [d] ∧ SqL K H p (ns.map V.int) ∧
  (ns = [] → Q d H) ∧ ∀ m, m ∈ ns → (∀ y ∈ ns, m ≤ y) → Q (.int m) H
def tMinD (K : PySem.W.Frag) (ta td : TE) : TE := tCKw (rMinD K) (tCons ta tNil) (tCons td tNil)
theorem dp_ints {K : PySem.W.Frag} {H : Hp} : ∀ ns : List Int, DpAll K H (ns.map V.int) (ns.map PyData.int)
  | [] => .nil
  | n :: r => .cons (.int n) (dp_ints r)
theorem cr_minD (hc : X.calm = true) (hu : X.A.units + 64 < cLine) : CallRK X (.builtin "min") [Str.ofString "default"] (rMinD X.K) := by
  intro pins s σ H vs zs us ws Q I r rz h
  obtain ⟨p, d, ns, rfl, rfl, hs, q0, q1⟩ := h
  obtain ⟨w, rfl, rw'⟩ := vals1 rz
  obtain ⟨its, rv, hl, _⟩ := I.list hs
  rw [Vals.ref1 r]
  obtain ⟨as, ra⟩ := Dp.readsAll I (ns.map PyData.int) _ its (dp_ints ns) rv
  have HA : PySem.W.HoldAll s.heap its.toArray.toList ns := ⟨as, ra⟩
  refine PySem.W.min_list_datum_default (I.ok.hd hc) hl.isList HA (by show X.A.units + 1 + PySem.W.Datum.depth Int < cLine; have e : PySem.W.Datum.depth Int = 0 := rfl; rw [e]; omega) (fun e h' tk hk => ⟨d, H, I.kept hk, rw', q0 e⟩) fun y ys i v h' tk e hi hv hk => ?_
  subst e
  obtain ⟨as2, r2⟩ := hv
  have hi' : its[i]? = some v := by simpa using hi
  have hlen := rv.length
  have hlt : i < ((y :: ys).map V.int).length := by rw [hlen]; exact (List.getElem?_eq_some_iff.mp hi').1
  obtain ⟨u, hu1, hu2⟩ := rv.get (List.getElem?_eq_getElem hlt)
  rw [hi'] at hu1
  cases hu1
  obtain ⟨z, hz, ez⟩ := item_of0 (List.getElem?_eq_getElem hlt)
  rw [ez] at hu2
  obtain ⟨t, rfl⟩ := hu2
  have em : PySem.W.minOf y ys = z := by
    have r2' : Reads h' (.int z t) (.int (PySem.W.minOf y ys)) as2 := r2
    cases r2'
    rfl
  obtain ⟨m1, m2⟩ := minOf_int ys y
  rw [em] at m1 m2
  exact ⟨.int z, H, I.kept hk, ⟨_, rfl⟩, q1 z m1 m2⟩
theorem pe_minD {p pos kpos : Pos} {e d : Expr} {ta td : TE} (hc : X.calm = true) (hu : X.A.units + 64 < cLine) (hg : Gl X "min") (hm : X.mg "min" = none) (ha : PE X e ta) (hd : PE X d td)
    (he : backTo pos (starEach (e :: []) X.env) = (false, eval e X.env) :: backTo pos (starEach [] X.env) := by rfl) (hse : starEach (e :: []) X.env = (false, eval e X.env) :: starEach [] X.env := by rfl) (hpl : (backTo pos (starEach (e :: []) X.env)).any (·.1) = false := by rfl)
    (hall : (backToKw pos (keywordEach [⟨some (Str.ofString "default"), d, kpos⟩] X.env)).all (·.1.isSome) = true := by rfl) (hnone : (backToKw pos (keywordEach [⟨some (Str.ofString "default"), d, kpos⟩] X.env)).any (·.1.isNone) = false := by rfl)
    (hks : (backToKw pos (keywordEach [⟨some (Str.ofString "default"), d, kpos⟩] X.env)).filterMap (·.1) = [Str.ofString "default"] := by rfl) :
    PE X (.Call (.Name "min" p) [e] [⟨some (Str.ofString "default"), d, kpos⟩] pos) (tMinD X.K ta td) :=
  pe_callBK (cr_minD hc hu) hg hm (by decide +kernel) (pa_cons ha pa_nil hse) (pk_cons hd pk_nil) (by decide) (by decide) he hpl hall hnone hks
end
/-! ### == and != of data -/
def rEqT (K : PySem.W.Frag) : R2 := fun x y H Q => ∃ (α : Type) (_ : DecidableEq α) (_ : PySem.W.Datum α) (a b : α), Dp K H x (PySem.W.Datum.toD a) ∧ Dp K H y (PySem.W.Datum.toD b) ∧ PySem.W.Datum.depth α ≤ 64 ∧ Q (.bl (decide (a = b))) H
def rNeT (K : PySem.W.Frag) : R2 := fun x y H Q => ∃ (α : Type) (_ : DecidableEq α) (_ : PySem.W.Datum α) (a b : α), Dp K H x (PySem.W.Datum.toD a) ∧ Dp K H y (PySem.W.Datum.toD b) ∧ PySem.W.Datum.depth α ≤ 64 ∧ Q (.bl (decide (a ≠ b))) H
section
variable {X : Cx}
theorem op_eqT (hu : X.A.units + 64 < cLine) : OpR X (compareOp .Eq) (rEqT X.K) := by
  intro pins s σ H x y v u Q I rx ry h
  obtain ⟨α, d1, d2, a, b, ha, hb, hd, q⟩ := h
  exact PySem.W.eq_datum (Dp.reads I _ x v ha rx) (Dp.reads I _ y u hb ry) (by omega) ⟨.bl _, H, I, rfl, q⟩
theorem op_neT (hu : X.A.units + 64 < cLine) : OpR X (compareOp .NotEq) (rNeT X.K) := by
  intro pins s σ H x y v u Q I rx ry h
  obtain ⟨α, d1, d2, a, b, ha, hb, hd, q⟩ := h
  exact PySem.W.ne_datum (Dp.reads I _ x v ha rx) (Dp.reads I _ y u hb ry) (by omega) ⟨.bl _, H, I, rfl, q⟩
end
theorem eqT_of {K : PySem.W.Frag} {x y : V} {H : Hp} {Q : VK} {α : Type} [DecidableEq α] [PySem.W.Datum α] {a b : α} (ha : Dp K H x (PySem.W.Datum.toD a)) (hb : Dp K H y (PySem.W.Datum.toD b)) (hd : PySem.W.Datum.depth α ≤ 64) (q : Q (.bl (decide (a = b))) H) : rEqT K x y H Q := ⟨α, _, _, a, b, ha, hb, hd, q⟩
theorem neT_of {K : PySem.W.Frag} {x y : V} {H : Hp} {Q : VK} {α : Type} [DecidableEq α] [PySem.W.Datum α] {a b : α} (ha : Dp K H x (PySem.W.Datum.toD a)) (hb : Dp K H y (PySem.W.Datum.toD b)) (hd : PySem.W.Datum.depth α ≤ 64) (q : Q (.bl (decide (a ≠ b))) H) : rNeT K x y H Q := ⟨α, _, _, a, b, ha, hb, hd, q⟩
theorem ho_ints {K : PySem.W.Frag} {H : Hp} {p : Addr} {ns : List Int} (h : SqL K H p (ns.map V.int)) : Dp K H (.ref p) (PySem.W.Datum.toD ns) := .lst h (dp_ints ns)
/-! ### heaps -/
theorem same_new {H : Hp} {p : Addr} {o : HO} (h : H p = none) : Same H (upd H p o) := fun b x e => by
  rw [upd_ne (ne_of_none e h)]
  exact e
/-- what stood ahead of an object's making stands behind a store into it -/
theorem _root_.L2.Same.store {H H' : Hp} {p : Addr} {o : HO} (s : Same H H') (h : H p = none) : Same H (upd H' p o) := fun b x e => by
  rw [upd_ne (ne_of_none e h)]
  exact s b x e
theorem _root_.L2.Same.seqT {K : PySem.W.Frag} {H H' : Hp} {a : Addr} {xs : List V} (e : Same H H') (h : SqT K H a xs) : SqT K H' a xs := by
  rcases h with (h | ⟨o, h⟩) | h
  · exact .inl (.inl (e _ _ h))
  · exact .inl (.inr ⟨o, e _ _ h⟩)
  · exact .inr h
theorem _root_.L2.Same.seqA {K : PySem.W.Frag} {H H' : Hp} {a : Addr} {xs : List V} (e : Same H H') (h : SqA K H a xs) : SqA K H' a xs := h.elim (fun h => .inl (e.seq h)) (fun h => .inr (e.seqT h))
theorem sqL_of {K : PySem.W.Frag} {H : Hp} {a : Addr} {xs : List V} (h : H a = some (.lst xs)) : SqL K H a xs := .inl (.inl h)
theorem sqT_of {K : PySem.W.Frag} {H : Hp} {a : Addr} {xs : List V} (h : H a = some (.tup xs)) : SqT K H a xs := .inl (.inl h)
/-! ### loops and comprehensions in short -/
theorem for_seq {K : PySem.W.Frag} {a : Addr} {xs : List V} {tl : TE} {g : TG} {tb : TS} {D : Ends} {σ : L2.St} {H0 H : Hp} (ht : ∀ Q : VK, Q (.ref a) H → tl σ H Q) (hA : SqA K H0 a xs) (Pv : Nat → L2.St → Hp → Prop) (h0 : Pv 0 σ H) (hl : ∀ i σ H', Pv i σ H' → Same H0 H')
    (hs : ∀ i x σ H, xs[i]? = some x → Pv i σ H → g x σ H fun σ2 H2 => tb { D with nx := Pv (i + 1), ct := Pv (i + 1), bk := D.nx } σ2 H2) (hd : ∀ σ H, Pv xs.length σ H → D.nx σ H) : tFor (iSeq K tl) g tb D σ H := by
  rcases hA with h | h
  · exact .inl (ht _ ⟨a, rfl, ⟨_, (hl _ _ _ h0).seq h⟩, for_list (K := K) (a := a) Pv h0 (fun i σ H' _ p => (hl i σ H' p).seq h) hs hd⟩)
  · exact .inr (ht _ ⟨a, rfl, ⟨_, (hl _ _ _ h0).seqT h⟩, for_tup (K := K) (a := a) Pv h0 (fun i σ H' _ p => (hl i σ H' p).seqT h) hs hd⟩)
theorem take_more {α : Type} : ∀ {l : List α} {i : Nat} {x : α}, l[i]? = some x → l.take (i + 1) = l.take i ++ [x] := fun {l i x} h => by
  rw [List.take_add_one, h]
  rfl
theorem item_of {ns : List Int} {i : Nat} {y : V} (hi : (ns.map V.int)[i]? = some y) : ∃ z, ns[i]? = some z ∧ y = V.int z := by
  rw [List.getElem?_map] at hi
  cases e : ns[i]? with
  | none => rw [e] at hi; cases hi
  | some z => rw [e] at hi; exact ⟨z, rfl, (Option.some.inj hi).symm⟩
/-- a comprehension over anything that gives n values it 0, it 1 .. and leaves what is tracked; p the test, f the element -/
theorem lc_pure {J : It} {n : Nat} {G : Hp → Prop} {tt : TT} {te : TE} {g : TG} {vs : List Nat} {σ : L2.St} {H1 : Hp} {Qd : Addr → Hp → Prop} {Y : Nat → Hp → V → Hp → Prop} {α : Type} (w : Walk J n G Y) (hn : n < sizeLine) (xs : List α) (hx : xs.length = n) (p : α → Bool) (f : α → V) (hG : ∀ H', Same H1 H' → G H')
    (hs : ∀ i (x : α) (v : V) (H H' : Hp) (R : Bool → V → Hp → Prop), xs[i]? = some x → Same H1 H → Y i H v H' → (∀ y H'', Same H H'' → (p x = true → y = f x) → R (p x) y H'') →
      g v (wipe σ vs) H' fun σ2 H2 => wipe σ2 vs = wipe σ vs ∧ tt σ2 H2 fun b H3 => if b = true then te σ2 H3 fun y H4 => R true y H4 else R false .non H3)
    (hQ : ∀ D H', H1 D = none → Same H1 H' → H' D = some (.lst ((xs.filter p).map f)) → Qd D H') :
    ∀ D, H1 D = none → ∃ W : Nat → Nat → Hp → Prop, (∃ m, W 0 m (upd H1 D (.lst []))) ∧ ∀ i m H, W i m H →
      (J.stop i H ∧ Qd D H) ∨ (J.go i H ∧ ∃ Nx : Hp → Prop, (∀ H', Nx H' → ∃ m', m' < m ∧ W (i + 1) m' H') ∧ ∀ x H', J.yld i H x H' → g x (wipe σ vs) H' fun σ2 H2 => wipe σ2 vs = wipe σ vs ∧ tt σ2 H2 fun b H3 =>
        if b = true then te σ2 H3 fun y H4 => ∃ acc, H4 D = some (.lst acc) ∧ acc.length < sizeLine ∧ Nx (upd H4 D (.lst (acc ++ [y]))) else Nx H3) := by
  intro D hD
  refine lc_it w (fun i H => Same H1 H ∧ H D = some (.lst (((xs.take i).filter p).map f))) ⟨same_new hD, upd_same⟩ (fun i H _ h => hG H h.1) ?_ ?_
  · intro i v H H' hi ⟨s, e⟩ y
    have hi' : i < xs.length := by omega
    have hx' : xs[i]? = some xs[i] := List.getElem?_eq_getElem hi'
    have fin := hs i xs[i] v H H' (fun b y H4 => if b = true then ∃ acc, H4 D = some (.lst acc) ∧ acc.length < sizeLine ∧ (Same H1 (upd H4 D (.lst (acc ++ [y]))) ∧ (upd H4 D (.lst (acc ++ [y]))) D = some (.lst (((xs.take (i + 1)).filter p).map f))) else Same H1 H4 ∧ H4 D = some (.lst (((xs.take (i + 1)).filter p).map f))) hx' s y ?_
    · exact fin
    · intro y H4 s4 hy
      have e4 := s4 _ _ e
      rw [take_more hx', List.filter_append, List.map_append]
      cases hp : p xs[i] with
      | true =>
        rw [if_pos rfl]
        refine ⟨_, e4, ?_, (s.trans s4).store hD, ?_⟩
        · rw [List.length_map]
          refine Nat.lt_of_le_of_lt (List.length_filter_le _ _) (Nat.lt_of_le_of_lt (List.length_take_le _ _) ?_)
          omega
        · rw [upd_same, hy hp]
          simp [List.filter, hp]
      | false =>
        rw [if_neg Bool.false_ne_true]
        refine ⟨s.trans s4, ?_⟩
        rw [e4]
        simp [List.filter, hp]
  · intro H ⟨s, e⟩
    rw [← hx, List.take_length] at e
    exact hQ D H hD s e

/-! ### what is a number, a quay, wishes -/
def isInt : V → Bool
  | .int _ => true
  | _ => false
def inB (lo hi : Int) : V → Bool
  | .int i => decide (lo ≤ i) && decide (i ≤ hi)
  | _ => false
def goodW (n : Nat) (xs : List V) : Bool := decide (xs.length ≤ 400) && xs.all (inB 1 n)
/-- what a check of a quay and of wishes for it comes to: R behind a good one -/
def ChkQ (K : PySem.W.Frag) (a : Ad) (b : V) (H : Hp) (E : XK) (R : Nat → Prop) : Prop := ∃ T, TyB K H b T ∧ ((inB 1 400 b = false ∧ E (.ref a.e_NoQuay) none H) ∨ ∃ n : Nat, b = .int n ∧ 1 ≤ n ∧ n ≤ 400 ∧ R n)
def ChkW (K : PySem.W.Frag) (a : Ad) (b w : V) (H : Hp) (E : XK) (R : Nat → List Int → Addr → Prop) : Prop := ChkQ K a b H E fun n =>
  (∃ T, TyB K H w T ∧ T ≠ "list" ∧ T ≠ "tuple" ∧ E (.ref a.e_NoWishes) none H) ∨
  ∃ p xs, w = .ref p ∧ SqA K H p xs ∧ (∀ x ∈ xs, ∃ T, TyB K H x T) ∧ ((goodW n xs = false ∧ E (.ref a.e_NoWishes) none H) ∨
    ∃ ws : List Int, xs = ws.map V.int ∧ ws.length ≤ 400 ∧ (∀ x ∈ ws, 1 ≤ x ∧ x ≤ n) ∧ R n ws p)
theorem ChkQ.imp {K : PySem.W.Frag} {a : Ad} {b : V} {H : Hp} {E : XK} {R R' : Nat → Prop} (h : ChkQ K a b H E R) (k : ∀ n : Nat, b = .int n → 1 ≤ n → n ≤ 400 → R n → R' n) : ChkQ K a b H E R' := by
  obtain ⟨T, ty, h | ⟨n, e, h1, h2, r⟩⟩ := h
  · exact ⟨T, ty, .inl h⟩
  · exact ⟨T, ty, .inr ⟨n, e, h1, h2, k n e h1 h2 r⟩⟩
theorem ChkW.imp {K : PySem.W.Frag} {a : Ad} {b w : V} {H : Hp} {E : XK} {R R' : Nat → List Int → Addr → Prop} (h : ChkW K a b w H E R)
    (k : ∀ (n : Nat) (ws : List Int) (p : Addr), b = .int n → w = .ref p → 1 ≤ n → n ≤ 400 → SqA K H p (ws.map V.int) → ws.length ≤ 400 → (∀ x ∈ ws, 1 ≤ x ∧ x ≤ n) → R n ws p → R' n ws p) : ChkW K a b w H E R' := by
  refine ChkQ.imp h fun n e h1 h2 r => ?_
  rcases r with r | ⟨p, xs, ew, hs, ht, r | ⟨ws, ex, hl, hb, r⟩⟩
  · exact .inl r
  · exact .inr ⟨p, xs, ew, hs, ht, .inl r⟩
  · exact .inr ⟨p, xs, ew, hs, ht, .inr ⟨ws, ex, hl, hb, k n ws p e ew h1 h2 (ex ▸ hs) hl hb r⟩⟩
/-- a check that is passed -/
theorem ChkQ.ok {K : PySem.W.Frag} {a : Ad} {H : Hp} {E : XK} {R : Nat → Prop} {n : Nat} (h1 : 1 ≤ n) (h2 : n ≤ 400) (r : R n) : ChkQ K a (.int n) H E R := ⟨_, .int _, .inr ⟨n, rfl, h1, h2, r⟩⟩
theorem ChkW.ok {K : PySem.W.Frag} {a : Ad} {H : Hp} {E : XK} {R : Nat → List Int → Addr → Prop} {n : Nat} {ws : List Int} {p : Addr} (h1 : 1 ≤ n) (h2 : n ≤ 400) (hs : SqA K H p (ws.map V.int)) (hl : ws.length ≤ 400) (hb : ∀ x ∈ ws, 1 ≤ x ∧ x ≤ n) (r : R n ws p) : ChkW K a (.int n) (.ref p) H E R :=
  ChkQ.ok h1 h2 (.inr ⟨p, _, rfl, hs, fun x hx => by
    obtain ⟨i, _, rfl⟩ := List.mem_map.mp hx
    exact ⟨_, .int i⟩, .inr ⟨ws, rfl, hl, hb, r⟩⟩)
theorem goodW_ints {n : Nat} {ws : List Int} : goodW n (ws.map V.int) = true ↔ ws.length ≤ 400 ∧ ∀ x ∈ ws, 1 ≤ x ∧ x ≤ n := by
  unfold goodW
  simp [inB]
theorem inB_int {lo hi : Int} {v : V} (h : inB lo hi v = true) : ∃ i, v = .int i ∧ lo ≤ i ∧ i ≤ hi := by
  cases v with
  | int i =>
    simp only [inB, Bool.and_eq_true, decide_eq_true_eq] at h
    exact ⟨i, rfl, h⟩
  | _ => cases h
theorem goodW_of {n : Nat} {xs : List V} (h : goodW n xs = true) : ∃ ws : List Int, xs = ws.map V.int ∧ ws.length ≤ 400 ∧ ∀ x ∈ ws, 1 ≤ x ∧ x ≤ n := by
  unfold goodW at h
  simp only [Bool.and_eq_true, decide_eq_true_eq, List.all_eq_true] at h
  obtain ⟨h1, h2⟩ := h
  have e : ∃ ws : List Int, xs = ws.map V.int := by
    clear h1
    induction xs with
    | nil => exact ⟨[], rfl⟩
    | cons x r ih =>
      obtain ⟨ws, e⟩ := ih fun y hy => h2 y (List.mem_cons_of_mem _ hy)
      obtain ⟨i, ei, _⟩ := inB_int (h2 x List.mem_cons_self)
      exact ⟨i :: ws, by rw [ei, e]; rfl⟩
  obtain ⟨ws, rfl⟩ := e
  refine ⟨ws, rfl, by simpa using h1, fun x hx => ?_⟩
  obtain ⟨i, ei, h3, h4⟩ := inB_int (h2 (.int x) (List.mem_map_of_mem hx))
  cases ei
  exact ⟨h3, h4⟩
theorem tyb_int {K : PySem.W.Frag} {H : Hp} {x : V} {T : String} (h : TyB K H x T) : decide (T = "int") = isInt x := by
  cases h <;> first | rfl | decide
theorem tyb_ref {K : PySem.W.Frag} {H : Hp} {x : V} {T : String} (h : TyB K H x T) (e : T = "list" ∨ T = "tuple") : ∃ p xs, x = .ref p ∧ SqA K H p xs := by
  cases h with
  | lst h => exact ⟨_, _, rfl, .inl h⟩
  | tup h => exact ⟨_, _, rfl, .inr h⟩
  | non => rcases e with e | e <;> exact absurd e (by decide)
  | bl => rcases e with e | e <;> exact absurd e (by decide)
  | int => rcases e with e | e <;> exact absurd e (by decide)
  | str => rcases e with e | e <;> exact absurd e (by decide)
  | byt => rcases e with e | e <;> exact absurd e (by decide)
  | dK => rcases e with e | e <;> exact absurd e (by decide)
theorem SqA.ty {K : PySem.W.Frag} {H : Hp} {p : Addr} {xs : List V} (h : SqA K H p xs) : ∃ T, TyB K H (.ref p) T ∧ (decide (T = "list") || decide (T = "tuple")) = true := by
  rcases h with h | h
  · exact ⟨_, .lst h, by decide⟩
  · exact ⟨_, .tup h, by decide⟩
/-! is_number, is_from_to, is_row -/
def sp_is_number (K : PySem.W.Frag) (a : Ad) : Sp := fun vs H Q _ => ∃ x T, vs = [x] ∧ TyB K H x T ∧ Q (.bl (isInt x)) H
abbrev N_is_number : List Str := ["thing"]
def t_is_number (K : PySem.W.Frag) (a : Ad) : TS :=
  (tRet (tOp rIsTyB (tCB (rTyp K) (tCons (tVar 0) tNil)) (tC (.ty "int"))))
theorem len_is_number {K : PySem.W.Frag} {a : Ad} {vs : List V} {H : Hp} {Q : VK} {E : XK} (h : sp_is_number K a vs H Q E) : vs.length = 1 := by
  obtain ⟨x, T, rfl, _⟩ := h
  rfl
theorem pu_is_number {K : PySem.W.Frag} {a : Ad} {vs : List V} {H : Hp} {Q : VK} {E : XK} (h : sp_is_number K a vs H Q E) : t_is_number K a { nx := fun _ H' => Q .non H', rt := Q } (start N_is_number vs) H := by
  obtain ⟨x, T, rfl, ty, q⟩ := h
  refine ⟨x, rfl, x, T, rfl, ty, _, _, rfl, rfl, ?_⟩
  rw [tyb_int ty]
  exact q
def sp_is_from_to (K : PySem.W.Frag) (a : Ad) : Sp := fun vs H Q _ => ∃ lo hi x T, vs = [.int lo, .int hi, x] ∧ TyB K H x T ∧ Q (.bl (inB lo hi x)) H
abbrev N_is_from_to : List Str := ["low", "high", "thing"]
def t_is_from_to (K : PySem.W.Frag) (a : Ad) : TS :=
  (tRet (tAndV (tCall (sp_is_number K a) [] E0 (tCons (tVar 2) tNil)) (tChain rLeI rLeI (tVar 0) (tVar 2) (tVar 1))))
theorem len_is_from_to {K : PySem.W.Frag} {a : Ad} {vs : List V} {H : Hp} {Q : VK} {E : XK} (h : sp_is_from_to K a vs H Q E) : vs.length = 3 := by
  obtain ⟨lo, hi, x, T, rfl, _⟩ := h
  rfl
theorem pu_is_from_to {K : PySem.W.Frag} {a : Ad} {vs : List V} {H : Hp} {Q : VK} {E : XK} (h : sp_is_from_to K a vs H Q E) : t_is_from_to K a { nx := fun _ H' => Q .non H', rt := Q } (start N_is_from_to vs) H := by
  obtain ⟨lo, hi, x, T, rfl, ty, q⟩ := h
  refine ⟨x, rfl, x, T, rfl, ty, isInt x, rfl, ?_⟩
  cases x with
  | int i =>
    refine iteT ⟨_, rfl, _, rfl, lo, i, rfl, rfl, _, rfl, ?_⟩
    by_cases h1 : lo ≤ i
    · rw [decide_eq_true h1]
      refine iteT ⟨_, rfl, i, hi, rfl, rfl, ?_⟩
      have e : inB lo hi (.int i) = decide (i ≤ hi) := by simp [inB, h1]
      rw [e] at q
      exact q
    · rw [decide_eq_false h1]
      have e : inB lo hi (.int i) = false := by simp [inB, h1]
      rw [e] at q
      exact iteF q
  | _ => exact iteF q
/-! check_quay, check_wishes -/
def sp_check_quay (K : PySem.W.Frag) (a : Ad) : Sp := fun vs H Q E => ∃ b, vs = [b] ∧ ChkQ K a b H E fun _ => Q .non H
abbrev N_check_quay : List Str := ["berths"]
def t_check_quay (K : PySem.W.Frag) (a : Ad) (E : XK) : TS :=
  (tIfS (tNot (tB (tCall (sp_is_from_to K a) [] E0 (tCons (tC (.int 1)) (tCons (tC (.int 400)) (tCons (tVar 0) tNil)))))) (tRaise a.e_NoQuay E) tNext)
theorem len_check_quay {K : PySem.W.Frag} {a : Ad} {vs : List V} {H : Hp} {Q : VK} {E : XK} (h : sp_check_quay K a vs H Q E) : vs.length = 1 := by
  obtain ⟨b, rfl, _⟩ := h
  rfl
theorem pu_check_quay {K : PySem.W.Frag} {a : Ad} {vs : List V} {H : Hp} {Q : VK} {E : XK} (h : sp_check_quay K a vs H Q E) : t_check_quay K a E { nx := fun _ H' => Q .non H', rt := Q } (start N_check_quay vs) H := by
  obtain ⟨b, rfl, T, ty, h⟩ := h
  refine ⟨b, rfl, 1, 400, b, T, rfl, ty, inB 1 400 b, rfl, ?_⟩
  rcases h with ⟨e, q⟩ | ⟨n, rfl, h1, h2, q⟩
  · rw [e]
    exact iteT q
  · have e : inB 1 400 (.int n) = true := by simp [inB]; omega
    rw [e]
    exact iteF q
/-! ### the straight quay: the mathematics of laying -/
/-- the first free one of k berths from w on -/
def ffr (occ : Int → Bool) : Nat → Int → Option Int
  | 0, _ => none
  | k + 1, w => if occ w = true then ffr occ k (w + 1) else some w
def ffree (n : Nat) (occ : Int → Bool) (w : Int) : Option Int := ffr occ ((n : Int) + 1 - w).toNat w
def setO (occ : Int → Bool) (b : Int) : Int → Bool := fun x => decide (x = b) || occ x
def pstep (n : Nat) (s : (Int → Bool) × List (Option Int)) (w : Int) : (Int → Bool) × List (Option Int) :=
  match ffree n s.1 w with
  | none => (s.1, s.2 ++ [none])
  | some b => (setO s.1 b, s.2 ++ [some b])
def prun (n : Nat) (ws : List Int) : (Int → Bool) × List (Option Int) := ws.foldl (pstep n) (fun _ => false, [])
def placedL (n : Nat) (ws : List Int) : List (Option Int) := (prun n ws).2
def vO : Option Int → V
  | none => .non
  | some b => .int b
def heldL (n : Nat) (occ : Int → Bool) : List V := (List.range (n + 1)).map fun (i : Nat) => V.bl (occ (i : Int))
theorem ffr_spec {occ : Int → Bool} : ∀ (k : Nat) (w : Int), (∀ b, ffr occ k w = some b → w ≤ b ∧ b < w + k ∧ occ b = false ∧ ∀ x, w ≤ x → x < b → occ x = true) ∧ (ffr occ k w = none → ∀ x, w ≤ x → x < w + k → occ x = true)
  | 0, w => ⟨fun b h => (by cases h), fun _ x h1 h2 => by omega⟩
  | k + 1, w => by
    obtain ⟨i1, i2⟩ := ffr_spec (occ := occ) k (w + 1)
    unfold ffr
    cases e : occ w with
    | true =>
      rw [if_pos rfl]
      refine ⟨fun b h => ?_, fun h x h1 h2 => ?_⟩
      · obtain ⟨j1, j2, j3, j4⟩ := i1 b h
        refine ⟨by omega, by omega, j3, fun x h1 h2 => ?_⟩
        by_cases z : x = w
        · rw [z]; exact e
        · exact j4 x (by omega) h2
      · by_cases z : x = w
        · rw [z]; exact e
        · exact i2 h x (by omega) (by omega)
    | false =>
      rw [if_neg Bool.false_ne_true]
      refine ⟨fun b h => ?_, fun h => (by cases h)⟩
      cases h
      exact ⟨Int.le_refl _, by omega, e, fun x h1 h2 => by omega⟩
theorem ffree_some {n : Nat} {occ : Int → Bool} {w b : Int} (h : ffree n occ w = some b) : w ≤ b ∧ b ≤ n ∧ occ b = false ∧ ∀ x, w ≤ x → x < b → occ x = true := by
  obtain ⟨h1, h2, h3, h4⟩ := (ffr_spec _ _).1 b h
  exact ⟨h1, by omega, h3, h4⟩
theorem ffree_none {n : Nat} {occ : Int → Bool} {w : Int} (h : ffree n occ w = none) : ∀ x, w ≤ x → x ≤ n → occ x = true := fun x h1 h2 => (ffr_spec _ _).2 h x h1 (by omega)
theorem prun_more {n : Nat} {ws : List Int} {i : Nat} {w : Int} (h : ws[i]? = some w) : prun n (ws.take (i + 1)) = pstep n (prun n (ws.take i)) w := by
  unfold prun
  rw [take_more h, List.foldl_append]
  rfl
theorem prun_snoc {n : Nat} {ws : List Int} {w : Int} : prun n (ws ++ [w]) = pstep n (prun n ws) w := by
  unfold prun
  rw [List.foldl_append]
  rfl
theorem pstep_len {n : Nat} {s : (Int → Bool) × List (Option Int)} {w : Int} : (pstep n s w).2.length = s.2.length + 1 := by
  unfold pstep
  cases ffree n s.1 w <;> simp
theorem snoc_ind {α : Type} {p : List α → Prop} (h0 : p []) (h1 : ∀ l x, p l → p (l ++ [x])) : ∀ l, p l := fun l => by
  have : ∀ n, ∀ l : List α, l.length = n → p l := by
    intro n
    induction n with
    | zero => intro l h; rw [List.length_eq_zero_iff.mp h]; exact h0
    | succ n ih =>
      intro l h
      have hne : l ≠ [] := fun z => by rw [z] at h; cases h
      rw [← List.dropLast_concat_getLast hne]
      exact h1 _ _ (ih _ (by rw [List.length_dropLast, h]; rfl))
  exact this _ l rfl
theorem prun_len {n : Nat} : ∀ ws : List Int, (prun n ws).2.length = ws.length := snoc_ind rfl fun ws w ih => by
  rw [prun_snoc, pstep_len, ih]
  simp
theorem placedL_len {n : Nat} {ws : List Int} : (placedL n ws).length = ws.length := prun_len ws
theorem heldL_at {n : Nat} {occ : Int → Bool} {i : Nat} (h : i ≤ n) : (heldL n occ)[i]? = some (.bl (occ (i : Int))) := by
  unfold heldL
  rw [List.getElem?_map, List.getElem?_range (by omega)]
  rfl
theorem heldL_len {n : Nat} {occ : Int → Bool} : (heldL n occ).length = n + 1 := by simp [heldL]
theorem heldL_set {n : Nat} {occ : Int → Bool} {b : Int} (h0 : 0 ≤ b) (h : b ≤ n) : (heldL n occ).set b.toNat (.bl true) = heldL n (setO occ b) := by
  apply List.ext_getElem?
  intro i
  by_cases hi : i ≤ n
  · rw [heldL_at hi]
    by_cases e : i = b.toNat
    · subst e
      rw [List.getElem?_set_self (by rw [heldL_len]; omega)]
      have : ((b.toNat : Nat) : Int) = b := by omega
      simp [setO, this]
    · rw [List.getElem?_set_ne (Ne.symm e), heldL_at hi]
      have : ¬ ((i : Nat) : Int) = b := by omega
      simp [setO, this]
  · rw [List.getElem?_eq_none (show ((heldL n occ).set b.toNat (V.bl true)).length ≤ i by rw [List.length_set, heldL_len]; omega), List.getElem?_eq_none (show (heldL n (setO occ b)).length ≤ i by rw [heldL_len]; omega)]
theorem heldL_new {n : Nat} : (List.replicate (n + 1) [V.bl false]).flatten = heldL n (fun _ => false) := by
  apply List.ext_getElem?
  intro i
  have e : (List.replicate (n + 1) [V.bl false]).flatten = List.replicate (n + 1) (V.bl false) := by
    generalize n + 1 = m
    induction m with
    | zero => rfl
    | succ m ih => rw [List.replicate_succ, List.replicate_succ, List.flatten_cons, ih]; rfl
  rw [e]
  by_cases hi : i ≤ n
  · rw [heldL_at hi, List.getElem?_replicate_of_lt (by omega)]
  · rw [List.getElem?_eq_none (show (List.replicate (n + 1) (V.bl false)).length ≤ i by rw [List.length_replicate]; omega), List.getElem?_eq_none (show (heldL n fun _ => false).length ≤ i by rw [heldL_len]; omega)]
theorem l1000 {n : Nat} (h : n ≤ 1000) : n ≤ sizeLine := Nat.le_of_lt (small1000 h)
/-! ### first_free -/
def sp_first_free (K : PySem.W.Frag) (a : Ad) : Sp := fun vs H Q _ => ∃ (h : Addr) (n : Nat) (occ : Int → Bool) (w : Int), vs = [.ref h, .int w] ∧ SqL K H h (heldL n occ) ∧ n ≤ 900 ∧ 0 ≤ w ∧ w ≤ 1000 ∧ Q (vO (ffree n occ w)) H
abbrev N_first_free : List Str := ["held", "wish", "berth"]
def t_first_free (K : PySem.W.Frag) (a : Ad) : TS :=
  (tSeq (tFor (iRng2 (tCons (tVar 1) (tCons (tCB (rLenSq K) (tCons (tVar 0) tNil)) tNil))) (gName 2)
    (tIfS (tNot (tB (tOp (rIxL K) (tVar 0) (tVar 2)))) (tRet (tVar 2)) tNext))
    (tRet (tC .non)))
theorem len_first_free {K : PySem.W.Frag} {a : Ad} {vs : List V} {H : Hp} {Q : VK} {E : XK} (h : sp_first_free K a vs H Q E) : vs.length = 2 := by
  obtain ⟨h, n, occ, w, rfl, _⟩ := h
  rfl
theorem pu_first_free {K : PySem.W.Frag} {a : Ad} {vs : List V} {H : Hp} {Q : VK} {E : XK} (h : sp_first_free K a vs H Q E) : t_first_free K a { nx := fun _ H' => Q .non H', rt := Q } (start N_first_free vs) H := by
  obtain ⟨h, n, occ, w, rfl, hs, hn, h0, hw, q⟩ := h
  refine ⟨.int w, rfl, .ref h, rfl, h, _, rfl, .inl hs, w, ((heldL n occ).length : Nat), rfl, ?_, ?_⟩
  · rw [heldL_len]
    omega
  rw [heldL_len]
  have en : (((n + 1 : Nat) : Int) - w).toNat = ((n : Int) + 1 - w).toNat := by omega
  rw [en]
  refine for_range (fun i σ H' => H' = H ∧ ffree n occ w = ffr occ (((n : Int) + 1 - w).toNat - i) (w + i) ∧ ∃ y, σ = [some (.ref h), some (.int w), y]) ⟨rfl, by simp [ffree], none, rfl⟩ ?_ ?_
  · rintro i σ H' hi ⟨rfl, e, y, rfl⟩
    have hx : (heldL n occ)[(w + i).toNat]? = some (.bl (occ (w + i))) := by
      rw [heldL_at (by omega)]
      have : (((w + i).toNat : Nat) : Int) = w + i := by omega
      rw [this]
    refine ⟨.ref h, rfl, .int (w + i), rfl, h, _, _, .bl (occ (w + i)), rfl, rfl, hs, at_of (by omega) hx, occ (w + i), rfl, ?_⟩
    have e2 : ((n : Int) + 1 - w).toNat - i = (((n : Int) + 1 - w).toNat - (i + 1)) + 1 := by omega
    rw [e2] at e
    unfold ffr at e
    cases o : occ (w + i) with
    | true =>
      rw [o, if_pos rfl] at e
      refine iteF ⟨rfl, ?_, some (.int (w + i)), rfl⟩
      rw [e]
      congr 1
      omega
    | false =>
      rw [o, if_neg Bool.false_ne_true] at e
      refine iteT ⟨.int (w + i), rfl, ?_⟩
      rw [e] at q
      exact q
  · rintro σ H' ⟨rfl, e, y, rfl⟩
    rw [Nat.sub_self] at e
    rw [e] at q
    exact q
/-! ### placed -/
/-! ### taken, gone_on -/
def somes (l : List (Option Int)) : List Int := l.filterMap id
def sortI (l : List Int) : List Int := l.mergeSort fun x y => decide (x ≤ y)
theorem sortI_perm (l : List Int) : (sortI l).Perm l := List.mergeSort_perm l _
theorem sortI_sorted (l : List Int) : (sortI l).Pairwise (· ≤ ·) := by
  have h := List.pairwise_mergeSort (le := fun (x y : Int) => decide (x ≤ y)) (fun a b c h1 h2 => by simp only [decide_eq_true_eq] at *; omega) (fun a b => by simp only [Bool.or_eq_true, decide_eq_true_eq]; omega) l
  exact List.Pairwise.imp (fun h => of_decide_eq_true h) h
theorem sortI_uniq {l l' : List Int} (hp : l'.Perm l) (hs : l'.Pairwise (· ≤ ·)) : l' = sortI l := PySem.W.ksm_same (hp.trans (sortI_perm l).symm) hs (sortI_sorted l)
def takenL (n : Nat) (ws : List Int) : List Int := sortI (somes (placedL n ws))
/-- of each ship that lies, how far behind its wish -/
def goneL (ws : List Int) (bs : List (Option Int)) : List Int := (ws.zip bs).filterMap fun p => p.2.map fun b => b - p.1
theorem filter_some : ∀ l : List (Option Int), (l.filter Option.isSome).map vO = (somes l).map V.int
  | [] => rfl
  | none :: l => filter_some l
  | some b :: l => congrArg (V.int b :: ·) (filter_some l)
theorem vO_not (o : Option Int) : (!decide (vO o = .non)) = o.isSome := by
  cases o <;> rfl
theorem zip_gone : ∀ (ws : List Int) (bs : List (Option Int)), ((ws.zip bs).filter fun p => p.2.isSome).map (fun p => V.int ((p.2.getD 0) - p.1)) = (goneL ws bs).map V.int
  | [], _ => by simp [goneL]
  | _ :: _, [] => by simp [goneL]
  | w :: ws, none :: bs => by
    have ih := zip_gone ws bs
    simp only [List.zip_cons_cons, goneL] at ih ⊢
    simpa using ih
  | w :: ws, some b :: bs => by
    have ih := zip_gone ws bs
    simp only [List.zip_cons_cons, goneL] at ih ⊢
    simpa using ih
theorem zip_at {ws : List Int} {bs : List (Option Int)} {i : Nat} {x : Int × Option Int} (h : (ws.zip bs)[i]? = some x) : ws[i]? = some x.1 ∧ bs[i]? = some x.2 := by
  rw [List.getElem?_zip_eq_some] at h
  exact h
/-! ### good wishes: counting -/
theorem sub_len : ∀ {l1 l2 : List Int}, l1.Nodup → (∀ x ∈ l1, x ∈ l2) → l1.length ≤ l2.length
  | [], _, _, _ => Nat.zero_le _
  | x :: r, l2, nd, h => by
    obtain ⟨n1, n2⟩ := List.nodup_cons.mp nd
    have hx := h x List.mem_cons_self
    have ih := sub_len (l1 := r) (l2 := l2.erase x) n2 fun y hy => by
      have ne : y ≠ x := fun e => n1 (e ▸ hy)
      exact (List.mem_erase_of_ne ne).mpr (h y (List.mem_cons_of_mem _ hy))
    have e := List.length_erase_of_mem hx
    have p : 0 < l2.length := List.length_pos_of_mem hx
    rw [List.length_cons]
    omega
def upTo (lo : Int) (k : Nat) : List Int := (List.range k).map fun (i : Nat) => lo + (i : Int)
theorem mem_upTo {lo x : Int} {k : Nat} : x ∈ upTo lo k ↔ lo ≤ x ∧ x < lo + k := by
  unfold upTo
  simp only [List.mem_map, List.mem_range]
  constructor
  · rintro ⟨i, hi, rfl⟩
    omega
  · rintro ⟨h1, h2⟩
    exact ⟨(x - lo).toNat, by omega, by omega⟩
theorem upTo_len {lo : Int} {k : Nat} : (upTo lo k).length = k := by simp [upTo]
theorem upTo_nodup {lo : Int} {k : Nat} : (upTo lo k).Nodup := by
  unfold upTo
  exact (List.pairwise_map.mpr (List.Pairwise.imp (fun h => by omega) List.pairwise_lt_range))
theorem len_le_of {l : List Int} {lo : Int} {k : Nat} (nd : l.Nodup) (h : ∀ x ∈ l, lo ≤ x ∧ x < lo + k) : l.length ≤ k := by
  have := sub_len nd fun x hx => mem_upTo.mpr (h x hx)
  rw [upTo_len] at this
  exact this
theorem le_len_of {l : List Int} {lo : Int} {k : Nat} (h : ∀ x, lo ≤ x → x < lo + k → x ∈ l) : k ≤ l.length := by
  have := sub_len (upTo_nodup (lo := lo) (k := k)) fun x hx => by
    obtain ⟨h1, h2⟩ := mem_upTo.mp hx
    exact h x h1 h2
  rw [upTo_len] at this
  exact this
/-- how many of them are b or more -/
def cntGe (l : List Int) (b : Int) : Nat := (l.filter fun w => decide (b ≤ w)).length
theorem cntGe_snoc (l : List Int) (w b : Int) : cntGe (l ++ [w]) b = cntGe l b + if b ≤ w then 1 else 0 := by
  unfold cntGe
  rw [List.filter_append, List.length_append]
  by_cases h : b ≤ w <;> simp [List.filter, h]
theorem cntGe_le (l : List Int) (b : Int) : cntGe l b ≤ l.length := List.length_filter_le _ _
theorem cntGe_perm {l l' : List Int} (h : l.Perm l') (b : Int) : cntGe l b = cntGe l' b := (h.filter _).length_eq
theorem somes_snoc (l : List (Option Int)) (o : Option Int) : somes (l ++ [o]) = somes l ++ o.toList := by
  unfold somes
  rw [List.filterMap_append]
  cases o <;> rfl
/-- what holds behind ships that came -/
structure Lay (n : Nat) (ws : List Int) : Prop where
  occ : ∀ x, (prun n ws).1 x = true ↔ x ∈ somes (placedL n ws)
  nd : (somes (placedL n ws)).Nodup
  bd : ∀ x ∈ somes (placedL n ws), 1 ≤ x ∧ x ≤ n
  few : ∀ b, (b ≤ 1 ∨ (prun n ws).1 (b - 1) = false) → cntGe (somes (placedL n ws)) b ≤ cntGe ws b
  many : none ∉ placedL n ws → ∀ b, cntGe ws b ≤ cntGe (somes (placedL n ws)) b
  crowd : none ∈ placedL n ws → ∃ b : Int, 1 ≤ b ∧ b ≤ n ∧ (n : Int) - b + 1 < cntGe ws b
theorem placedL_snoc {n : Nat} {ws : List Int} {w : Int} : placedL n (ws ++ [w]) = placedL n ws ++ [ffree n (prun n ws).1 w] := by
  unfold placedL
  rw [prun_snoc]
  unfold pstep
  cases ffree n (prun n ws).1 w <;> rfl
theorem occ_snoc {n : Nat} {ws : List Int} {w : Int} : (prun n (ws ++ [w])).1 = match ffree n (prun n ws).1 w with | none => (prun n ws).1 | some b => setO (prun n ws).1 b := by
  rw [prun_snoc]
  unfold pstep
  cases ffree n (prun n ws).1 w <;> rfl
/-- the least one from which on all are held -/
theorem least_full {occ : Int → Bool} : ∀ (k : Nat), (∀ x, (k : Int) + 1 ≤ x → x ≤ k + 1 → occ x = true) → ∀ m : Int, (∀ x, (k : Int) + 1 ≤ x → x ≤ m → occ x = true) → ∃ b : Int, 1 ≤ b ∧ b ≤ k + 1 ∧ (∀ x, b ≤ x → x ≤ m → occ x = true) ∧ (b ≤ 1 ∨ occ (b - 1) = false)
  | 0, _, m, h => ⟨1, by omega, by omega, fun x h1 h2 => h x (by omega) h2, .inl (by omega)⟩
  | k + 1, h0, m, h => by
    cases e : occ ((k : Int) + 1) with
    | false => exact ⟨(k : Int) + 1 + 1, by omega, by omega, fun x h1 h2 => h x (by omega) h2, .inr (by rw [show (k : Int) + 1 + 1 - 1 = (k : Int) + 1 by omega]; exact e)⟩
    | true =>
      obtain ⟨b, b1, b2, b3, b4⟩ := least_full (occ := occ) k (fun x h1 h2 => by rw [show x = (k : Int) + 1 by omega]; exact e) m fun x h1 h2 => by
        by_cases z : x = (k : Int) + 1
        · rw [z]; exact e
        · exact h x (by omega) h2
      exact ⟨b, b1, by omega, b3, b4⟩
theorem lay (n : Nat) : ∀ ws : List Int, (∀ w ∈ ws, 1 ≤ w ∧ w ≤ n) → Lay n ws := snoc_ind (fun _ => ⟨fun x => by simp [prun, placedL, somes], List.nodup_nil, fun x hx => (by cases hx), fun b _ => Nat.zero_le _, fun _ b => Nat.le_refl _, fun h => (by cases h)⟩) fun ws w ih hb => by
  have hw := hb w (List.mem_append_right _ (List.mem_singleton.mpr rfl))
  obtain ⟨i1, i2, i3, i4, i5, i6⟩ := ih fun x hx => hb x (List.mem_append_left _ hx)
  cases e : ffree n (prun n ws).1 w with
  | none =>
    have es : somes (placedL n (ws ++ [w])) = somes (placedL n ws) := by rw [placedL_snoc, e, somes_snoc]; simp
    have eo : (prun n (ws ++ [w])).1 = (prun n ws).1 := by rw [occ_snoc, e]
    have full := ffree_none e
    refine ⟨fun x => by rw [eo, es]; exact i1 x, by rw [es]; exact i2, by rw [es]; exact i3, fun b h => ?_, fun h => ?_, fun _ => ?_⟩
    · rw [es, cntGe_snoc]
      rw [eo] at h
      have := i4 b h
      omega
    · rw [placedL_snoc, e] at h
      exact absurd (List.mem_append_right _ (List.mem_singleton.mpr rfl)) h
    · obtain ⟨b, b1, b2, b3, b4⟩ := least_full (occ := (prun n ws).1) (w - 1).toNat (fun x h1 h2 => full x (by omega) (by omega)) n fun x h1 h2 => full x (by omega) h2
      have c1 := i4 b b4
      have c2 : ((n : Int) - b + 1).toNat ≤ cntGe (somes (placedL n ws)) b := le_len_of (lo := b) fun x h1 h2 => List.mem_filter.mpr ⟨(i1 x).mp (b3 x h1 (by omega)), by simpa using h1⟩
      refine ⟨b, b1, by omega, ?_⟩
      rw [cntGe_snoc, if_pos (by omega)]
      omega
  | some x =>
    have es : somes (placedL n (ws ++ [w])) = somes (placedL n ws) ++ [x] := by rw [placedL_snoc, e, somes_snoc]; rfl
    have eo : (prun n (ws ++ [w])).1 = setO (prun n ws).1 x := by rw [occ_snoc, e]
    obtain ⟨x1, x2, x3, x4⟩ := ffree_some e
    have hn : x ∉ somes (placedL n ws) := fun z => by
      rw [(i1 x).mpr z] at x3
      cases x3
    refine ⟨fun y => ?_, ?_, ?_, fun b h => ?_, fun h b => ?_, fun h => ?_⟩
    · rw [eo, es, List.mem_append, List.mem_singleton, ← i1 y]
      unfold setO
      by_cases z : y = x <;> simp [z]
    · rw [es, List.nodup_append]
      exact ⟨i2, by simp, fun a ha b hb => by rw [List.mem_singleton.mp hb]; exact fun z => hn (z ▸ ha)⟩
    · intro y hy
      rw [es] at hy
      rcases List.mem_append.mp hy with k | k
      · exact i3 y k
      · rw [List.mem_singleton.mp k]
        omega
    · rw [es, cntGe_snoc, cntGe_snoc]
      have h' : b ≤ 1 ∨ (prun n ws).1 (b - 1) = false := by
        rcases h with h | h
        · exact .inl h
        · rw [eo] at h
          unfold setO at h
          exact .inr (Bool.or_eq_false_iff.mp h).2
      have := i4 b h'
      by_cases hbx : b ≤ x
      · have hbw : b ≤ w := by
          by_cases z : b ≤ w
          · exact z
          · rcases h' with h' | h'
            · omega
            · rw [x4 (b - 1) (by omega) (by omega)] at h'
              cases h'
        rw [if_pos hbx, if_pos hbw]
        omega
      · rw [if_neg hbx]
        omega
    · have h' : none ∉ placedL n ws := fun z => h (by rw [placedL_snoc]; exact List.mem_append_left _ z)
      have := i5 h' b
      rw [es, cntGe_snoc, cntGe_snoc]
      by_cases z : b ≤ w
      · rw [if_pos z, if_pos (by omega)]
        omega
      · rw [if_neg z]
        omega
    · rw [placedL_snoc, e] at h
      rcases List.mem_append.mp h with k | k
      · obtain ⟨b, b1, b2, b3⟩ := i6 k
        refine ⟨b, b1, b2, ?_⟩
        rw [cntGe_snoc]
        omega
      · simp at k
/-- the last berth from which on more wish -/
def downTo (n : Nat) : List Int := (List.range n).map fun (i : Nat) => (n : Int) - (i : Int)
def crowdedL (n : Nat) (ws : List Int) : Option Int := (downTo n).find? fun b => decide ((n : Int) - b + 1 < (cntGe ws b : Int))
theorem mem_downTo {n : Nat} {x : Int} : x ∈ downTo n ↔ 1 ≤ x ∧ x ≤ n := by
  unfold downTo
  simp only [List.mem_map, List.mem_range]
  constructor
  · rintro ⟨i, hi, rfl⟩
    omega
  · rintro ⟨h1, h2⟩
    exact ⟨(n - x).toNat, by omega, by omega⟩
theorem crowded_none {n : Nat} {ws : List Int} : crowdedL n ws = none ↔ ∀ b : Int, 1 ≤ b → b ≤ n → (cntGe ws b : Int) ≤ n - b + 1 := by
  unfold crowdedL
  rw [List.find?_eq_none]
  simp only [decide_eq_true_eq, Int.not_lt]
  exact ⟨fun h b b1 b2 => h b (mem_downTo.mpr ⟨b1, b2⟩), fun h b hb => h b (mem_downTo.mp hb).1 (mem_downTo.mp hb).2⟩
theorem good_iff {n : Nat} {ws : List Int} (hb : ∀ w ∈ ws, 1 ≤ w ∧ w ≤ n) : crowdedL n ws = none ↔ none ∉ placedL n ws := by
  have L := lay n ws hb
  rw [crowded_none]
  constructor
  · intro h z
    obtain ⟨b, b1, b2, b3⟩ := L.crowd z
    have := h b b1 b2
    omega
  · intro h b b1 b2
    have h1 := L.many h b
    have h2 : cntGe (somes (placedL n ws)) b ≤ ((n : Int) - b + 1).toNat := len_le_of (lo := b) (L.nd.filter _) fun x hx => by
      obtain ⟨k1, k2⟩ := List.mem_filter.mp hx
      have := L.bd x k1
      have k3 : b ≤ x := by simpa using k2
      omega
    omega
/-! in rising order -/
theorem sorted_cut {b : Int} : ∀ {o : List Int}, o.Pairwise (· ≤ ·) → o = o.filter (fun w => !decide (b ≤ w)) ++ o.filter (fun w => decide (b ≤ w))
  | [], _ => rfl
  | x :: r, h => by
    obtain ⟨h1, h2⟩ := List.pairwise_cons.mp h
    by_cases z : b ≤ x
    · have e1 : r.filter (fun w => !decide (b ≤ w)) = [] := List.filter_eq_nil_iff.mpr fun y hy => by
        have := h1 y hy
        simp only [Bool.not_eq_true', decide_eq_false_iff_not]
        omega
      have e2 : r.filter (fun w => decide (b ≤ w)) = r := List.filter_eq_self.mpr fun y hy => by
        have := h1 y hy
        simp only [decide_eq_true_eq]
        omega
      simp [List.filter_cons, z, e1, e2]
    · have ih := sorted_cut (b := b) h2
      simp only [List.filter_cons, z, decide_false, Bool.not_false, if_true, Bool.false_eq_true, if_false, List.cons_append]
      rw [← ih]
def goodS (n : Nat) (o : List Int) : Bool := (List.range o.length).all fun (i : Nat) => decide (o.getD i 0 ≤ (n : Int) - o.length + i + 1)
theorem goodS_iff {n : Nat} {ws : List Int} (hb : ∀ w ∈ ws, 1 ≤ w ∧ w ≤ n) : goodS n (sortI ws) = true ↔ crowdedL n ws = none := by
  have hp := sortI_perm ws
  have hs := sortI_sorted ws
  rw [crowded_none]
  unfold goodS
  simp only [List.all_eq_true, List.mem_range, decide_eq_true_eq]
  generalize hO : sortI ws = o at hp hs
  have hbo : ∀ w ∈ o, 1 ≤ w ∧ w ≤ n := fun w hw => hb w (hp.mem_iff.mp hw)
  constructor
  · intro h b b1 b2
    rw [← cntGe_perm hp b]
    have cut := sorted_cut (b := b) hs
    by_cases z : cntGe o b = 0
    · rw [z]
      omega
    · have hlen : (o.filter (fun w => !decide (b ≤ w))).length + cntGe o b = o.length := by
        unfold cntGe
        rw [← List.length_append, ← cut]
      have hi : (o.filter (fun w => !decide (b ≤ w))).length < o.length := by omega
      have h1 := h _ hi
      have e : o.getD (o.filter (fun w => !decide (b ≤ w))).length 0 = o[(o.filter (fun w => !decide (b ≤ w))).length] := by simp [List.getD_eq_getElem?_getD, List.getElem?_eq_getElem hi]
      rw [e] at h1
      have hm : o[(o.filter (fun w => !decide (b ≤ w))).length] ∈ o.filter (fun w => decide (b ≤ w)) := by
        have e2 : o[(o.filter (fun w => !decide (b ≤ w))).length]? = (o.filter (fun w => decide (b ≤ w)))[0]? := by
          conv => lhs; arg 1; rw [cut]
          rw [List.getElem?_append_right (Nat.le_refl _), Nat.sub_self]
        rw [List.getElem?_eq_getElem hi] at e2
        exact List.mem_of_getElem? e2.symm
      have h2 : b ≤ o[(o.filter (fun w => !decide (b ≤ w))).length] := by simpa using (List.mem_filter.mp hm).2
      omega
  · intro h i hi
    have e : o.getD i 0 = o[i] := by simp [List.getD_eq_getElem?_getD, List.getElem?_eq_getElem hi]
    rw [e]
    have hbi := hbo o[i] (List.getElem_mem hi)
    have h1 := h o[i] hbi.1 hbi.2
    rw [← cntGe_perm hp] at h1
    have h2 : o.length - i ≤ cntGe o o[i] := by
      have e3 : (o.drop i).filter (fun w => decide (o[i] ≤ w)) = o.drop i := List.filter_eq_self.mpr fun y hy => by
        obtain ⟨j, hj, ej⟩ := List.getElem_of_mem hy
        rw [List.getElem_drop] at ej
        simp only [decide_eq_true_eq]
        rw [← ej]
        by_cases z : j = 0
        · subst z
          simp
        · exact List.pairwise_iff_getElem.mp hs i (i + j) hi (by rw [List.length_drop] at hj; omega) (by omega)
      have e4 : (o.filter (fun w => decide (o[i] ≤ w))).length = ((o.take i).filter (fun w => decide (o[i] ≤ w))).length + ((o.drop i).filter (fun w => decide (o[i] ≤ w))).length := by
        rw [← List.length_append, ← List.filter_append, List.take_append_drop]
      unfold cntGe
      rw [e4, e3, List.length_drop]
      omega
    omega

/-! ### any order of the same ships -/
theorem ffree_is {n : Nat} {occ : Int → Bool} {w b : Int} (h1 : w ≤ b) (h2 : b ≤ n) (h3 : occ b = false) (h4 : ∀ x, w ≤ x → x < b → occ x = true) : ffree n occ w = some b := by
  cases e : ffree n occ w with
  | none =>
    rw [ffree_none e b h1 h2] at h3
    cases h3
  | some c =>
    obtain ⟨c1, c2, c3, c4⟩ := ffree_some e
    congr 1
    by_cases z : c < b
    · rw [h4 c c1 z] at c3
      cases c3
    · by_cases z2 : b < c
      · rw [c4 b h1 z2] at h3
        cases h3
      · omega
theorem ffree_non {n : Nat} {occ : Int → Bool} {w : Int} (h : ∀ x, w ≤ x → x ≤ n → occ x = true) : ffree n occ w = none := by
  cases e : ffree n occ w with
  | none => rfl
  | some c =>
    obtain ⟨c1, c2, c3, c4⟩ := ffree_some e
    rw [h c c1 c2] at c3
    cases c3
def stp (n : Nat) (occ : Int → Bool) (w : Int) : Int → Bool := match ffree n occ w with
  | none => occ
  | some b => setO occ b
theorem stp_none {n : Nat} {occ : Int → Bool} {w : Int} (h : ffree n occ w = none) : stp n occ w = occ := by simp only [stp, h]
theorem stp_some {n : Nat} {occ : Int → Bool} {w b : Int} (h : ffree n occ w = some b) : stp n occ w = setO occ b := by simp only [stp, h]
theorem setO_comm (occ : Int → Bool) (x y : Int) : setO (setO occ x) y = setO (setO occ y) x := by
  funext z
  unfold setO
  cases decide (z = x) <;> cases decide (z = y) <;> rfl
theorem setO_mono {occ : Int → Bool} {x y : Int} (h : occ y = true) : setO occ x y = true := by
  unfold setO
  rw [h, Bool.or_true]
theorem setO_ne {occ : Int → Bool} {x y : Int} (h : y ≠ x) : setO occ x y = occ y := by
  unfold setO
  rw [decide_eq_false h, Bool.false_or]
theorem setO_self {occ : Int → Bool} {x : Int} : setO occ x x = true := by simp [setO]
theorem stp_comm_le {n : Nat} {occ : Int → Bool} {w1 w2 : Int} (h : w1 ≤ w2) : stp n (stp n occ w1) w2 = stp n (stp n occ w2) w1 := by
  cases eb : ffree n occ w2 with
  | none =>
    have fb := ffree_none eb
    rw [stp_none eb]
    cases ea : ffree n occ w1 with
    | none => rw [stp_none ea, stp_none eb]
    | some x =>
      rw [stp_some ea]
      exact stp_none (ffree_non fun y h1 h2 => setO_mono (fb y h1 h2))
  | some y =>
    obtain ⟨y1, y2, y3, y4⟩ := ffree_some eb
    rw [stp_some eb]
    cases ea : ffree n occ w1 with
    | none =>
      rw [ffree_none ea y (by omega) y2] at y3
      cases y3
    | some x =>
      obtain ⟨x1, x2, x3, x4⟩ := ffree_some ea
      rw [stp_some ea]
      by_cases z : x = y
      · subst z
        have hocc : ∀ u, w1 ≤ u → u ≤ x → setO occ x u = true := fun u h1 h2 => by
          by_cases q : u = x
          · rw [q]; exact setO_self
          · exact setO_mono (x4 u h1 (by omega))
        cases ec : ffree n (setO occ x) w2 with
        | none =>
          have fc := ffree_none ec
          rw [stp_none ec]
          refine (stp_none (ffree_non fun u h1 h2 => ?_)).symm
          by_cases q : u ≤ x
          · exact hocc u h1 q
          · exact fc u (by omega) h2
        | some z =>
          obtain ⟨z1, z2, z3, z4⟩ := ffree_some ec
          have hz : x < z := by
            by_cases q : x < z
            · exact q
            · rw [hocc z (by omega) (by omega)] at z3
              cases z3
          rw [stp_some ec]
          refine (stp_some (ffree_is (by omega) z2 z3 fun u h1 h2 => ?_)).symm
          by_cases q : u ≤ x
          · exact hocc u h1 q
          · exact z4 u (by omega) h2
      · have hx : x < y := by
          by_cases q : x < y
          · exact q
          · rw [x4 y (by omega) (by omega)] at y3
            cases y3
        have e1 : stp n (setO occ x) w2 = setO (setO occ x) y := stp_some (ffree_is y1 y2 (by rw [setO_ne (Ne.symm z)]; exact y3) fun u h1 h2 => setO_mono (y4 u h1 h2))
        have e2 : stp n (setO occ y) w1 = setO (setO occ y) x := stp_some (ffree_is x1 x2 (by rw [setO_ne z]; exact x3) fun u h1 h2 => setO_mono (x4 u h1 h2))
        rw [e1, e2, setO_comm]
theorem stp_comm {n : Nat} {occ : Int → Bool} {w1 w2 : Int} : stp n (stp n occ w1) w2 = stp n (stp n occ w2) w1 := by
  by_cases h : w1 ≤ w2
  · exact stp_comm_le h
  · exact (stp_comm_le (by omega)).symm
theorem occ_fold {n : Nat} : ∀ ws : List Int, (prun n ws).1 = ws.foldl (stp n) (fun _ => false) := snoc_ind rfl fun ws w ih => by
  rw [occ_snoc, List.foldl_append, ← ih]
  rfl
theorem occ_perm {n : Nat} {ws ws' : List Int} (h : ws.Perm ws') : (prun n ws).1 = (prun n ws').1 := by
  rw [occ_fold, occ_fold]
  exact h.foldl_eq' (fun x _ y _ z => stp_comm) _
theorem somes_perm {n : Nat} {ws ws' : List Int} (h : ws.Perm ws') (hb : ∀ w ∈ ws, 1 ≤ w ∧ w ≤ n) : (somes (placedL n ws)).Perm (somes (placedL n ws')) := by
  have L := lay n ws hb
  have L' := lay n ws' fun w hw => hb w (h.mem_iff.mpr hw)
  refine (List.perm_ext_iff_of_nodup L.nd L'.nd).mpr fun x => ?_
  rw [← L.occ, ← L'.occ, occ_perm h]
theorem sortI_perm_eq {l l' : List Int} (h : l.Perm l') : sortI l = sortI l' := sortI_uniq ((sortI_perm l).trans h) (sortI_sorted l)
theorem taken_perm {n : Nat} {ws ws' : List Int} (h : ws.Perm ws') (hb : ∀ w ∈ ws, 1 ≤ w ∧ w ≤ n) : takenL n ws = takenL n ws' := sortI_perm_eq (somes_perm h hb)
theorem crowded_perm {n : Nat} {ws ws' : List Int} (h : ws.Perm ws') : crowdedL n ws = crowdedL n ws' := by
  unfold crowdedL
  congr 1
  funext b
  rw [cntGe_perm h]
theorem away_len : ∀ os : List (Option Int), (os.filter Option.isNone).length + (somes os).length = os.length
  | [] => rfl
  | none :: os => by
    have := away_len os
    simp only [List.filter_cons, Option.isNone_none, if_true, List.length_cons]
    show (os.filter Option.isNone).length + 1 + (somes os).length = os.length + 1
    omega
  | some b :: os => by
    have := away_len os
    show (os.filter Option.isNone).length + ((somes os).length + 1) = os.length + 1
    omega
theorem sum_perm {l l' : List Int} (h : l.Perm l') : l.sum = l'.sum := by
  induction h with
  | nil => rfl
  | cons x _ ih => rw [List.sum_cons, List.sum_cons, ih]
  | swap x y l =>
    simp only [List.sum_cons]
    omega
  | trans _ _ h1 h2 => exact h1.trans h2
/-- the wishes of those that lie -/
def lieL (ws : List Int) (os : List (Option Int)) : List Int := ((ws.zip os).filter fun p => p.2.isSome).map (·.1)
theorem lieL_snoc {ws : List Int} {os : List (Option Int)} {w : Int} {o : Option Int} (h : ws.length = os.length) : lieL (ws ++ [w]) (os ++ [o]) = lieL ws os ++ (if o.isSome = true then [w] else []) := by
  unfold lieL
  rw [List.zip_append h, List.filter_append, List.map_append]
  cases o <;> rfl
theorem gone_sum : ∀ (ws : List Int) (os : List (Option Int)), ws.length = os.length → (goneL ws os).sum = (somes os).sum - (lieL ws os).sum
  | [], [], _ => rfl
  | w :: ws, none :: os, h => gone_sum ws os (Nat.succ.inj h)
  | w :: ws, some b :: os, h => by
    have ih := gone_sum ws os (Nat.succ.inj h)
    show ((b - w) :: goneL ws os).sum = (b :: somes os).sum - (w :: lieL ws os).sum
    rw [List.sum_cons, List.sum_cons, List.sum_cons, ih]
    omega
theorem lie_all : ∀ (ws : List Int) (os : List (Option Int)), ws.length = os.length → none ∉ os → lieL ws os = ws
  | [], [], _, _ => rfl
  | w :: ws, none :: os, _, h => absurd List.mem_cons_self h
  | w :: ws, some b :: os, h, hn => by
    have ih := lie_all ws os (Nat.succ.inj h) fun z => hn (List.mem_cons_of_mem _ z)
    show w :: lieL ws os = w :: ws
    rw [ih]
theorem lie_run {n : Nat} : ∀ ws : List Int, prun n (lieL ws (placedL n ws)) = ((prun n ws).1, (placedL n ws).filter Option.isSome) := snoc_ind rfl fun ws w ih => by
  rw [placedL_snoc, lieL_snoc (placedL_len).symm, List.filter_append, occ_snoc]
  cases e : ffree n (prun n ws).1 w with
  | none =>
    simp only [Option.isSome_none, Bool.false_eq_true, if_false, List.append_nil]
    rw [ih]
    simp [List.filter]
  | some b =>
    simp only [Option.isSome_some, if_true]
    rw [prun_snoc, ih]
    unfold pstep
    simp only [e]
    simp [List.filter]
theorem lie_placed {n : Nat} {ws : List Int} : placedL n (lieL ws (placedL n ws)) = (placedL n ws).filter Option.isSome := by
  have := lie_run (n := n) ws
  unfold placedL at this ⊢
  rw [this]
theorem somes_filter (os : List (Option Int)) : somes (os.filter Option.isSome) = somes os := by
  induction os with
  | nil => rfl
  | cons o os ih => cases o with
    | none => exact ih
    | some b => exact congrArg (b :: ·) ih
theorem none_filter_some {os : List (Option Int)} : none ∉ os.filter Option.isSome := fun z => by
  have := (List.mem_filter.mp z).2
  cases this
theorem mem_lie {ws : List Int} {os : List (Option Int)} {x : Int} (h : x ∈ lieL ws os) : x ∈ ws := by
  unfold lieL at h
  obtain ⟨p, hp, rfl⟩ := List.mem_map.mp h
  exact (List.of_mem_zip (List.mem_filter.mp hp).1).1
theorem lie_len (ws : List Int) (os : List (Option Int)) : (lieL ws os).length ≤ ws.length := by
  unfold lieL
  rw [List.length_map]
  refine Nat.le_trans (List.length_filter_le _ _) ?_
  rw [List.length_zip]
  omega
/-- a ship more takes one berth more, or none -/
theorem taken_mem {n : Nat} {ws : List Int} {x : Int} : x ∈ takenL n ws ↔ x ∈ somes (placedL n ws) := (sortI_perm _).mem_iff
theorem somes_last {n : Nat} {ws : List Int} (hne : ws ≠ []) : ∃ o : Option Int, somes (placedL n ws) = somes (placedL n ws.dropLast) ++ o.toList := by
  refine ⟨ffree n (prun n ws.dropLast).1 (ws.getLast hne), ?_⟩
  rw [← somes_snoc, ← placedL_snoc, List.dropLast_concat_getLast hne]

/-! ### the round quay: the mathematics -/
def rfree (n : Nat) (occ : Int → Bool) (w : Int) : Option Int := match ffree n occ w with
  | some b => some b
  | none => ffree n occ 1
def rstep (n : Nat) (s : (Int → Bool) × List Int) (w : Int) : (Int → Bool) × List Int := (setO s.1 ((rfree n s.1 w).getD 0), s.2 ++ [(rfree n s.1 w).getD 0])
def rrun (n : Nat) (ws : List Int) : (Int → Bool) × List Int := ws.foldl (rstep n) (fun _ => false, [])
def placedR (n : Nat) (ws : List Int) : List Int := (rrun n ws).2
theorem rrun_more {n : Nat} {ws : List Int} {i : Nat} {w : Int} (h : ws[i]? = some w) : rrun n (ws.take (i + 1)) = rstep n (rrun n (ws.take i)) w := by
  unfold rrun
  rw [take_more h, List.foldl_append]
  rfl
theorem rrun_snoc {n : Nat} {ws : List Int} {w : Int} : rrun n (ws ++ [w]) = rstep n (rrun n ws) w := by
  unfold rrun
  rw [List.foldl_append]
  rfl
theorem rrun_len {n : Nat} : ∀ ws : List Int, (rrun n ws).2.length = ws.length := snoc_ind rfl fun ws w ih => by
  rw [rrun_snoc]
  unfold rstep
  simp [ih]
theorem placedR_len {n : Nat} {ws : List Int} : (placedR n ws).length = ws.length := rrun_len ws
theorem rfree_some {n : Nat} {occ : Int → Bool} {w b : Int} (hw : 1 ≤ w) (h : rfree n occ w = some b) : 1 ≤ b ∧ b ≤ n ∧ occ b = false := by
  unfold rfree at h
  cases e : ffree n occ w with
  | some c =>
    rw [e] at h
    cases h
    obtain ⟨c1, c2, c3, _⟩ := ffree_some e
    exact ⟨by omega, c2, c3⟩
  | none =>
    rw [e] at h
    obtain ⟨c1, c2, c3, _⟩ := ffree_some h
    exact ⟨c1, c2, c3⟩
theorem rfree_ex {n : Nat} {occ : Int → Bool} {w : Int} {l : List Int} (ho : ∀ x, occ x = true ↔ x ∈ l) (hl : l.length < n) : ∃ b, rfree n occ w = some b := by
  unfold rfree
  cases e : ffree n occ w with
  | some c => exact ⟨c, rfl⟩
  | none =>
    cases e2 : ffree n occ 1 with
    | some c => exact ⟨c, by rw [← e2]⟩
    | none =>
      exfalso
      have := ffree_none e2
      have h2 : n ≤ l.length := le_len_of (lo := 1) fun x h1 h2 => (ho x).mp (this x h1 (by omega))
      omega
structure LayR (n : Nat) (ws : List Int) : Prop where
  occ : ∀ x, (rrun n ws).1 x = true ↔ x ∈ placedR n ws
  nd : (placedR n ws).Nodup
  bd : ∀ x ∈ placedR n ws, 1 ≤ x ∧ x ≤ n
theorem layR (n : Nat) : ∀ ws : List Int, (∀ w ∈ ws, 1 ≤ w ∧ w ≤ n) → ws.length ≤ n → LayR n ws := snoc_ind (fun _ _ => ⟨fun x => by simp [rrun, placedR], List.nodup_nil, fun x hx => (by cases hx)⟩) fun ws w ih hb hl => by
  rw [List.length_append, List.length_singleton] at hl
  have hw := hb w (List.mem_append_right _ (List.mem_singleton.mpr rfl))
  obtain ⟨i1, i2, i3⟩ := ih (fun x hx => hb x (List.mem_append_left _ hx)) (by omega)
  obtain ⟨b, e⟩ := rfree_ex (n := n) (w := w) i1 (by rw [placedR_len]; omega)
  obtain ⟨b1, b2, b3⟩ := rfree_some hw.1 e
  have ep : placedR n (ws ++ [w]) = placedR n ws ++ [b] := by
    unfold placedR
    rw [rrun_snoc]
    unfold rstep
    rw [e]
    rfl
  have eo : (rrun n (ws ++ [w])).1 = setO (rrun n ws).1 b := by
    rw [rrun_snoc]
    unfold rstep
    rw [e]
    rfl
  have hn : b ∉ placedR n ws := fun z => by
    rw [(i1 b).mpr z] at b3
    cases b3
  refine ⟨fun y => ?_, ?_, fun y hy => ?_⟩
  · rw [eo, ep, List.mem_append, List.mem_singleton, ← i1 y]
    unfold setO
    by_cases z : y = b <;> simp [z]
  · rw [ep, List.nodup_append]
    exact ⟨i2, by simp, fun x hx y hy => by rw [List.mem_singleton.mp hy]; exact fun z => hn (z ▸ hx)⟩
  · rw [ep] at hy
    rcases List.mem_append.mp hy with k | k
    · exact i3 y k
    · rw [List.mem_singleton.mp k]
      exact ⟨b1, b2⟩
theorem layR_take {n : Nat} {ws : List Int} (hb : ∀ w ∈ ws, 1 ≤ w ∧ w ≤ n) (hl : ws.length ≤ n) (i : Nat) : LayR n (ws.take i) := layR n _ (fun w hw => hb w (List.mem_of_mem_take hw)) (by rw [List.length_take]; omega)
theorem step_ex {n : Nat} {ws : List Int} {i : Nat} {w : Int} (hb : ∀ w ∈ ws, 1 ≤ w ∧ w ≤ n) (hl : ws.length ≤ n) (h : ws[i]? = some w) : ∃ b, rfree n (rrun n (ws.take i)).1 w = some b ∧ 1 ≤ b ∧ b ≤ n ∧ rrun n (ws.take (i + 1)) = (setO (rrun n (ws.take i)).1 b, (rrun n (ws.take i)).2 ++ [b]) := by
  have hi := (List.getElem?_eq_some_iff.mp h).1
  obtain ⟨b, e⟩ := rfree_ex (n := n) (w := w) (layR_take hb hl i).occ (by rw [placedR_len, List.length_take]; omega)
  obtain ⟨b1, b2, b3⟩ := rfree_some (hb w (List.mem_of_getElem? h)).1 e
  refine ⟨b, e, b1, b2, ?_⟩
  rw [rrun_more h]
  unfold rstep
  rw [e]
  rfl
def allB (n : Nat) : List Int := (List.range n).map fun (i : Nat) => (1 : Int) + i
theorem mem_allB {n : Nat} {x : Int} : x ∈ allB n ↔ 1 ≤ x ∧ x ≤ n := by
  unfold allB
  simp only [List.mem_map, List.mem_range]
  constructor
  · rintro ⟨i, hi, rfl⟩
    omega
  · rintro ⟨h1, h2⟩
    exact ⟨(x - 1).toNat, by omega, by omega⟩
theorem allB_sorted {n : Nat} : (allB n).Pairwise (· < ·) := by
  unfold allB
  rw [List.pairwise_map]
  exact List.Pairwise.imp (fun h => by omega) List.pairwise_lt_range
def leftR (n : Nat) (ws : List Int) : List Int := (allB n).filter fun b => !decide (b ∈ placedR n ws)
theorem mem_left {n : Nat} {ws : List Int} {x : Int} : x ∈ leftR n ws ↔ (1 ≤ x ∧ x ≤ n) ∧ x ∉ placedR n ws := by
  unfold leftR
  rw [List.mem_filter, mem_allB]
  simp
theorem left_sorted {n : Nat} {ws : List Int} : (leftR n ws).Pairwise (· < ·) := List.Pairwise.filter _ allB_sorted
theorem left_nodup {n : Nat} {ws : List Int} : (leftR n ws).Nodup := List.Pairwise.imp (fun h => Int.ne_of_lt h) left_sorted
/-! turning -/
def turn (n : Nat) (k w : Int) : Int := (w - 1 + k) % n + 1
theorem turn_bd {n : Nat} (hn : 1 ≤ n) (k w : Int) : 1 ≤ turn n k w ∧ turn n k w ≤ n := by
  unfold turn
  have b1 := Int.emod_nonneg (w - 1 + k) (show (n : Int) ≠ 0 by omega)
  have b2 := Int.emod_lt_of_pos (w - 1 + k) (show (0 : Int) < n by omega)
  omega
theorem turn_inj {n : Nat} {k x y : Int} (hx : 1 ≤ x ∧ x ≤ n) (hy : 1 ≤ y ∧ y ≤ n) (h : turn n k x = turn n k y) : x = y := by
  unfold turn at h
  have h' : (x - 1 + k) % n = (y - 1 + k) % n := by omega
  have d : ((n : Int)) ∣ (x - y) := by
    have := Int.emod_emod_of_dvd
    have e := Int.sub_emod (x - 1 + k) (y - 1 + k) n
    rw [h', Int.sub_self, Int.zero_emod] at e
    have e2 : x - 1 + k - (y - 1 + k) = x - y := by omega
    rw [e2] at e
    exact Int.dvd_of_emod_eq_zero e
  obtain ⟨c, hc⟩ := d
  have : c = 0 := by
    by_cases z : c = 0
    · exact z
    · exfalso
      rcases Int.lt_or_gt_of_ne z with q | q
      · have : (n : Int) * c ≤ (n : Int) * (-1) := Int.mul_le_mul_of_nonneg_left (by omega) (by omega)
        omega
      · have : (n : Int) * 1 ≤ (n : Int) * c := Int.mul_le_mul_of_nonneg_left (by omega) (by omega)
        omega
  rw [this] at hc
  omega
/-- the j-th berth going round from w -/
def cyc (n : Nat) (w : Int) (j : Nat) : Int := turn n (j : Int) w
theorem cyc_lo {n : Nat} {w : Int} {j : Nat} (hw : 1 ≤ w) (h : w + j ≤ n) : cyc n w j = w + j := by
  unfold cyc turn
  rw [Int.emod_eq_of_lt (by omega) (by omega)]
  omega
theorem cyc_hi {n : Nat} {w : Int} {j : Nat} (hw : 1 ≤ w ∧ w ≤ n) (hj : j < n) (h : (n : Int) < w + j) : cyc n w j = w + j - n := by
  unfold cyc turn
  have e : w - 1 + (j : Int) = (w - 1 + j - n) + n := by omega
  rw [e, Int.add_emod_right, Int.emod_eq_of_lt (by omega) (by omega)]
  omega
theorem cyc_turn {n : Nat} {w k : Int} {j : Nat} : cyc n (turn n k w) j = turn n k (cyc n w j) := by
  unfold cyc turn
  have e1 : (w - 1 + k) % (n : Int) + 1 - 1 + (j : Int) = (w - 1 + k) % n + j := by omega
  have e2 : (w - 1 + (j : Int)) % (n : Int) + 1 - 1 + k = (w - 1 + j) % n + k := by omega
  rw [e1, e2, Int.emod_add_emod, Int.emod_add_emod]
  congr 2
  omega
theorem rfree_is {n : Nat} {occ : Int → Bool} {w : Int} {j : Nat} (hw : 1 ≤ w ∧ w ≤ n) (hj : j < n) (h1 : occ (cyc n w j) = false) (h2 : ∀ i, i < j → occ (cyc n w i) = true) : rfree n occ w = some (cyc n w j) := by
  unfold rfree
  by_cases z : w + j ≤ n
  · rw [cyc_lo hw.1 z] at h1 ⊢
    rw [ffree_is (by omega) z h1 fun x x1 x2 => ?_]
    have := h2 (x - w).toNat (by omega)
    rw [cyc_lo hw.1 (by omega)] at this
    rw [show w + (((x - w).toNat : Nat) : Int) = x by omega] at this
    exact this
  · rw [cyc_hi hw hj (by omega)] at h1 ⊢
    rw [ffree_non fun x x1 x2 => ?_]
    · show ffree n occ 1 = _
      rw [ffree_is (by omega) (by omega) h1 fun x x1 x2 => ?_]
      have := h2 (x + n - w).toNat (by omega)
      rw [cyc_hi hw (by omega) (by omega)] at this
      rw [show w + (((x + n - w).toNat : Nat) : Int) - n = x by omega] at this
      exact this
    · have := h2 (x - w).toNat (by omega)
      rw [cyc_lo hw.1 (by omega)] at this
      rw [show w + (((x - w).toNat : Nat) : Int) = x by omega] at this
      exact this
theorem rfree_cyc {n : Nat} {occ : Int → Bool} {w b : Int} (hw : 1 ≤ w ∧ w ≤ n) (h : rfree n occ w = some b) : ∃ j, j < n ∧ b = cyc n w j ∧ occ b = false ∧ ∀ i, i < j → occ (cyc n w i) = true := by
  unfold rfree at h
  cases e : ffree n occ w with
  | some c =>
    rw [e] at h
    cases h
    obtain ⟨c1, c2, c3, c4⟩ := ffree_some e
    refine ⟨(b - w).toNat, by omega, ?_, c3, fun i hi => ?_⟩
    · rw [cyc_lo hw.1 (by omega)]
      omega
    · rw [cyc_lo hw.1 (by omega)]
      exact c4 _ (by omega) (by omega)
  | none =>
    rw [e] at h
    have f := ffree_none e
    obtain ⟨c1, c2, c3, c4⟩ := ffree_some h
    have hbw : b < w := by
      by_cases z : b < w
      · exact z
      · rw [f b (by omega) c2] at c3
        cases c3
    refine ⟨(b + n - w).toNat, by omega, ?_, c3, fun i hi => ?_⟩
    · rw [cyc_hi hw (by omega) (by omega)]
      omega
    · by_cases z : w + (i : Int) ≤ n
      · rw [cyc_lo hw.1 z]
        exact f _ (by omega) z
      · rw [cyc_hi hw (by omega) (by omega)]
        exact c4 _ (by omega) (by omega)
/-- turned wishes: turned berths -/
theorem turned_run {n : Nat} (hn : 1 ≤ n) (k : Int) : ∀ ws : List Int, (∀ w ∈ ws, 1 ≤ w ∧ w ≤ n) → ws.length ≤ n → placedR n (ws.map (turn n k)) = (placedR n ws).map (turn n k) ∧ ∀ x : Int, 1 ≤ x → x ≤ n → (rrun n (ws.map (turn n k))).1 (turn n k x) = (rrun n ws).1 x := snoc_ind (fun _ _ => ⟨rfl, fun x _ _ => rfl⟩) fun ws w ih hb hl => by
  rw [List.length_append, List.length_singleton] at hl
  have hw := hb w (List.mem_append_right _ (List.mem_singleton.mpr rfl))
  have hb' : ∀ w ∈ ws, 1 ≤ w ∧ w ≤ n := fun x hx => hb x (List.mem_append_left _ hx)
  obtain ⟨i1, i2⟩ := ih hb' (by omega)
  have L := layR n ws hb' (by omega)
  obtain ⟨b, e⟩ := rfree_ex (n := n) (w := w) L.occ (by rw [placedR_len]; omega)
  obtain ⟨b1, b2, b3⟩ := rfree_some hw.1 e
  obtain ⟨j, j1, j2, j3, j4⟩ := rfree_cyc hw e
  have cb : ∀ i, 1 ≤ cyc n w i ∧ cyc n w i ≤ n := fun i => turn_bd hn _ _
  have e' : rfree n (rrun n (ws.map (turn n k))).1 (turn n k w) = some (turn n k b) := by
    rw [j2, ← cyc_turn]
    refine rfree_is (turn_bd hn _ _) j1 ?_ fun i hi => ?_
    · rw [cyc_turn, i2 _ (cb j).1 (cb j).2, ← j2]
      exact j3
    · rw [cyc_turn, i2 _ (cb i).1 (cb i).2]
      exact j4 i hi
  rw [List.map_append, List.map_singleton]
  unfold placedR at i1 ⊢
  rw [rrun_snoc, rrun_snoc]
  unfold rstep
  rw [e, e', i1]
  refine ⟨by simp, fun x x1 x2 => ?_⟩
  show setO (rrun n (ws.map (turn n k))).1 (turn n k b) (turn n k x) = setO (rrun n ws).1 b x
  unfold setO
  rw [i2 x x1 x2]
  congr 1
  by_cases z : x = b
  · rw [z, decide_eq_true rfl, decide_eq_true rfl]
  · rw [decide_eq_false z, decide_eq_false fun q => z (turn_inj ⟨x1, x2⟩ ⟨b1, b2⟩ q)]
theorem turned_placed {n : Nat} {k : Int} {ws : List Int} (hn : 1 ≤ n) (hb : ∀ w ∈ ws, 1 ≤ w ∧ w ≤ n) (hl : ws.length ≤ n) : placedR n (ws.map (turn n k)) = (placedR n ws).map (turn n k) := (turned_run hn k ws hb hl).1
theorem turn_back {n : Nat} {k x : Int} (hx : 1 ≤ x ∧ x ≤ n) : turn n k (turn n (-k) x) = x := by
  unfold turn
  have e : (x - 1 + -k) % (n : Int) + 1 - 1 + k = (x - 1 + -k) % n + k := by omega
  rw [e, Int.emod_add_emod]
  have e2 : x - 1 + -k + k = x - 1 := by omega
  rw [e2, Int.emod_eq_of_lt (by omega) (by omega)]
  omega
theorem turned_left {n : Nat} {k : Int} {ws : List Int} (hn : 1 ≤ n) (hb : ∀ w ∈ ws, 1 ≤ w ∧ w ≤ n) (hl : ws.length ≤ n) : leftR n (ws.map (turn n k)) = sortI ((leftR n ws).map (turn n k)) := by
  have L := layR n ws hb hl
  refine sortI_uniq ?_ (List.Pairwise.imp (fun h => Int.le_of_lt h) left_sorted)
  have nd2 : ((leftR n ws).map (turn n k)).Nodup := by
    rw [List.nodup_iff_pairwise_ne, List.pairwise_map]
    refine List.Pairwise.imp_of_mem (fun {x y} hx hy h => ?_) left_nodup
    exact fun z => h (turn_inj (mem_left.mp hx).1 (mem_left.mp hy).1 z)
  refine (List.perm_ext_iff_of_nodup left_nodup nd2).mpr fun x => ?_
  rw [mem_left, turned_placed hn hb hl]
  constructor
  · rintro ⟨hx, hnx⟩
    refine List.mem_map.mpr ⟨turn n (-k) x, mem_left.mpr ⟨turn_bd hn _ _, fun z => hnx ?_⟩, turn_back hx⟩
    have := List.mem_map_of_mem (f := turn n k) z
    rw [turn_back hx] at this
    exact this
  · intro h
    obtain ⟨y, hy, rfl⟩ := List.mem_map.mp h
    obtain ⟨y1, y2⟩ := mem_left.mp hy
    refine ⟨turn_bd hn _ _, fun z => ?_⟩
    obtain ⟨u, hu, eu⟩ := List.mem_map.mp z
    rw [turn_inj (L.bd u hu) y1 eu] at hu
    exact y2 hu
/-- as many are left as berths are more than ships -/
theorem left_len {n : Nat} {ws : List Int} (hb : ∀ w ∈ ws, 1 ≤ w ∧ w ≤ n) (hl : ws.length ≤ n) : (leftR n ws).length + ws.length = n := by
  have L := layR n ws hb hl
  have h1 : (leftR n ws ++ placedR n ws).Perm (upTo 1 n) := by
    refine (List.perm_ext_iff_of_nodup ?_ upTo_nodup).mpr fun x => ?_
    · rw [List.nodup_append]
      exact ⟨left_nodup, L.nd, fun x hx y hy e => (mem_left.mp hx).2 (e ▸ hy)⟩
    · rw [List.mem_append, mem_left, mem_upTo]
      constructor
      · rintro (⟨h, _⟩ | h)
        · omega
        · have := L.bd x h
          omega
      · intro h
        by_cases z : x ∈ placedR n ws
        · exact .inr z
        · exact .inl ⟨by omega, z⟩
  have := h1.length_eq
  rw [List.length_append, upTo_len, placedR_len] at this
  exact this

/-! ### the round quay -/
theorem tyb_isInt {K : PySem.W.Frag} {H : Hp} {x : V} {T : String} (h : TyB K H x T) : True := trivial
def sp_first_free_round (K : PySem.W.Frag) (a : Ad) : Sp := fun vs H Q _ => ∃ (h : Addr) (n : Nat) (occ : Int → Bool) (w : Int), vs = [.ref h, .int w] ∧ SqL K H h (heldL n occ) ∧ n ≤ 900 ∧ 0 ≤ w ∧ w ≤ 1000 ∧ Q (vO (rfree n occ w)) H
abbrev N_first_free_round : List Str := ["held", "wish", "berth"]
def t_first_free_round (K : PySem.W.Frag) (a : Ad) : TS :=
  (tSeq (tAsg (tCall (sp_first_free K a) [] E0 (tCons (tVar 0) (tCons (tVar 1) tNil))) (gName 2))
    (tSeq (tIfS (tB (tIsN (tVar 2))) (tRet (tCall (sp_first_free K a) [] E0 (tCons (tVar 0) (tCons (tC (.int 1)) tNil)))) tNext)
    (tRet (tVar 2))))
theorem len_first_free_round {K : PySem.W.Frag} {a : Ad} {vs : List V} {H : Hp} {Q : VK} {E : XK} (h : sp_first_free_round K a vs H Q E) : vs.length = 2 := by
  obtain ⟨h, n, occ, w, rfl, _⟩ := h
  rfl
theorem pu_first_free_round {K : PySem.W.Frag} {a : Ad} {vs : List V} {H : Hp} {Q : VK} {E : XK} (h : sp_first_free_round K a vs H Q E) : t_first_free_round K a { nx := fun _ H' => Q .non H', rt := Q } (start N_first_free_round vs) H := by
  obtain ⟨h, n, occ, w, rfl, hs, hn, h0, hw, q⟩ := h
  refine ⟨.ref h, rfl, .int w, rfl, h, n, occ, w, rfl, hs, hn, h0, hw, ?_⟩
  unfold rfree at q
  cases e0 : ffree n occ w with
  | none =>
    rw [e0] at q
    exact ⟨.non, rfl, true, rfl, iteT ⟨.ref h, rfl, h, n, occ, 1, rfl, hs, hn, by decide, by decide, q⟩⟩
  | some c =>
    rw [e0] at q
    exact ⟨.int c, rfl, false, rfl, iteF ⟨.int c, rfl, q⟩⟩
theorem inV_ints {x : Int} {l : List Int} : inV (.int x) (l.map V.int) = decide (x ∈ l) := by
  unfold inV
  rw [List.any_map, Bool.eq_iff_iff, List.any_eq_true, decide_eq_true_eq]
  constructor
  · rintro ⟨y, hy, e⟩
    have e' : eqV (.int y) (.int x) = true := e
    have : y = x := by simpa [eqV] using e'
    exact this ▸ hy
  · intro h
    exact ⟨x, h, by show eqV (.int x) (.int x) = true; simp [eqV]⟩
theorem flat_ints {l : List Int} : (l.map V.int).all flatV = true := by
  rw [List.all_map, List.all_eq_true]
  intro x _
  rfl
theorem allB_at {n i : Nat} {x : Int} (h : (allB n)[i]? = some x) : x = 1 + (i : Int) := by
  unfold allB at h
  obtain ⟨h1, h2⟩ := List.getElem?_eq_some_iff.mp h
  rw [List.getElem_map, List.getElem_range] at h2
  exact h2.symm
/-! ### what the laws read of a script -/
def cellAt (ns : List Int) (k : Int) : Int := ns.getD k.toNat 0
theorem cut_drop (xs : List V) (k : Nat) : cutV xs (some (k : Int)) none = xs.drop k := by
  unfold cutV
  rw [HT.sIx_nat, HT.sIx_none]
  by_cases h : k ≤ xs.length
  · rw [Nat.min_eq_left h]
    exact List.take_of_length_le (by rw [List.length_drop]; omega)
  · rw [Nat.min_eq_right (by omega), Nat.sub_self, List.take_zero, List.drop_eq_nil_of_le (by omega)]
theorem cut2 (xs : List V) : cutV xs (some 2) none = xs.drop 2 := cut_drop xs 2
theorem atI_lit (xs : List V) (j : Nat) {v : V} (h : xs[j]? = some v) : atI xs (j : Int) = some v := atI_nat h
def sp_l_cell_at (K : PySem.W.Frag) : Sp := fun vs H Q _ => ∃ (s : Addr) (ns : List Int) (k : Int), vs = [.ref s, .int k] ∧ SqL K H s (ns.map V.int) ∧ 0 ≤ k ∧ Q (.int (cellAt ns k)) H
abbrev N_l_cell_at : List Str := ["_law_script", "_law_k"]
def t_l_cell_at (K : PySem.W.Frag) (a : Ad) : TS :=
  (tSeq (tIfS (tTest (tOp rLtI (tVar 1) (tCB (rLenSq K) (tCons (tVar 0) tNil)))) (tRet (tOp (rIxL K) (tVar 0) (tVar 1))) tNext)
    (tRet (tC (.int 0))))
theorem len_l_cell_at {K : PySem.W.Frag} {vs : List V} {H : Hp} {Q : VK} {E : XK} (h : sp_l_cell_at K vs H Q E) : vs.length = 2 := by
  obtain ⟨s, ns, k, rfl, _⟩ := h
  rfl
theorem pu_l_cell_at {K : PySem.W.Frag} {a : Ad} {vs : List V} {H : Hp} {Q : VK} {E : XK} (h : sp_l_cell_at K vs H Q E) : t_l_cell_at K a { nx := fun _ H' => Q .non H', rt := Q } (start N_l_cell_at vs) H := by
  obtain ⟨s, ns, k, rfl, hs, h0, q⟩ := h
  refine ⟨.int k, rfl, .ref s, rfl, s, _, rfl, .inl hs, _, _, rfl, rfl, _, rfl, ?_⟩
  by_cases h : k < ((ns.map V.int).length : Nat)
  · rw [decide_eq_true h]
    rw [List.length_map] at h
    have e : ns[k.toNat]? = some (cellAt ns k) := by
      unfold cellAt
      rw [List.getD_eq_getElem?_getD, List.getElem?_eq_getElem (by omega)]
      rfl
    refine iteT ⟨.ref s, rfl, .int k, rfl, s, _, k, _, rfl, rfl, hs, at_of (j := k.toNat) (by omega) (by rw [List.getElem?_map, e]; rfl), q⟩
  · rw [decide_eq_false h]
    rw [List.length_map] at h
    have e : cellAt ns k = 0 := by
      unfold cellAt
      rw [List.getD_eq_getElem?_getD, List.getElem?_eq_none (by omega)]
      rfl
    rw [e] at q
    exact iteF q
theorem p3 : (0 : Int) < 3 := by decide
theorem p4 : (0 : Int) < 4 := by decide
theorem d2 {n : Int} : CDiv n 2 := ⟨by decide, by decide⟩
theorem d3 {n : Int} : CDiv n 3 := ⟨by decide, by decide⟩
theorem d12 {n : Int} : CDiv n 12 := ⟨by decide, by decide⟩
theorem pick3 (c : Int) (x y z : V) : ∃ v, atI [x, y, z] (c % 3) = some v ∧ (v = x ∨ v = y ∨ v = z) := by
  have h : c % 3 = 0 ∨ c % 3 = 1 ∨ c % 3 = 2 := by omega
  rcases h with h | h | h <;> rw [h]
  · exact ⟨x, rfl, .inl rfl⟩
  · exact ⟨y, rfl, .inr (.inl rfl)⟩
  · exact ⟨z, rfl, .inr (.inr rfl)⟩
theorem pick4 (c : Int) (x y z u : V) : ∃ v, atI [x, y, z, u] (c % 4) = some v ∧ (v = x ∨ v = y ∨ v = z ∨ v = u) := by
  have h : c % 4 = 0 ∨ c % 4 = 1 ∨ c % 4 = 2 ∨ c % 4 = 3 := by omega
  rcases h with h | h | h | h <;> rw [h]
  · exact ⟨x, rfl, .inl rfl⟩
  · exact ⟨y, rfl, .inr (.inl rfl)⟩
  · exact ⟨z, rfl, .inr (.inr (.inl rfl))⟩
  · exact ⟨u, rfl, .inr (.inr (.inr rfl))⟩
/-! ### try: .. except C as e: kept = e: the caught one stays known by its class -/
def ExK (cls : Value) (d : Option Addr) (a : Addr) : HO := .ext fun h => ∃ (oe : Obj) (vs : Array Value), h.get? a = some oe ∧ Zc cls d oe ∧ oe.data = .fields vs
theorem exK_ok {P : Program} {w : World} {H : Hp} {h : Heap} {a : Addr} {cls : Value} {d : Option Addr} {oe : Obj} {vs : Array Value} (e : h.get? a = some oe) (z : Zc cls d oe) (dd : oe.data = .fields vs) : ObjOk P w H h a (ExK cls d a) :=
  ⟨⟨oe, vs, e, z, dd⟩, ⟨oe, e⟩, fun _ _ ⟨o, v, q, r⟩ k => ⟨o, v, k o q, r⟩⟩
section
variable {X : Cx} {pins : List (Addr × Obj)} {σ : L2.St} {H : Hp} {s : Shared}
/-- a pinned exception that came behind the entry becomes tracked -/
theorem keep_exc {a : Addr} {oe : Obj} {vs : Array Value} {cls : Value} {d : Option Addr} (J : Inv X ((a, oe) :: pins) σ H s) (z : Zc cls d oe) (dd : oe.data = .fields vs) (h0 : X.s_0.heap.get? a = none) (np : ∀ p ∈ X.pn ++ pins, p.1 ≠ a) : Inv X pins σ (upd H a (ExK cls d a)) s := by
  obtain ⟨ea, na, nL, nF, nc⟩ := J.pin (a, oe) (List.mem_append_right _ List.mem_cons_self)
  have ne : ∀ {b : Addr} {o : HO}, H b = some o → b ≠ a := fun e q => by
    rw [q] at e
    have na' : H a = none := na
    rw [na'] at e
    cases e
  refine ⟨J.ok, J.os, J.bare, ⟨J.base.keep, J.base.slot, fun b o e n hx => ?_, J.base.there, fun b xs e => ?_, fun b o u e => ?_, fun b ps e => ?_⟩, J.loc, J.cell, ?_, fun x c e => ?_, fun p hp => ?_, fun b o e => ?_, J.len⟩
  · have hb : b ≠ a := fun q => by
      rw [q, h0] at e
      cases e
    rw [upd_ne hb]
    exact J.base.free b o e n hx
  · have e2 := J.base.tups b xs e
    rw [upd_ne (ne e2)]
    exact e2
  · have e2 := J.base.frzs b o u e
    rw [upd_ne (ne e2)]
    exact e2
  · obtain ⟨more, e2⟩ := J.base.tbls b ps e
    refine ⟨more, ?_⟩
    rw [upd_ne (ne e2)]
    exact e2
  · rw [upd_ne (fun q => nL q.symm)]
    exact J.free
  · have hc : c ≠ a := fun q => by
      obtain ⟨v, o, e1, e2⟩ := J.cell x c e
      rw [q] at e1
      have ea' : s.heap.get? a = some oe := ea
      rw [ea'] at e1
      cases e1
      rw [dd] at e2
      cases e2
    rw [upd_ne hc]
    exact J.freeC x c e
  · have hp' : p ∈ X.pn ++ (a, oe) :: pins := by
      rcases List.mem_append.mp hp with k | k
      · exact List.mem_append_left _ k
      · exact List.mem_append_right _ (List.mem_cons_of_mem _ k)
    obtain ⟨q1, q2, q3, q4, q5⟩ := J.pin p hp'
    exact ⟨q1, by rw [upd_ne (np p hp)]; exact q2, q3, q4, q5⟩
  · by_cases hb : b = a
    · subst hb
      rw [upd_same] at e
      cases e
      exact exK_ok ea z dd
    · rw [upd_ne hb] at e
      refine (J.hok b o e).stay (fun c u _ q => q) (fun c q => ?_) fun c xs q => ?_
      · rw [upd_ne (ne q)]
        exact q
      · rw [upd_ne (ne q)]
        exact q
end
/-- what the clause wishes of an exception of the body: it is caught, kept in slot j; the clause's own name, slot i, is empty behind it -/
def wKeep (K : PySem.W.Frag) (c : Addr) (i j : Nat) (D : Ends) : WX := fun cls d σ H =>
  PySem.W.exmOne K cls (.ref c) = some true ∧ ∀ a, H a = none → D.nx (((σ.set i (some (.ref a))).set j (some (.ref a))).set i none) (upd H a (ExK cls d a))
def tTryKeep (K : PySem.W.Frag) (c : Addr) (i j : Nat) (tb : WX → TS) : TS := fun D σ H => tb (wKeep K c i j D) D σ H
section
variable {X : Cx} {x n : Str} {c : Addr} {i j : Nat} {body suite : List Stmt} {b1 : Stmt} {np pos pos' : Pos} {tb : WX → TS}
/-- an exception caught, its clause ended, it is tracked -/
theorem caught_kept {a : Addr} {pins : List (Addr × Obj)} {σ : L2.St} {H : Hp} {B : Heap} {sI s' : Shared} {cls : Value} {d : Option Addr} {D : Ends}
    (hs : X.stack = X.env :: X.outer) (hf : X.env.frame = some X.env.locals) (hex : X.ex = []) (hN : X.N.Nodup) (hi : X.N[i]? = some n) (hln : X.env.kindOf n = some .local) (hc : Names X x (.ref c)) (ok : X.Ok)
    (hsu : ∀ (a : Addr) (oe : Obj) (cls : Value) (d : Option Addr) (pn : List (Addr × Obj)), Zc cls d oe → (∃ vs, oe.data = .fields vs) → PSs (X.suite a ((a, oe) :: pn)) (b1 :: suite) (tAsg (tVar i) (gName j)))
    (hln2 : i < σ.length)
    (J : Inv X pins σ H sI) (nb : ∀ b o, sI.heap.get? b = some o → b ∉ frs X.stack → B.get? b = some o) (up : sI.heap.UpToSlots s'.heap) (sky : Sky B X.stack a (Zc cls d) X.env.locals s'.heap) (na : H a = none) (os : s'.os = sI.os) (ag : AllBare s'.gens)
    (w : wKeep X.K c i j D cls d σ H) :
    wpAny (model X.prog X.w) X.A (noteFrame (.ref a) X.env) (fun _ s₂ => wpAny (model X.prog X.w) X.A (setFlight (.ref a) none) (fun _ s₃ =>
      wpAny (model X.prog X.w) X.A (handleBy (.ref a) X.env [.ExceptHandler (some (.Name x np)) (some n) (b1 :: suite) pos']) (SP X pins D) X.xe s₃) X.xe s₂) X.xe s' := by
  obtain ⟨hb, hyes⟩ := w
  have frames : X.A.frames = some (X.env :: X.outer) := ok.frames.trans (congrArg some hs)
  have sky2 : Sky B (X.env :: X.outer) a (Zc cls d) X.env.locals s'.heap := hs ▸ sky
  -- the exception stands apart from all that stood
  have hB : B.get? a = none := by
    rcases sky with q | q | q
    · exact q.2.1
    · exact q.2.1
    · exact q.2.1
  refine Sky.land Zc.steady frames hf sky2 fun h3 fl3 up3 => ?_
  have J3 : Inv X pins σ H { s' with heap := h3 } := J.landed nb fl3.1 (up.trans up3) os ag
  obtain ⟨oe3, vs3, he3, hz3, hd3⟩ := fl3.there
  have notIn : a ∉ frs (X.env :: X.outer) := fun hm => by
    obtain ⟨_, o, e, hnf⟩ := fl3.2.2.1.mem hm
    rw [he3] at e
    cases e
    exact hnf _ hd3
  have nL : a ≠ X.env.locals := fun z => notIn (List.mem_filterMap.mpr ⟨X.env, List.mem_cons_self, hf.trans (congrArg some z.symm)⟩)
  have nF : a ∉ X.fs := fun hm => by
    obtain ⟨e, he, q⟩ := List.mem_filterMap.mp hm
    exact notIn (List.mem_filterMap.mpr ⟨e, List.mem_cons_of_mem _ he, q⟩)
  have nS : a ∉ frs X.stack := hs ▸ notIn
  have h0 : X.s_0.heap.get? a = none := by
    cases q : X.s_0.heap.get? a with
    | none => rfl
    | some o =>
      obtain ⟨o', e⟩ := J.base.there a o q (by rw [hex]; simp)
      rw [nb a o' e nS] at hB
      cases hB
  have npin : ∀ p ∈ X.pn ++ pins, p.1 ≠ a := fun p hp z => by
    obtain ⟨e, _, p3, p4, _⟩ := J.pin p hp
    rw [z] at e
    rw [nb a p.2 e nS] at hB
    cases hB
  refine wpAny_handleBy_cons (codeAny_handlers_test ?_) (by intro q; cases q)
  have S3 := J3.suite he3 hd3 na nL nF
  have LT : PySem.W.Looks (model X.prog X.w) h3 (typeOf (.ref a)) cls := fun A Q E s k q => wpAny_typeOf_ref (k _ _ he3) (by rw [hz3.1]; exact q)
  have test : ∀ {Q : Value → Shared → Prop} {E : Value → Shared → Prop}, Q (.ref c) { s' with heap := h3 } → wpAny (model X.prog X.w) (X.A.mark (some (.ref a))) (eval (.Name x np) X.env) Q E { s' with heap := h3 } := fun {Q E} q => by
    obtain ⟨hg, hdbg, hm | ⟨hm, hv, hnn⟩⟩ := hc
    · exact ld_glob (X := X.suite a ((a, oe3) :: (X.pn ++ pins))) S3 hg hm q hdbg
    · exact ld_blt (X := X.suite a ((a, oe3) :: (X.pn ++ pins))) S3 hg hm hv q hnn hdbg
  refine test ((PySem.W.exm_one (M := model X.prog X.w) J3.kIn LT hb).here ?_)
  refine codeAny_handlers_suite_as (HandSPX.lands_againZ fl3 fun h4 fl4 up4 => ?_)
  have J4 : Inv X pins σ H { s' with heap := h4 } := J.landed nb fl4.1 ((up.trans up3).trans up4) os ag
  obtain ⟨oe4, vs4, he4, hz4, hd4⟩ := fl4.there
  have S4 := J4.suite he4 hd4 na nL nF
  refine store_ok (X := X.suite a ((a, oe4) :: (X.pn ++ pins))) (v := .ref a) S4 hN hi (.inl hln) rfl (fun s5 S5 => ?_) (.inr hln)
  have q5 : (tAsg (tVar i) (gName j)) { nx := fun σ' H' => H' = H ∧ σ' = (σ.set i (some (.ref a))).set j (some (.ref a)), rt := fun _ _ => False } (σ.set i (some (.ref a))) H := by
    exact ⟨.ref a, by rw [List.getElem?_set_self hln2], rfl, rfl⟩
  refine wpAny_mono ((hsu a oe4 cls d (X.pn ++ pins) hz4 ⟨_, hd4⟩).run [] s5 _ H _ S5 q5) (fun f s6 hsp => ?_) (fun _ _ z => False.elim z)
  cases f with
  | next =>
    obtain ⟨σ6, H6, S6, rfl, rfl⟩ := hsp
    have P6 : Inv X ((a, oe4) :: pins) ((σ.set i (some (.ref a))).set j (some (.ref a))) H6 s6 :=
      ⟨ok, S6.os, S6.bare, S6.base, S6.loc, S6.cell, S6.free, S6.freeC, fun p hp => S6.pin p (by
        rw [List.append_nil]
        rcases List.mem_append.mp hp with k | k
        · exact List.mem_cons_of_mem _ (List.mem_append_left _ k)
        · rcases List.mem_cons.mp k with k | k
          · rw [k]; exact List.mem_cons_self
          · exact List.mem_cons_of_mem _ (List.mem_append_right _ k)), S6.hok, S6.len⟩
    refine gone_ok P6 hN hi hln fun s7 J7 => ?_
    exact ⟨_, _, keep_exc J7 hz4 hd4 h0 npin, hyes a na⟩
  | brk =>
    obtain ⟨_, _, _, q⟩ := hsp
    exact q.elim
  | cont =>
    obtain ⟨_, _, _, q⟩ := hsp
    exact q.elim
  | ret u =>
    obtain ⟨_, _, _, _, _, q⟩ := hsp
    exact q.elim
theorem ps_try_keep (hs : X.stack = X.env :: X.outer) (hf : X.env.frame = some X.env.locals) (hex : X.ex = []) (hN : X.N.Nodup) (hi : X.N[i]? = some n) (hln : X.env.kindOf n = some .local) (hc : Names X x (.ref c))
    (hb : ∀ (W : WX) (pn : List (Addr × Obj)) (xe : Value → Shared → Prop), Takes (X.tr pn xe) W → PassesOwn (model X.prog X.w) X.A X.env xe → PSs (X.tr pn xe) body (tb W))
    (hsu : ∀ (a : Addr) (oe : Obj) (cls : Value) (d : Option Addr) (pn : List (Addr × Obj)), Zc cls d oe → (∃ vs, oe.data = .fields vs) → PSs (X.suite a ((a, oe) :: pn)) (b1 :: suite) (tAsg (tVar i) (gName j))) :
    PS X (.Try body [.ExceptHandler (some (.Name x np)) (some n) (b1 :: suite) pos'] [] [] pos) (tTryKeep X.K c i j tb) := by
  refine ⟨fun pins s σ H D I h => wpAny_Try_except ?_⟩
  have ok := I.ok
  refine wpAny_mono ((hb (wKeep X.K c i j D) (X.pn ++ pins) (fun e s₁ => wpAny (model X.prog X.w) X.A (noteFrame e X.env) (fun _ s₂ => wpAny (model X.prog X.w) X.A (setFlight e none) (fun _ s₃ =>
    wpAny (model X.prog X.w) X.A (handleBy e X.env [.ExceptHandler (some (.Name x np)) (some n) (b1 :: suite) pos']) (SP X pins D) X.xe s₃) X.xe s₂) X.xe s₁) (fun u s' xx => ?_) PassesOwn.looking).run [] s σ H D (I.toTry _) h) (fun f s1 hsp => ?_) (fun e s1 he => he)
  · obtain ⟨a, B, sI, pins', σ', H', cls, d, rfl, J', nb, up, sky, na, os, ag, w⟩ := xx
    have il : i < σ'.length := by
      have e1 := (List.getElem?_eq_some_iff.mp hi).1
      have e2 := J'.len
      have e3 : σ'.length = X.N.length := e2
      omega
    exact caught_kept hs hf hex hN hi hln hc ok hsu il (J'.ofTry ok) nb up sky na os ag w
  · cases f with
    | next =>
      obtain ⟨σ', H', J', q⟩ := hsp
      exact wpAny_execs_nil ⟨σ', H', J'.ofTry ok, q⟩
    | brk =>
      obtain ⟨σ', H', J', q⟩ := hsp
      exact ⟨σ', H', J'.ofTry ok, q⟩
    | cont =>
      obtain ⟨σ', H', J', q⟩ := hsp
      exact ⟨σ', H', J'.ofTry ok, q⟩
    | ret u =>
      obtain ⟨v, σ', H', J', r, q⟩ := hsp
      exact ⟨v, σ', H', J'.ofTry ok, r, q⟩
end

/-! ### isinstance of a kept exception; a call, inside a try, of a local that holds a def -/
structure ExG (K : PySem.W.Frag) (C : Addr) : Prop where
  c : ExcC K C
  ty : PySem.W.typeIn K (.ref C) = some (.type "type")
  self : PySem.W.subIn K (.ref C) (.ref C) = some true
theorem cls_some {K : PySem.W.Frag} {C : Addr} (h : PySem.W.hasDictIn K C = true) : (PySem.W.clsIn K C).isSome = true := by
  obtain ⟨cd, hc, _⟩ := PySem.W.any_some h
  rw [hc]
  rfl
theorem kit_ref {K : PySem.W.Frag} {C D : Addr} {b : Bool} (g : ExG K C) (h : PySem.W.subIn K (.ref D) (.ref C) = some b) : PySem.W.kitOne K (.ref D) (.ref C) = some b := by
  unfold PySem.W.kitOne
  by_cases e : (Value.ref D == Value.ref C) = true
  · rw [if_pos e]
    have e2 : D = C := Value.ref.inj (beq_iff_eq.mp e)
    subst e2
    rw [g.self] at h
    exact h
  · rw [if_neg e]
    have e2 : ((PySem.W.clsIn K C).isSome && PySem.W.typeIn K (.ref C) == some (.type "type")) = true := by rw [cls_some g.c.hd, g.ty] <;> rfl
    show (if ((PySem.W.clsIn K C).isSome && PySem.W.typeIn K (.ref C) == some (.type "type")) = true then PySem.W.subIn K (.ref D) (.ref C) else none) = some b
    rw [if_pos e2]
    exact h
theorem kit_typ {K : PySem.W.Frag} {D : Addr} {T : String} {b : Bool} (hm : PySem.W.kitMeta T = true) (h : PySem.W.subIn K (.ref D) (.type T) = some b) : PySem.W.kitOne K (.ref D) (.type T) = some b := by
  unfold PySem.W.kitOne
  have e : ¬ (Value.ref D == Value.type T) = true := fun z => by cases beq_iff_eq.mp z
  rw [if_neg e]
  show (if PySem.W.kitMeta T = true then PySem.W.subIn K (.ref D) (.type T) else none) = some b
  rw [if_pos hm]
  exact h
theorem exm_of {K : PySem.W.Frag} {C : Addr} {cls : Value} {b : Bool} (g : ExG K C) (h : PySem.W.subIn K cls (.ref C) = some b) : PySem.W.exmOne K cls (.ref C) = some b := PySem.W.exm_ref g.c.hs g.c.hd g.ty h
inductive TyE (K : PySem.W.Frag) (H : Hp) : V → Value → Prop where
  | old {x : V} {t : Value} : TyX K H x t → TyE K H x t
  | exc {a D : Addr} : H a = some (ExK (.ref D) none a) → ExcC K D → TyE K H (.ref a) (.ref D)
def rIsiE (K : PySem.W.Frag) : List V → Hp → VK → Prop := fun xs H Q => ∃ (x c : V) (t u : Value) (b : Bool), xs = [x, c] ∧ ClsV c u ∧ TyE K H x t ∧ PySem.W.kitOne K t u = some b ∧ Q (.bl b) H
def rIsiTE (K : PySem.W.Frag) : List V → Hp → VK → Prop := fun xs H Q => ∃ (x : V) (tp : Addr) (cs : List V) (t : Value) (us : List Value) (b : Bool), xs = [x, .ref tp] ∧ H tp = some (.tup cs) ∧ Paired ClsV cs us ∧ TyE K H x t ∧ PySem.W.kitAny K t us = some b ∧ Q (.bl b) H
section
variable {X : Cx} {pins : List (Addr × Obj)} {σ : L2.St} {H : Hp} {s : Shared}
theorem kit_ofE {x : V} {u t : Value} (I : Inv X pins σ H s) (rx : RelV x u) (ty : TyE X.K H x t) : ∃ P : Heap → Prop, PySem.W.KitX X.K u t P ∧ P s.heap ∧ u ≠ .builtin "__main__.__loader__#opaque" := by
  cases ty with
  | old ty => exact kit_of I rx ty
  | @exc a D e C =>
    cases (show u = Value.ref a from rx)
    obtain ⟨⟨oe, vs, e1, z, dd⟩, _, _⟩ := (show ObjOk X.prog X.w H s.heap a (ExK (.ref D) none a) from I.hok a _ e)
    have J : PySem.W.InstAt s.heap a oe D none := by
      obtain ⟨oc, od, oda, osl⟩ := oe
      obtain ⟨h1, h2⟩ := z
      dsimp only at h1 h2 dd
      subst h1 h2 dd
      exact ⟨e1, rfl, rfl, trivial⟩
    exact ⟨_, PySem.W.handS_kitx_exc C.hg C.hk C.hs C.hd C.ha C.hn C.ht C.hm, J, fun z => nomatch z⟩
theorem call_isiE : CallR X (.builtin "isinstance") (rIsiE X.K) := by
  intro pins s σ H xs us Q I r h
  obtain ⟨x, c, t, u, b, rfl, k, ty, e, q⟩ := h
  obtain ⟨u1, u2, rfl, r1, r2⟩ := vals2 r
  have e2 := k.eq r2
  subst e2
  obtain ⟨P, Z, p, hx⟩ := kit_ofE I r1 ty
  exact PySem.W.kia_one Z I.kIn p e hx fun tk => ⟨.bl b, H, I.tok tk, rfl, q⟩
theorem call_isiTE : CallR X (.builtin "isinstance") (rIsiTE X.K) := by
  intro pins s σ H xs us Q I r h
  obtain ⟨x, tp, cs, t, ws, b, rfl, hT, k, ty, e, q⟩ := h
  obtain ⟨u1, u2, rfl, r1, r2⟩ := vals2 r
  cases (show u2 = Value.ref tp from r2)
  obtain ⟨P, Z, p, hx⟩ := kit_ofE I r1 ty
  obtain ⟨_, its, rv, o, h1, h2, n, h3⟩ := (show ObjOk X.prog X.w H s.heap tp (.tup cs) from I.hok tp _ hT)
  have e3 := ClsV.all k rv
  subst e3
  obtain ⟨oc, od, dt, sl⟩ := o
  simp only at h2 h3
  subst h2 h3
  exact PySem.W.kia_tup Z I.kIn p h1 e hx fun tk => ⟨.bl b, H, I.tok tk, rfl, q⟩
end
/-- a def that a local may hold -/
structure Hd (P : Program) (w : World) (K : PySem.W.Frag) (mg : Str → Option Value) (base : Heap) (CX : CXT) (kk : Nat) (f : Addr) (sp : Sp) : Prop where
  ex : ∃ (k : Nat) (fd : FuncData) (ps : List Str), k ≤ kk ∧ FnOk P w K mg base CX k f fd ps sp ∧ Binds K fd ps []
  kp : PySem.W.keepIn K (.ref f) = true
theorem hd_of {P : Program} {w : World} {K : PySem.W.Frag} {mg : Str → Option Value} {base : Heap} {CX : CXT} {k kk : Nat} {x : Str} {f : Addr} {ps : List Str} {sp : Sp} (G : Cb P w K mg base CX k x f ps sp) (h : k ≤ kk) : Hd P w K mg base CX kk f sp := by
  obtain ⟨⟨fd, F, b⟩, g, kp⟩ := G
  exact ⟨⟨k, fd, ps, h, F, b⟩, kp⟩
def tCallD (i : Nat) (S : Addr → Sp → Prop) (E : L2.St → XK) (t : TA) : TE := fun σ H Q => ∃ f sp, σ[i]? = some (some (.ref f)) ∧ S f sp ∧ t σ H fun vs H1 => sp vs H1 Q (E σ)
theorem pe_callD {X : Cx} {CX : CXT} {kk i : Nat} {S : Addr → Sp → Prop} {E : L2.St → XK} {x : Str} {p pos : Pos} {e : Expr} {es : List Expr} {t : TA} (A : ∀ f sp, S f sp → Hd X.prog X.w X.K X.mg X.base CX kk f sp) (hr : Room kk X.A) (hx : ∀ σ, PassesAt CX X σ (E σ))
    (ha : PA X (e :: es) t) (hN : X.N[i]? = some x := by rfl) (hv : Vis X.env.scope x := by first | exact Or.inl rfl | exact Or.inr (Or.inl rfl) | exact Or.inr (Or.inr rfl))
    (hdb : (x == ("__debug__" : Str)) = false := by decide) (hcd : (x == ("__classdict__" : Str)) = false := by decide)
    (he : starEach (e :: es) X.env = (false, eval e X.env) :: starEach es X.env := by rfl) (hpl : (backTo pos (starEach es X.env)).any (·.1) = false := by rfl) : PE X (.Call (.Name x p) (e :: es) [] pos) (tCallD i S E t) := by
  refine ⟨fun pins s σ H Q I h => ?_⟩
  obtain ⟨f, sp, hs, hS, ht⟩ := h
  obtain ⟨⟨k, fd, ps, hk, F, hb⟩, kp⟩ := A f sp hS
  refine wpAny_Call_Name_kw (thn ((pe_var (pos := p) hN hv hdb hcd).run pins s σ H (fun v H1 => v = .ref f ∧ H1 = H) I ⟨.ref f, hs, rfl, rfl⟩) fun u s1 ⟨v, H1, I1, r1, q1⟩ => ?_)
  obtain ⟨rfl, rfl⟩ := q1
  cases r1
  refine PySem.W.callWith_K (h₀ := X.base) I.ok.mod.kin kp (thn (ha.run pos pins s1 σ _ _ I1 ht) fun us s2 ⟨vs, H2, I2, r, q⟩ => ⟨I2.kIn, ?_⟩) he hpl
  exact run_fnS F (hr.mono hk) hb (hx σ) I2 r q

/-! ### the two classes: methods called on one's own object, on one of either class, and the making of an object, also inside a try -/
def Ad.cls (a : Ad) (b : Bool) : Addr := if b then a.c_Round else a.c_Quay
/-- a method that keeps its promise, as its class has it -/
structure Mb (P : Program) (w : World) (K : PySem.W.Frag) (mg : Str → Option Value) (base : Heap) (CX : CXT) (k : Nat) (C : Addr) (m : Str) (f : Addr) (ps : List Str) (sp : Sp) : Prop where
  ex : ∃ fd, FnOk P w K mg base CX k f fd ps sp ∧ Binds K fd ps []
  mt : Meth K C m f
theorem _root_.L2.FnOk.lift {P : Program} {w : World} {K : PySem.W.Frag} {mg : Str → Option Value} {base : Heap} {CX : CXT} {k k' : Nat} {f : Addr} {fd : FuncData} {ps : List Str} {sp : Sp} (F : FnOk P w K mg base CX k f fd ps sp) (h : k ≤ k') : FnOk P w K mg base CX k' f fd ps sp :=
  ⟨F.len, fun A outer s H args us vs Q E hr e0 hb r q => F.run A outer s H args us vs Q E (hr.mono h) e0 hb r q⟩
theorem Mb.lift {P : Program} {w : World} {K : PySem.W.Frag} {mg : Str → Option Value} {base : Heap} {CX : CXT} {k k' : Nat} {C : Addr} {m : Str} {f : Addr} {ps : List Str} {sp : Sp} (G : Mb P w K mg base CX k C m f ps sp) (h : k ≤ k') : Mb P w K mg base CX k' C m f ps sp := by
  obtain ⟨⟨fd, F, b⟩, mt⟩ := G
  exact ⟨⟨fd, F.lift h, b⟩, mt⟩
theorem passOf {CX : CXT} {X : Cx} {E : XK} (h : Passes CX X E) (σ : L2.St) : PassesAt CX X σ E := fun pins H s e s' I q => h pins σ H s e s' I q
def tMethB (C : Bool → Addr) (m : Str) (sp : Bool → Sp) (E : L2.St → XK) (ta : TE) (t : TA) : TE := fun σ H Q => ta σ H fun x H1 => ∃ b p dx fs, x = V.ref p ∧ H1 p = some (.ins (C b) dx fs) ∧ List.lookup m fs = none ∧ t σ H1 fun vs H2 => sp b (x :: vs) H2 Q (E σ)
def tMk (C : Addr) (sp : Sp) (E : L2.St → XK) (t : TA) : TE := fun σ H Q => t σ H fun vs H1 => ∀ (x dx : Addr), H1 x = none → H1 dx = none → dx ≠ x → sp (V.ref x :: vs) (upd (upd H1 dx (.own x)) x (.ins C dx [])) (fun v H2 => v = V.non ∧ Q (V.ref x) H2) (E σ)
section
variable {X : Cx}
theorem pe_mbB {CX : CXT} {k : Nat} {C : Bool → Addr} {f : Bool → Addr} {ps : List Str} {sp : Bool → Sp} {E : L2.St → XK} {m : Str} {pos apos : Pos} {o e : Expr} {es : List Expr} {ta : TE} {t : TA} {pl : Sem Bool}
    (G : ∀ b, Mb X.prog X.w X.K X.mg X.base CX k (C b) m (f b) ps (sp b)) (cl : ∀ b, Cls X.K (C b)) (hr : Room k X.A) (hx : ∀ σ, PassesAt CX X σ (E σ)) (ho : PE X o ta) (ha : PA X (e :: es) t)
    (hst : starEach (e :: es) X.env = (false, eval e X.env) :: starEach es X.env := by rfl) (hpl : (backTo pos (starEach es X.env)).any (·.1) = false := by rfl)
    (ht : eval (.Call (.Attribute o m apos) (e :: es) [] pos) X.env = (do
      let ov ← eval o X.env
      standAt apos.atName
      let __x ← holding [ov] (getMethod ov m pl)
      match __x with
        | (f, first) => callWith pos f first (backTo pos (starEach (e :: es) X.env)) (backToKw pos (keywordEach [] X.env))) := by rfl) :
    PE X (.Call (.Attribute o m apos) (e :: es) [] pos) (tMethB C m sp E ta t) := by
  refine ⟨fun pins s σ H Q I h => ?_⟩
  refine PySem.W.methodCall_KW (pl := pl) (thn (ho.run pins s σ H _ I h) ?_) ht
  rintro u s1 ⟨x, H1, I1, rx, b, p, dx, fs, rfl, hp, hl, q⟩
  cases rx
  obtain ⟨⟨fd, F, hb⟩, mt⟩ := G b
  refine getmeth_ok I1 hp (cl b) mt hl (PySem.W.callWith_K I1.ok.mod.kin mt.kp (thn (ha.run pos pins s1 σ H1 (fun vs H2 => sp b (V.ref p :: vs) H2 Q (E σ)) I1 q) ?_) hst hpl)
  rintro us s2 ⟨vs, H2, I2, r, q2⟩
  exact ⟨I2.kIn, run_fnS (E := E) F hr hb (hx σ) I2 (Paired.cons (F := L2.RelV) (a := V.ref p) (b := Value.ref p) rfl r) q2⟩
theorem pe_mbB0 {CX : CXT} {k : Nat} {C : Bool → Addr} {f : Bool → Addr} {ps : List Str} {sp : Bool → Sp} {E : L2.St → XK} {m : Str} {pos apos : Pos} {o : Expr} {ta : TE} {pl : Sem Bool}
    (G : ∀ b, Mb X.prog X.w X.K X.mg X.base CX k (C b) m (f b) ps (sp b)) (cl : ∀ b, Cls X.K (C b)) (hr : Room k X.A) (hx : ∀ σ, PassesAt CX X σ (E σ)) (ho : PE X o ta)
    (ht : eval (.Call (.Attribute o m apos) [] [] pos) X.env = (do
      let ov ← eval o X.env
      standAt apos.atName
      let __x ← holding [ov] (getMethod ov m pl)
      match __x with
        | (f, first) => callWith pos f first (backTo pos (starEach [] X.env)) (backToKw pos (keywordEach [] X.env))) := by rfl) :
    PE X (.Call (.Attribute o m apos) [] [] pos) (tMethB C m sp E ta tNil) := by
  refine ⟨fun pins s σ H Q I h => ?_⟩
  refine PySem.W.methodCall_KW (pl := pl) (thn (ho.run pins s σ H _ I h) ?_) ht
  rintro u s1 ⟨x, H1, I1, rx, b, p, dx, fs, rfl, hp, hl, q⟩
  cases rx
  obtain ⟨⟨fd, F, hb⟩, mt⟩ := G b
  exact getmeth_ok I1 hp (cl b) mt hl (PySem.W.callWith_K0 I1.kIn mt.kp (run_fnS (E := E) F hr hb (hx σ) I1 (Paired.cons (F := L2.RelV) (a := V.ref p) (b := Value.ref p) rfl .nil) q))
theorem run_makeS {CX : CXT} {k : Nat} {f C : Addr} {fd : FuncData} {ps : List Str} {sp : Sp} {E : L2.St → XK} {pins : List (Addr × Obj)} {σ : L2.St} {H : Hp} {s : Shared} {Q : VK} {us : List Value} {vs : List V}
    (M : Mk X.K C f) (F : FnOk X.prog X.w X.K X.mg X.base CX k f fd ps sp) (hr : Room (k + 1) X.A) (hb : L2.Binds X.K fd ps []) (hx : PassesAt CX X σ (E σ)) (I : L2.Inv X pins σ H s) (r : Vals vs us)
    (h : ∀ (x dx : Addr), H x = none → H dx = none → dx ≠ x → sp (V.ref x :: vs) (upd (upd H dx (.own x)) x (.ins C dx [])) (fun v H2 => v = V.non ∧ Q (V.ref x) H2) (E σ)) :
    wpAny (model X.prog X.w) X.A (call (Value.ref C) us) (EP X pins σ Q) X.xe s := by
  have hq := h (s.heap.objs.size + 1) s.heap.objs.size (HOk.fresh I.hok (Nat.le_succ _)) (HOk.fresh I.hok (Nat.le_refl _)) (Nat.ne_of_lt (Nat.lt_succ_self _))
  have I2 := Inv.made (C := C) I
  have r2 : Vals (V.ref (s.heap.objs.size + 1) :: vs) (Value.ref (s.heap.objs.size + 1) :: us) := .cons rfl r
  have hl : ((Value.ref (s.heap.objs.size + 1) :: us) ++ []).length = ps.length := by
    rw [List.append_nil]
    exact r2.length.symm.trans (F.len _ _ _ _ hq)
  have hb2 := hb { heap := (s.heap.push PySem.W.emptyDict).push (PySem.W.instObj C s.heap.objs.size), gens := s.gens, drawn := s.drawn, toks := s.toks, os := s.os } (Value.ref (s.heap.objs.size + 1) :: us) I2.kIn hl
  rw [List.append_nil] at hb2
  refine wpAny_call (make_map I.kIn M.makes M.init (beq_iff_eq.mp M.fn) (codeAny_mono (F.run (X.A.under (Code.builtin "type.__call__" { pos := Value.ref C :: us })) X.stack _ _ { pos := Value.ref (s.heap.objs.size + 1) :: us } (Value.ref (s.heap.objs.size + 1) :: us) _ _ (E σ) (Room.make hr C us []) (Env0.make I2.env0 C us []) hb2 r2 hq) ?_))
  intro rs s' hq'
  cases rs with
  | error e => exact hx pins _ _ e s' I2 hq'
  | ok fl =>
    cases fl with
    | ret u =>
      obtain ⟨v, H', I3, rv, rfl, q3⟩ := I2.after hq'
      exact ⟨rv, V.ref (s.heap.objs.size + 1), H', I3, (show L2.RelV (V.ref (s.heap.objs.size + 1)) (Value.ref (s.heap.objs.size + 1)) from rfl), q3⟩
    | _ => exact hq'.elim
theorem pe_mk {CX : CXT} {k : Nat} {f C : Addr} {ps : List Str} {sp : Sp} {E : L2.St → XK} {x : Str} {p pos : Pos} {e : Expr} {es : List Expr} {t : TA}
    (M : Mk X.K C f) (G : ∃ fd, FnOk X.prog X.w X.K X.mg X.base CX k f fd ps sp ∧ Binds X.K fd ps []) (hm : X.mg x = some (.ref C)) (hr : Room (k + 1) X.A) (hg : Gl X x) (hx : ∀ σ, PassesAt CX X σ (E σ)) (ha : PA X (e :: es) t)
    (hdb : (x == ("__debug__" : Str)) = false := by decide) (he : starEach (e :: es) X.env = (false, eval e X.env) :: starEach es X.env := by rfl) (hpl : (backTo pos (starEach es X.env)).any (·.1) = false := by rfl) :
    PE X (.Call (.Name x p) (e :: es) [] pos) (tMk C sp E t) := by
  obtain ⟨fd, F, hb⟩ := G
  refine ⟨fun pins s σ H Q I h => wpAny_Call_Name_kw (ld_glob I hg hm (PySem.W.callWith_K I.ok.mod.kin M.kp (thn (ha.run pos pins s σ H _ I h) ?_) he hpl) hdb)⟩
  rintro us s1 ⟨vs, H1, I1, r, q⟩
  exact ⟨I1.kIn, run_makeS (E := E) M F hr hb (hx σ) I1 r q⟩
end
theorem mb_two {P : Program} {w : World} {K : PySem.W.Frag} {mg : Str → Option Value} {base : Heap} {CX : CXT} {kQ kR k : Nat} {m : Str} {fQ fR : Addr} {ps : List Str} {sp : Ad → Bool → Sp} {a : Ad} {TX : Ad → Prop} (T : TX a) (hQ : ∃ fd, FnOk P w K mg base CX kQ fQ fd ps (sp a false) ∧ Binds K fd ps []) (hR : ∃ fd, FnOk P w K mg base CX kR fR fd ps (sp a true) ∧ Binds K fd ps [])
    (mQ : Meth K a.c_Quay m fQ) (mR : Meth K a.c_Round m fR) (h1 : kQ ≤ k) (h2 : kR ≤ k) : ∀ b, Mb P w K mg base CX k (a.cls b) m ((fun b => if b = true then fR else fQ) b) ps (sp a b) := fun b => by
  cases b with
  | false =>
    obtain ⟨fd, F, hb⟩ := hQ
    exact ⟨⟨fd, F.lift h1, hb⟩, mQ⟩
  | true =>
    obtain ⟨fd, F, hb⟩ := hR
    exact ⟨⟨fd, F.lift h2, hb⟩, mR⟩
theorem mb_one {P : Program} {w : World} {K : PySem.W.Frag} {mg : Str → Option Value} {base : Heap} {CX : CXT} {kQ k : Nat} {m : Str} {fQ : Addr} {ps : List Str} {sp : Ad → Bool → Sp} {a : Ad} {TX : Ad → Prop} (T : TX a) (hQ : ∀ b, ∃ fd, FnOk P w K mg base CX kQ fQ fd ps (sp a b) ∧ Binds K fd ps [])
    (mQ : Meth K a.c_Quay m fQ) (mR : Meth K a.c_Round m fQ) (h1 : kQ ≤ k) : ∀ b, Mb P w K mg base CX k (a.cls b) m ((fun _ => fQ) b) ps (sp a b) := fun b => by
  obtain ⟨fd, F, hb⟩ := hQ b
  cases b with
  | false => exact ⟨⟨fd, F.lift h1, hb⟩, mQ⟩
  | true => exact ⟨⟨fd, F.lift h1, hb⟩, mR⟩

/-! ### x in d.values(), x not in d.values(): whole numbers -/
theorem entry_in : entryFor table "proto.contains_iter" = some Builtin.«proto.contains_iter» := entryFor_of_tree (by rfl)
theorem look_in : typeLookup (Value.type "dict_values") ("__contains__" : Str) = pure none := by rfl
theorem qt_in {as : List Value} : (Code.builtin "proto.contains_iter" { pos := as }).quiet = true := Code.quiet_builtin _ (by decide +kernel)
theorem in_loop {P : Program} {w : World} {it d : Addr} {ep : Nat} {kvs : List (Key × Value)} {ns : List Int} {x : Int} {tx : Tok} (hd : d ≠ it) (hl : kvs.length = ns.length) (hv : ∀ (i : Nat) (z : Int), ns[i]? = some z → ∃ k t, kvs[i]? = some (k, Value.int z t)) :
    ∀ (m i : Nat) (A : Around) (R : Result → Shared → Prop) (s : Shared), ns.length - i = m → A.handled = none → s.heap.IsValIter it d i kvs.length ep → Heap.DictAt (mixKind P w) s.heap d kvs ep →
      (∀ (h' : Heap) (t' : Nat), (∀ b o, b ≠ it → s.heap.get? b = some o → h'.get? b = some o) → R (.ok (.ret (.bool (decide (x ∈ ns.drop i))))) { heap := h', gens := s.gens, drawn := s.drawn, toks := t', os := s.os }) →
      codeAny (model P w) A (Code.builtin "proto.contains_iter" { pos := [.ref it, .int x tx] }) R s := by
  intro m
  induction m with
  | zero =>
    intro i A R s hm hA hi hdt k
    refine codeAny_builtin entry_in ?_
    show wpAny _ _ (pyNext (Value.ref it) >>= _) _ _ _
    refine wpAny_bind (wpAny_pyNext_values_end (kvs := kvs) (knd := mixKind P w) hA hi hdt (List.getElem?_eq_none (by omega)) fun h' hk => ?_)
    refine wpAny_bind (wpAny_rule (wpAny_pure ?_))
    have e : ns.drop i = [] := List.drop_eq_nil_of_le (by omega)
    rw [e] at k
    exact k h' _ hk
  | succ m ih =>
    intro i A R s hm hA hi hdt k
    have hlt : i < ns.length := by omega
    obtain ⟨key, t, e⟩ := hv i _ (List.getElem?_eq_getElem hlt)
    refine codeAny_builtin entry_in ?_
    show wpAny _ _ (pyNext (Value.ref it) >>= _) _ _ _
    refine wpAny_bind (wpAny_pyNext_values_item (kvs := kvs) (knd := mixKind P w) hi hdt e fun h' hi' hk => ?_)
    refine wpAny_bind (wpAny_eqBool_int ?_)
    have ed : ns.drop i = ns[i] :: ns.drop (i + 1) := List.drop_eq_getElem_cons hlt
    by_cases hx : ns[i] = x
    · refine wpAny_ite_true (by simpa using hx) (wpAny_bind (wpAny_rule (wpAny_pure ?_)))
      have k := k h' s.toks (fun b o hb q => (hk.2 b hb).trans q)
      rw [ed, hx, decide_eq_true (List.mem_cons_self)] at k
      exact k
    · refine wpAny_ite_false (by simpa using hx) (wpAny_pure ⟨qt_in, ?_⟩)
      refine ih (i + 1) A R _ (by omega) hA hi' ?_ fun h2 t2 h3 => ?_
      · obtain ⟨o, es, q1, q2⟩ := hdt
        exact ⟨o, es, (hk.2 d hd).trans q1, q2⟩
      · have k := k h2 t2 (fun b o hb q => h3 b o hb ((hk.2 b hb).trans q))
        have e2 : decide (x ∈ ns.drop i) = decide (x ∈ ns.drop (i + 1)) := by
          rw [ed]
          congr 1
          rw [eq_iff_iff, List.mem_cons]
          constructor
          · rintro (q | q)
            · exact absurd q.symm hx
            · exact q
          · exact .inr
        rw [e2] at k
        exact k
theorem contains_vals {P : Program} {w : World} {A : Around} {E : Value → Shared → Prop} {s : Shared} {v d : Addr} {ep : Nat} {kvs : List (Key × Value)} {ns : List Int} {x : Int} {tx : Tok} {Q : Bool → Shared → Prop} (hA : A.handled = none) (hvw : s.heap.IsValuesView v d) (hdt : Heap.DictAt (mixKind P w) s.heap d kvs ep)
    (hl : kvs.length = ns.length) (hv : ∀ (i : Nat) (z : Int), ns[i]? = some z → ∃ k t, kvs[i]? = some (k, Value.int z t))
    (k : ∀ (h' : Heap) (t' : Nat), (∀ b o, s.heap.get? b = some o → h'.get? b = some o) → Q (decide (x ∈ ns)) { heap := h', gens := s.gens, drawn := s.drawn, toks := t', os := s.os }) :
    wpAny (model P w) A (contains (.ref v) (.int x tx)) Q E s := by
  have ht : s.TypeIs (.ref v) "dict_values" := by
    obtain ⟨o, h1, h2, h3⟩ := hvw
    exact ⟨o, h1, h2⟩
  refine wpAny_holding ?_
  show wpAny _ _ (specialOf (Value.ref v) ("__contains__" : Str) >>= _) _ _ _
  refine wpAny_bind (wpAny_specialOf ht look_in ?_)
  refine wpAny_ite_false (by rfl) ?_
  refine wpAny_bind (wpAny_bind (wpAny_specialOf ht look_in (wpAny_pure ?_)))
  refine wpAny_bind (wpAny_rule (wpAny_bind (wpAny_tryCatch (wpAny_pyIter_values hvw hdt ?_))))
  refine wpAny_bind (wpAny_runValue ?_)
  have hd : d < s.heap.objs.size := by
    obtain ⟨o, es, q, _⟩ := hdt
    exact Heap.lt_size q
  refine in_loop (it := s.heap.objs.size) (Nat.ne_of_lt hd) hl hv ns.length 0 _ _ _ rfl hA ⟨_, Heap.get?_push_at rfl rfl, rfl, rfl⟩ (hdt.push _) fun h' t' hk => ?_
  refine wpAny_pure ?_
  have k := k h' t' fun b o q => hk b o (Nat.ne_of_lt (Heap.lt_size q)) (Heap.get?_push_of_some _ q)
  rw [List.drop_zero]
  exact k
theorem pd_get {α β : Type} {F : α → β → Prop} {l : List α} {m : List β} (h : Paired F l m) : ∀ {i : Nat} {x : α}, l[i]? = some x → ∃ y, m[i]? = some y ∧ F x y := by
  induction h with
  | nil => intro i x e; cases i <;> cases e
  | cons a r ih =>
    intro i x e
    cases i with
    | zero => cases e; exact ⟨_, rfl, a⟩
    | succ i => exact ih e
def tInVals (neg : Bool) (ti td : TE) : TE := fun σ H Q => ti σ H fun y H1 => td σ H1 fun x H2 => ∃ (d : Addr) (kvs : List (Key × V)) (ns : List Int) (i : Int), x = .ref d ∧ y = .int i ∧ H2 d = some (.dK kvs) ∧ kvs.map (·.2) = ns.map V.int ∧ Q (.bl (if neg = true then !decide (i ∈ ns) else decide (i ∈ ns))) H2
section
variable {X : Cx}
theorem pc_notInVals {o i : Expr} {ti td : TE} {apos cpos : Pos} (hc : X.calm = true) (hi : PE X i ti) (ho : PE X o td) (hbase : attributeBase o ("values" : Str) X.env (eval o X.env) = eval o X.env := by rfl) (hline : (apos.endLine == cpos.line) = true := by rfl) :
    PC X .NotIn i (.Call (.Attribute o ("values" : Str) apos) [] [] cpos) (tInVals true ti td) := by
  refine ⟨fun pins s σ H Q I h => thn (hi.run pins s σ H _ I h) ?_⟩
  rintro iv s1 ⟨y, H1, I1, ry, q1⟩
  refine wpAny_Call_method hbase rfl hline F.plainAttrs_dict F.slot_dict_values F.type_dict_values (thn (ho.run pins s1 σ H1 _ I1 q1) ?_)
  rintro u s2 ⟨x, H2, I2, rx, d, kvs, ns, z, rfl, rfl, hd, hkv, q⟩
  cases rx
  obtain ⟨t, rfl⟩ := ry
  obtain ⟨od, L⟩ := I2.lock hd trivial
  obtain ⟨hs, hgd, hx, es, ep, vs, hdt, hsz, kv, hm⟩ := L.frzK upd_same
  have hl := kv.length
  refine ⟨Heap.DictOf.typeIs (Heap.DictAt.dictOf hm), Heap.MapOf.noDict (Heap.DictOf.mapOf (Heap.DictAt.dictOf hm)), ?_⟩
  have hkl : kvs.length = ns.length := by
    have e := congrArg List.length hkv
    rw [List.length_map, List.length_map] at e
    exact e
  have hv : ∀ (i : Nat) (z : Int), ns[i]? = some z → ∃ k t, vs[i]? = some (k, Value.int z t) := by
    intro i z hz
    have h1 : (kvs.map (·.2))[i]? = some (V.int z) := by
      rw [hkv, List.getElem?_map, hz]
      rfl
    rw [List.getElem?_map] at h1
    cases e : kvs[i]? with
    | none => rw [e] at h1; cases h1
    | some p =>
      rw [e] at h1
      obtain ⟨⟨k, u⟩, e1, e2, e3⟩ := pd_get kv e
      have e4 : p.2 = V.int z := Option.some.inj h1
      rw [e4] at e3
      obtain ⟨t, rfl⟩ := e3
      exact ⟨k, t, e1⟩
  refine method_meetsIn F.slot_dict_values F.entry_dict_values rfl (PySem.evalArgs_none ⟨rfl, Heap.DictOf.typeIs (Heap.DictAt.dictOf hm), F.args_dict_values_1 (Value.ref d), _, meets_dict_values (mixKind X.prog X.w) d hs, ⟨vs, Heap.DictAt.dictOf hm⟩, ?_⟩)
  show wpAny _ _ (contains (Value.ref s2.heap.objs.size) (Value.int z t) >>= _) _ _ _
  have I3 := I2.kept (t' := s2.toks) fun b ob q => Heap.get?_push_of_some { cls := Value.type "dict_values", data := Data.fields #[Value.ref d] } q
  refine wpAny_bind (contains_vals (ns := ns) (I2.ok.hd hc) ⟨_, Heap.get?_push_size s2.1 rfl, rfl, rfl⟩ (hm.push _) (hl.symm.trans hkl) hv fun h' t' hk => wpAny_pure ?_)
  exact ⟨.bl (!decide (z ∈ ns)), H2, I3.kept hk, (show L2.RelV (.bl (!decide (z ∈ ns))) (Value.bool (!decide (z ∈ ns))) from rfl), q⟩
end

/-! ### C.m(x, y, ..): a method read off its class and called with its object -/
def tClsFn (C : Addr) (sp : Sp) (E : XK) (ta : TE) (t : TA) : TE := fun σ H Q => ta σ H fun x H1 => x = .ref C ∧ t σ H1 fun vs H2 => sp vs H2 Q E
structure ClsF (K : PySem.W.Frag) (C : Addr) (m : Str) (f : Addr) : Prop where
  rd : ClX.CRead K C (.type "type")
  fc : PySem.W.findCls K (.ref C) (.type "type") m = some (.val (.ref f))
  kp : PySem.W.keepIn K (.ref f) = true
section
variable {X : Cx}
theorem pe_clsFn {CX : CXT} {k : Nat} {C f : Addr} {fd : FuncData} {ps : List Str} {sp : Sp} {E : XK} {o e : Expr} {es : List Expr} {m : Str} {pos apos : Pos} {ta : TE} {t : TA} {pl : Sem Bool}
    (he : PE X o ta) (c : ClsF X.K C m f) (G : FnOk X.prog X.w X.K X.mg X.base CX k f fd ps sp) (hr : Room k X.A) (hb : L2.Binds X.K fd ps []) (hx : Passes CX X E) (ha : PA X (e :: es) t)
    (hst : starEach (e :: es) X.env = (false, eval e X.env) :: starEach es X.env := by rfl) (hpl : (backTo pos (starEach es X.env)).any (·.1) = false := by rfl)
    (ht : eval (.Call (.Attribute o m apos) (e :: es) [] pos) X.env = (do
      let ov ← eval o X.env
      standAt apos.atName
      let __x ← holding [ov] (getMethod ov m pl)
      match __x with
        | (f, first) => callWith pos f first (backTo pos (starEach (e :: es) X.env)) (backToKw pos (keywordEach [] X.env))) := by rfl) :
    PE X (.Call (.Attribute o m apos) (e :: es) [] pos) (tClsFn C sp E ta t) := by
  refine ⟨fun pins s σ H Q I h => ?_⟩
  refine PySem.W.methodCall_KW (pl := pl) (thn (he.run pins s σ H (fun x H1 => x = .ref C ∧ t σ H1 fun vs H2 => sp vs H2 Q E) I h) ?_) ht
  rintro u s1 ⟨x, H1, I1, rx, rfl, q⟩
  cases rx
  refine PySem.W.method_cls I1.kIn c.rd.ga (PySem.W.cls_value I1.kIn c.rd.rd c.fc rfl ?_)
  refine PySem.W.callWith_K (Inv.kIn (Inv.tok I1 (s1.toks + 1))) c.kp (thn (ha.run pos pins _ σ H1 (fun vs H2 => sp vs H2 Q E) (Inv.tok I1 (s1.toks + 1)) q) ?_) hst hpl
  rintro us s2 ⟨vs, H2, I2, rv, q2⟩
  refine ⟨I2.kIn, run_fn G hr hb .nil hx I2 rv ?_⟩
  rw [List.append_nil]
  exact q2
end

/-! ### a method whose body is: return super().m(a, b, ..) -/
structure SupScope (ps : List Str) (sc : Scope) : Prop where
  kind : sc.kind = .function
  co : sc.isCoroutine = false
  gen : sc.isGenerator = false
  nocell : ∀ y ∈ sc.names, y.2 ≠ NameKind.cell
  par : ∀ x ∈ ps, sc.names.lookup x = some NameKind.local
  nd : ps.Nodup
  sup : (sc.names.lookup ("super" : Str)) = some NameKind.globalImplicit
  cls : (sc.names.lookup ("__class__" : Str)) = some NameKind.free
  fr : ∀ y ∈ sc.names, y.2 = NameKind.free → y.1 = ("__class__" : Str)
def supCx (CX : CXT) (P : Program) (w : World) (K : PySem.W.Frag) (mg : Str → Option Value) (base : Heap) (ps : List Str) (qual : Str) (sc : Scope) (f : Addr) (cd : Value) (cc : Addr) (A : Around) (outer : List Env) (s : Shared) (H : Hp) (E : XK) : Cx :=
  { prog := P, w := w, K := K, mg := mg, base := base, A := A.deeper (PySem.W.ksEnv qual sc s.heap.objs.size f cd cc), N := ps, s_0 := s, H_0 := H, env := PySem.W.ksEnv qual sc s.heap.objs.size f cd cc, outer := outer,
    stack := PySem.W.ksEnv qual sc s.heap.objs.size f cd cc :: outer, ex := [], fn := fun _ => false, calm := true, pn := [],
    xe := fun e s' => wpAny (model P w) (A.deeper (PySem.W.ksEnv qual sc s.heap.objs.size f cd cc)) (leaving (PySem.W.ksEnv qual sc s.heap.objs.size f cd cc) e) (fun _ s'' => CX outer H s E e s'') (fun e' s'' => CX outer H s E e' s'') s' }
theorem supCell {qual : Str} {sc : Scope} {L f : Addr} {cd : Value} {cc : Addr} {x : Str} {c : Addr} (h : List.lookup x (PySem.W.ksEnv qual sc L f cd cc).cells = some c) : x = "__class__" ∧ c = cc := by
  have h' : List.lookup x [(("__class__" : Str), cc)] = some c := h
  rw [List.lookup_cons] at h'
  by_cases e : x = ("__class__" : Str)
  · subst e
    simp at h'
    exact ⟨rfl, h'.symm⟩
  · rw [show (x == ("__class__" : Str)) = false from beq_false_of_ne e] at h'
    cases h'
theorem lk_mem : ∀ {l : List (Str × Value)} {x : Str} {u : Value}, (l.map (·.1)).Nodup → (x, u) ∈ l → List.lookup x l = some u
  | [], _, _, _, h => by cases h
  | (y, z) :: r, x, u, nd, h => by
    rw [List.lookup_cons]
    rw [List.map_cons, List.nodup_cons] at nd
    rcases List.mem_cons.mp h with e | e
    · cases e
      simp
    · have ne : x ≠ y := fun q => by
        subst q
        exact nd.1 (List.mem_map.mpr ⟨_, e, rfl⟩)
      rw [show (x == y) = false from beq_false_of_ne ne]
      exact lk_mem nd.2 e
theorem lk_zip {ps : List Str} {us : List Value} {i : Nat} {x : Str} {u : Value} (nd : ps.Nodup) (hl : us.length = ps.length) (h1 : ps[i]? = some x) (h2 : us[i]? = some u) : List.lookup x (ps.zip us).reverse = some u := by
  refine lk_mem ?_ ?_
  · rw [List.map_reverse, List.map_fst_zip (Nat.le_of_eq hl.symm)]
    exact List.pairwise_reverse.mpr (nd.imp fun h => Ne.symm h)
  · rw [List.mem_reverse]
    refine List.mem_of_getElem? (i := i) ?_
    rw [List.getElem?_zip_eq_some]
    exact ⟨h1, h2⟩
theorem sup_inv {CX : CXT} {P : Program} {w : World} {K : PySem.W.Frag} {mg : Str → Option Value} {base : Heap} {ps : List Str} {qual : Str} {sc : Scope} {f : Addr} {cd : Value} {cc : Addr} {A : Around} {outer : List Env} {s : Shared} {H : Hp} {E : XK} {us : List Value} {vs : List V} {h' : Heap} {oc : Obj} {vc : Value}
    (S : SupScope ps sc) (hd : A.handled = none) (e0 : Env0 P w K mg base A outer s H) (hl : vs.length = ps.length) (r : Vals vs us) (hcc : base.get? cc = some oc) (hcd : oc.data = .cell (some vc))
    (hns : h'.Ns s.heap.objs.size fun x => List.lookup x (ps.zip us).reverse) (keep : ∀ (b : Addr) (o : Obj), s.heap.get? b = some o → h'.get? b = some o) (tk : Nat) :
    L2.Inv (supCx CX P w K mg base ps qual sc f cd cc A outer s H E) [] (vs.map some) H { heap := h', gens := s.gens, drawn := s.drawn, toks := tk, os := s.os } := by
  have noA : ∀ (b : Addr), ¬ b ∈ ([] : List Addr) := fun b h => by cases h
  refine { ok := ?ok, os := rfl, bare := e0.bare, base := Un.kept keep, loc := ?loc, cell := ?cell, free := HOk.fresh e0.hok (Nat.le_refl _), freeC := ?freeC, pin := fun p hp => (by cases hp), hok := HOk.kept e0.hok keep, len := ?len }
  case ok =>
    exact { mod := e0.mod, kind := S.kind, glob := rfl, blt := rfl, above := Nat.le_refl _, inj := fun y z c h1 h2 => (supCell h1).1.trans (supCell h2).1.symm, has := fun y hy => by
              rcases hy with hy | hy
              · exact absurd rfl (S.nocell (y, NameKind.cell) (PySem.mem_of_lookup hy))
              · have : y = ("__class__" : Str) := S.fr (y, NameKind.free) (PySem.mem_of_lookup hy) rfl
                subst this
                exact ⟨cc, rfl⟩,
            cab := fun y c z h => (by cases z), hd := fun _ => hd, frames := Around.frames_deeper e0.frames, stk := .inr ⟨rfl, rfl⟩, exf := fun b z => absurd z (noA b), bs := e0.bs, bsz := e0.bsz, noex := fun b _ _ => noA b, exfs := fun b z => absurd z (noA b), funs := e0.funs, frf := e0.frf }
  case loc =>
    refine ⟨_, hns, fun i x v h1 h2 h3 => ?_⟩
    rw [List.getElem?_map] at h2
    cases e : vs[i]? with
    | none => rw [e] at h2; cases h2
    | some y =>
      rw [e] at h2
      cases h2
      obtain ⟨u, hu, rv⟩ := r.get e
      exact ⟨u, rv, .inl ⟨S.par x (List.mem_of_getElem? h1), lk_zip S.nd (r.length.symm.trans hl) h1 hu⟩⟩
  case cell =>
    intro y c h
    obtain ⟨rfl, rfl⟩ := supCell h
    exact ⟨some vc, oc, keep _ _ (e0.bs _ _ hcc).1, hcd⟩
  case freeC =>
    intro y c h
    obtain ⟨rfl, rfl⟩ := supCell h
    exact (e0.bs _ _ hcc).2
  case len => exact (List.length_map ..).trans hl
/-- what the top knows of the class R above whose method m the method g stands -/
structure SupM (K : PySem.W.Frag) (R : Addr) (m : Str) (g : Addr) : Prop where
  cd : ∃ cd : ClassData, PySem.W.clsIn K R = some cd ∧ PySem.W.alongIn K m (List.drop 1 (List.dropWhile (fun x => x != Value.ref R) cd.mro)) = some (some (.ref g))
  sub : PySem.W.subIn K (.ref R) (.ref R) = some true
  any : PySem.W.nsIn K cStatics ("thirdparty.any" : Str) = some none
  hd : PySem.W.hasDictIn K R = true
  fi : PySem.W.fnIn K g = true
  fty : ∃ od dt sl, K.lookup g = some ⟨.type "function", od, dt, sl⟩
theorem callW {M : Model} {A : Around} {E : Value → Shared → Prop} {s : Shared} {pos : Pos} {f : Value} {first : List Value} {Q : Value → Shared → Prop} {P : Heap → Prop} {as : List (Bool × Sem Value)}
    (hk : ∀ h : Heap, P h → ∃ k, (k = Keeper.frame ∨ k = Keeper.machine ∨ k = Keeper.boundFrame) ∧ PySem.W.Looks M h (keeperOf f) k)
    (h : (as = [] ∧ P s.heap ∧ wpAny M A (call f (first ++ [])) Q E s) ∨ ∃ x r, as = (false, x) :: r ∧ (r.any (·.1)) = false ∧ wpAny M A (spliced as) (fun vs s1 => P s1.heap ∧ wpAny M A (call f (first ++ vs)) Q E s1) E s) : wpAny M A (callWith pos f first as []) Q E s := by
  rcases h with ⟨rfl, hp, h⟩ | ⟨x, r, rfl, hr, h⟩
  · exact PySem.W.callWith_of rfl hk (evalArgs_nil3 ⟨hp, h⟩)
  · refine PySem.W.callWith_of (by simp [hr]) hk (Calls.evalArgs_plain h)
theorem super_ok {CX : CXT} {P : Program} {w : World} {K : PySem.W.Frag} {mg : Str → Option Value} {base : Heap} {k : Nat} {f R g cc c : Addr} {name qual m : Str} {params : Arguments} {scope : Scope} {dV kV doc pm ct oc och ocf : Value} {an od odh odf : Option Addr} {osl oslh oslf : Array (Option Value)} {fd : FuncData} {ps : List Str} {sp : Sp} {t : TA}
    {p0 p1 apos pos rpos : Pos} {es : List Expr} {ar : Arg} {vsf : Array Value} {file : Str} {tf : Tok}
    (lk : K.lookup f = some ⟨oc, od, .func (PySem.W.ksFn name qual params [.Return (some (.Call (.Attribute (.Call (.Name "super" p0) [] [] p1) m apos) es [] pos)) rpos] scope dV kV doc pm an (.ref c) ct cc), osl⟩)
    (hcd : PySem.W.codeIn K (.ref c) qual = true) (lc : K.lookup cc = some ⟨och, odh, .cell (some (.ref R)), oslh⟩) (lf : K.lookup c = some ⟨ocf, odf, .fields vsf, oslf⟩) (hvf : vsf[2]? = some (.str file tf)) (hfile : (P.main.file == file) = true) (hns : (List.lookup ("super" : Str) P.main.scope.names).isSome = false) (hmg : mg "super" = none)
    (S : SupScope ps scope) (hpar : (params.posonlyargs ++ params.args).head? = some ar) (hself : ps[0]? = some ar.arg) (M : SupM K R m g) (hm : (m == ("__class__" : Str)) = false) (G : FnOk P w K mg base CX k g fd ps sp) (bG : Binds K fd ps [])
    (hsp : ∀ (vs : List V) (H : Hp) (Q : VK) (E : XK), sp vs H Q E → ∃ p dx fs rest, vs = .ref p :: rest ∧ H p = some (.ins R dx fs))
    (harg : ∀ A outer s H E, PA (supCx CX P w K mg base ps qual scope f (.ref c) cc A outer s H E) es t) (ht : ∀ (vs : List V) (H : Hp) (Q : List V → Hp → Prop), vs.length = ps.length → Q vs.tail H → t (vs.map some) H Q)
    (hes : ∀ env, (es = [] ∧ ps.length = 1) ∨ ∃ x r, backTo pos (starEach es env) = (false, x) :: r ∧ (r.any (·.1)) = false)
    (hx : ∀ A outer s H E, Env0 P w K mg base A outer s H → Passes CX (supCx CX P w K mg base ps qual scope f (.ref c) cc A outer s H E) E)
    (hev : ∀ env : Env, ∃ pl : Sem Bool, eval (.Call (.Attribute (.Call (.Name "super" p0) [] [] p1) m apos) es [] pos) env = do
          let ov ← attributeBase (.Call (.Name "super" p0) [] [] p1) m env (eval (.Call (.Name "super" p0) [] [] p1) env)
          standAt apos.atName
          let __x ← holding [ov] (getMethod ov m pl)
          match __x with
            | (f, first) => callWith pos f first (backTo pos (starEach es env)) []) :
    FnOk P w K mg base CX (k + 1) f (PySem.W.ksFn name qual params [.Return (some (.Call (.Attribute (.Call (.Name "super" p0) [] [] p1) m apos) es [] pos)) rpos] scope dV kV doc pm an (.ref c) ct cc) ps sp := by
  refine ⟨G.len, fun A outer s H args us vs Q E hr e0 hb r hsp' => ?_⟩
  have hl := G.len vs H Q E hsp'
  have KX : K.In s.heap := e0.mod.kin.keeps fun b o e => (e0.bs b o e).1
  have lim := e0.mod.nolimit.keeps fun b o e => (e0.bs b o e).1
  have hul : us.length = ps.length := r.length.symm.trans hl
  refine ks_codeAny_call_defAt hr.depth (KX f _ lk) rfl lim (PySem.W.codeRec_of KX hcd) rfl hb S.nocell (fun y hy => S.par y.1 (List.of_mem_zip hy).1) (fun h1 hn1 hk1 => ?_) S.co S.gen S.kind
  obtain ⟨p, dx, fs, rest, rfl, hp⟩ := hsp _ _ _ _ hsp'
  have I : L2.Inv (supCx CX P w K mg base ps qual scope f (.ref c) cc A outer s H E) [] ((V.ref p :: rest).map some) H { heap := h1, gens := s.gens, drawn := s.drawn, toks := s.toks + (ps.zip us).length, os := s.os } :=
    sup_inv S hr.hd e0 hl r (e0.mod.kin cc _ lc) rfl hn1 hk1 _
  have KI : K.In h1 := I.kIn
  obtain ⟨cd, hcl, hal⟩ := M.cd
  obtain ⟨pl, hpl⟩ := hev (PySem.W.ksEnv qual scope s.heap.objs.size f (.ref c) cc)
  refine ks_wpAt_execs_cons (ks_wpAt_Return_some (ks_wpAt_MethodCall (pl := pl) ?_ hpl))
  refine ks_wpAt_super_base S.sup S.cls hm rfl (KI f _ lk) rfl hpar rfl (KI c _ lf) rfl hvf hfile hns ?_
  obtain ⟨mb, hb1, hb2⟩ := e0.mod.blt
  have bk := I.bk
  refine PySem.W.ks_loadName_global S.kind S.sup (Calls.loadGlobal_builtin (Heap.Ns.keeps e0.mod.glob bk) hmg (Heap.Ns.keeps hb1 bk) ((hb2 _ (by decide)).trans rfl) ⟨rfl, ?_⟩)
  refine wpAny_loadName_free S.kind S.cls (by rfl) ⟨_, KI cc _ lc, rfl⟩ ?_
  obtain ⟨us0, u0, rfl⟩ : ∃ us0 u0, us = u0 :: us0 := by
    cases r with
    | cons a b => exact ⟨_, _, rfl⟩
  have hu0 : u0 = .ref p := by
    cases r with
    | cons a b => exact a
  subst hu0
  refine wpAny_loadName_local S.kind (S.par _ (List.mem_of_getElem? hself)) hn1 (lk_zip S.nd hul hself rfl) ?_
  refine PySem.W.mc_isType KI M.hd _ _ _ _ (fun b o e => e) ⟨rfl, ?_⟩
  obtain ⟨mA, ⟨ho, _, _⟩, _⟩ := ins_get I.hok hp
  have hR : ∃ o, K.lookup R = some o ∧ o.data = .cls cd := by
    unfold PySem.W.clsIn at hcl
    split at hcl
    · rename_i cls dict cd' slots e
      cases hcl
      exact ⟨_, e, rfl⟩
    · cases hcl
  obtain ⟨oR, hR1, hR2⟩ := hR
  have pR : p ≠ R := fun e => by
    subst e
    have := (e0.bs _ _ (e0.mod.kin _ _ hR1)).2
    rw [hp] at this
    cases this
  refine ks_wpAny_call_super (KI R _ hR1) hR2 ho rfl (fun c z => by cases z) (PySem.W.looks_subIn KI M.sub) (fun h2 hso hk2 => ?_)
  have I2 := I.kept (t' := s.toks + (ps.zip (Value.ref p :: us0)).length) hk2
  have K2 : K.In h2 := I2.kIn
  obtain ⟨og, dg, sg, hg⟩ := M.fty
  have lm : PySem.W.Looks (model P w) h2 (mroOf (.ref R)) cd.mro := (PySem.W.looks_clsIn K2 hcl).andThen (by intro A Q E s _ q; exact wpAny_pure q)
  refine ks_wpAny_getMethod_super hso (PySem.W.looks_opaque K2 M.any) lm rfl K2 hal (K2 _ _ hg) rfl pR hm ?_
  have hpush := fun (b : Addr) (o : Obj) (e : h2.get? b = some o) => Heap.get?_push_of_some (PySem.W.methodObj (.ref g) (.ref p)) e
  have I3 := I2.kept (t' := s.toks + (ps.zip (Value.ref p :: us0)).length + 1) hpush
  have hu : (h2.push (PySem.W.methodObj (.ref g) (.ref p))).get? h2.objs.size = some (PySem.W.methodObj (.ref g) (.ref p)) := Heap.get?_push_at rfl rfl
  have I4 := I3.pins_of (pins' := [(h2.objs.size, PySem.W.methodObj (.ref g) (.ref p))]) (fun q hq => by
    rw [List.mem_singleton.mp hq]
    exact ⟨hu, I2.fresh, Nat.ne_of_gt I2.lt, I2.nofs (Nat.le_refl _), fun v z => by cases z⟩)
  have fin : ∀ (pins : List (Addr × Obj)) (s5 : Shared) (us' : List Value), L2.Inv (supCx CX P w K mg base ps qual scope f (.ref c) cc A outer s H E) pins ((V.ref p :: rest).map some) H s5 → Vals rest us' → s5.heap.get? h2.objs.size = some (PySem.W.methodObj (.ref g) (.ref p)) →
      wpAny (model P w) (A.deeper (PySem.W.ksEnv qual scope s.heap.objs.size f (.ref c) cc)) (call (.ref h2.objs.size) ([] ++ us')) (fun v s' => CE outer P w H s Q v s') (supCx CX P w K mg base ps qual scope f (.ref c) cc A outer s H E).xe s5 := by
    intro pins s5 us' I5 r5 hu5
    have rr : Vals (V.ref p :: rest) (Value.ref p :: us') := .cons rfl r5
    have hlen : ((Value.ref p :: us') ++ []).length = ps.length := by
      rw [List.append_nil]
      exact rr.length.symm.trans hl
    have hb5 := bG s5 (Value.ref p :: us') I5.kIn hlen
    rw [List.append_nil] at hb5
    refine wpAny_call (ks_codeAny_call_bound hu5 (codeAny_mono (G.run _ _ s5 H { pos := Value.ref p :: us' } (Value.ref p :: us') (V.ref p :: rest) Q E (hr.deeper _) I5.env0 hb5 rr hsp') (fun rs s' hq => ?_)))
    cases rs with
    | error e => exact hx A outer s H E e0 pins _ H s5 e s' I5 hq
    | ok fl =>
      cases fl with
      | ret u =>
        obtain ⟨v, H', J, rv, q⟩ := I5.after hq
        exact ⟨v, H', J.os, J.bare, J.base, J.hok, rv, q⟩
      | _ => exact hq
  refine callW (P := PySem.W.MethP K h2.objs.size g (.ref p)) (PySem.W.keeps_M M.fi) ?_
  rcases hes (PySem.W.ksEnv qual scope s.heap.objs.size f (.ref c) cc) with ⟨rfl, h1⟩ | ⟨x, r', he, hpln⟩
  · refine .inl ⟨rfl, ⟨hu, I4.kIn⟩, ?_⟩
    have : rest = [] := by
      cases rest with
      | nil => rfl
      | cons _ _ => simp [h1] at hl
    subst this
    exact fin _ _ [] I4 .nil hu
  · refine .inr ⟨x, r', he, hpln, ?_⟩
    refine wpAny_mono ((harg A outer s H E).run pos _ _ _ H (fun vs' H' => vs' = rest ∧ H' = H) I4 (ht _ H _ hl ⟨rfl, rfl⟩)) ?_ (fun _ _ h => h)
    rintro us' s5 ⟨vs', H', I5, r5, rfl, rfl⟩
    have hu5 := (I5.pin _ (List.mem_append_right _ (List.mem_singleton.mpr rfl))).1
    exact ⟨⟨hu5, I5.kIn⟩, fin _ _ us' I5 r5 hu5⟩
/-- such a method as the top has written it -/
structure SupDef (P : Program) (K : PySem.W.Frag) (mg : Str → Option Value) (R f g : Addr) (m qual : Str) (st : Stmt) : Prop where
  ex : ∃ (oc kV doc pm ct och ocf : Value) (an od odh odf : Option Addr) (osl oslh oslf : Array (Option Value)) (c cc : Addr) (vsf : Array Value) (file : Str) (tf : Tok),
    K.lookup f = some ⟨oc, od, .func (PySem.W.ksFn m qual (defArgs st) (defBody st) (defScope st) .none kV doc pm an (.ref c) ct cc), osl⟩ ∧ PySem.W.codeIn K (.ref c) qual = true ∧ K.lookup cc = some ⟨och, odh, .cell (some (.ref R)), oslh⟩ ∧
    K.lookup c = some ⟨ocf, odf, .fields vsf, oslf⟩ ∧ vsf[2]? = some (.str file tf) ∧ (P.main.file == file) = true
  ns : (List.lookup ("super" : Str) P.main.scope.names).isSome = false
  mgs : mg "super" = none
  M : SupM K R m g
theorem supM_of {K : PySem.W.Frag} {R C0 : Addr} {m : Str} {g : Addr} {od odR odQ : Option Addr} {dt : Data} {sl slR slQ : Array (Option Value)} {ocR ocQ : Value} {cdR cdQ : ClassData} {r : List Value} (h1 : K.lookup R = some ⟨ocR, odR, .cls cdR, slR⟩) (h2 : K.lookup C0 = some ⟨ocQ, odQ, .cls cdQ, slQ⟩) (h3 : cdR.mro = .ref R :: r) (h4 : cdQ.mro = r)
    (h : PySem.W.findIn K (.ref C0) m = some (some (.ref g))) (sub : PySem.W.subIn K (.ref R) (.ref R) = some true) (any : PySem.W.nsIn K cStatics ("thirdparty.any" : Str) = some none)
    (hd : PySem.W.hasDictIn K R = true) (fi : PySem.W.fnIn K g = true) (lg : K.lookup g = some ⟨.type "function", od, dt, sl⟩) : SupM K R m g := by
  refine ⟨⟨cdR, ?_, ?_⟩, sub, any, hd, fi, ⟨_, _, _, lg⟩⟩
  · unfold PySem.W.clsIn
    rw [h1]
  · have e : PySem.W.findIn K (.ref C0) m = PySem.W.alongIn K m cdQ.mro := by
      show (match List.lookup C0 K with
        | some { cls := cls, dict := dict, data := Data.cls cd, slots := slots } => PySem.W.alongIn K m cd.mro
        | x => none) = _
      rw [h2]
    rw [h4, h] at e
    rw [h3, List.dropWhile_cons, bne_self_eq_false, if_neg Bool.false_ne_true]
    exact e.symm
theorem super_cb {CX : CXT} {P : Program} {w : World} {K : PySem.W.Frag} {mg : Str → Option Value} {base : Heap} {k : Nat} {f R g : Addr} {m qual : Str} {st : Stmt} {ps : List Str} {sp : Sp} {t : TA} {p0 p1 apos pos rpos : Pos} {es : List Expr} {ar : Arg}
    (D : SupDef P K mg R f g m qual st) (S : SupScope ps (defScope st)) (hbody : defBody st = [.Return (some (.Call (.Attribute (.Call (.Name "super" p0) [] [] p1) m apos) es [] pos)) rpos]) (hpar : ((defArgs st).posonlyargs ++ (defArgs st).args).head? = some ar) (hself : ps[0]? = some ar.arg)
    (hm : (m == ("__class__" : Str)) = false) (G : ∃ fd, FnOk P w K mg base CX k g fd ps sp ∧ Binds K fd ps []) (hsp : ∀ (vs : List V) (H : Hp) (Q : VK) (E : XK), sp vs H Q E → ∃ p dx fs rest, vs = .ref p :: rest ∧ H p = some (.ins R dx fs))
    (harg : ∀ A outer s H E cd cc, PA (supCx CX P w K mg base ps qual (defScope st) f cd cc A outer s H E) es t) (ht : ∀ (vs : List V) (H : Hp) (Q : List V → Hp → Prop), vs.length = ps.length → Q vs.tail H → t (vs.map some) H Q)
    (hes : ∀ env, (es = [] ∧ ps.length = 1) ∨ ∃ x r, backTo pos (starEach es env) = (false, x) :: r ∧ (r.any (·.1)) = false) (hx : ∀ A outer s H E cd cc, Env0 P w K mg base A outer s H → Passes CX (supCx CX P w K mg base ps qual (defScope st) f cd cc A outer s H E) E)
    (hev : ∀ env : Env, ∃ pl : Sem Bool, eval (.Call (.Attribute (.Call (.Name "super" p0) [] [] p1) m apos) es [] pos) env = do
          let ov ← attributeBase (.Call (.Name "super" p0) [] [] p1) m env (eval (.Call (.Name "super" p0) [] [] p1) env)
          standAt apos.atName
          let __x ← holding [ov] (getMethod ov m pl)
          match __x with
            | (f, first) => callWith pos f first (backTo pos (starEach es env)) [])
    (hbnd : ∀ (kV doc pm : Value) (an : Option Addr) (cdv ct : Value) (cc : Addr) (us : List Value), us.length = ps.length → bindArgs (PySem.W.ksFn m qual (defArgs st) (defBody st) (defScope st) .none kV doc pm an cdv ct cc) ⟨us, []⟩ = pure (ps.zip us)) :
    ∃ fd, FnOk P w K mg base CX (k + 1) f fd ps sp ∧ Binds K fd ps [] := by
  obtain ⟨⟨oc, kV, doc, pm, ct, och, ocf, an, od, odh, odf, osl, oslh, oslf, c, cc, vsf, file, tf, lk, hcd, lc, lf, hvf, hfile⟩, hns, hmg, M⟩ := D
  obtain ⟨fd, F, bG⟩ := G
  refine ⟨_, super_ok (t := t) (ar := ar) (hbody ▸ lk) hcd lc lf hvf hfile hns hmg S hpar hself M hm F bG hsp (fun A outer s H E => harg A outer s H E _ _) ht hes (fun A outer s H E e0 => hx A outer s H E _ _ e0) hev, ?_⟩
  intro s us hK hl
  rw [List.append_nil] at hl ⊢
  have e := hbnd kV doc pm an (.ref c) ct cc us hl
  rw [hbody] at e
  exact .of_eq e

/-! ### a quay that is kept -/
def rLenStr : List V → Hp → VK → Prop := fun xs H Q => ∃ z : Str, xs = [.str z] ∧ z.length ≤ sizeLine ∧ Q (.int z.length) H
def rLeStr : R2 := fun x y H Q => ∃ i j : Str, x = .str i ∧ y = .str j ∧ Q (.bl (!decide (j.cps.toList < i.cps.toList))) H
def tJoin (K : PySem.W.Frag) (to te : TE) : TE := tM1 (fun x xs H Q => ∃ a p, ∃ ys : List Str, x = .str a ∧ xs = [.ref p] ∧ (SqL K H p (ys.map V.str) ∨ SqT K H p (ys.map V.str)) ∧ (ys.map (·.length)).sum + ys.length * a.length ≤ 16777216 ∧ Q (.str (Txt.join a ys)) H) to te
/-- name, wish, berth -/
abbrev Ship := Str × Int × Int
def ffq (b : Bool) (n : Nat) (occ : Int → Bool) (w : Int) : Option Int := if b = true then rfree n occ w else ffree n occ w
def occS (ss : List Ship) : Int → Bool := fun x => ss.any fun s => decide (s.2.2 = x)
theorem occS_snoc {ss : List Ship} {s : Ship} : occS (ss ++ [s]) = setO (occS ss) s.2.2 := by
  funext x
  unfold occS setO
  rw [List.any_append, Bool.or_comm]
  simp [eq_comm]
theorem occS_nil : occS [] = fun _ => false := rfl
def KvAt (K : PySem.W.Frag) (H : Hp) : List (Key × V) → List Ship → Prop := Paired fun kv s => kv.1 = .inr s.1 ∧ ∃ t, kv.2 = .ref t ∧ SqT K H t [.int s.2.1, .int s.2.2]
def TrAt (K : PySem.W.Frag) (H : Hp) : List V → List Ship → Prop := Paired fun v s => ∃ t, v = .ref t ∧ SqT K H t [.str s.1, .int s.2.1, .int s.2.2]
theorem pd_imp {α β : Type} {F G : α → β → Prop} {l : List α} {m : List β} (h : Paired F l m) (k : ∀ a b, F a b → G a b) : Paired G l m := by
  induction h with
  | nil => exact .nil
  | cons a _ ih => exact .cons (k _ _ a) ih
theorem pd_len {α β : Type} {F : α → β → Prop} {l : List α} {m : List β} (h : Paired F l m) : l.length = m.length := by
  induction h with
  | nil => rfl
  | cons _ _ ih => rw [List.length_cons, List.length_cons, ih]
theorem pd_snoc {α β : Type} {F : α → β → Prop} {l : List α} {m : List β} (h : Paired F l m) {a : α} {b : β} (k : F a b) : Paired F (l ++ [a]) (m ++ [b]) := by
  induction h with
  | nil => exact .cons k .nil
  | cons x _ ih => exact .cons x ih
theorem KvAt.same {K : PySem.W.Frag} {H H' : Hp} {kvs : List (Key × V)} {ss : List Ship} (h : KvAt K H kvs ss) (s : Same H H') : KvAt K H' kvs ss := pd_imp h fun _ _ ⟨e, t, q, r⟩ => ⟨e, t, q, s.seqT r⟩
theorem TrAt.same {K : PySem.W.Frag} {H H' : Hp} {vs : List V} {ss : List Ship} (h : TrAt K H vs ss) (s : Same H H') : TrAt K H' vs ss := pd_imp h fun _ _ ⟨t, q, r⟩ => ⟨t, q, s.seqT r⟩
/-- no tuple stands at d -/
def NT (H : Hp) (d : Addr) : Prop := (∀ xs, H d ≠ some (.tup xs)) ∧ ∀ o xs, H d ≠ some (.frz o (.tup xs))
theorem nt_dK {H : Hp} {d : Addr} {kvs : List (Key × V)} (h : H d = some (.dK kvs)) : NT H d := ⟨fun _ e => (by rw [h] at e; cases e), fun _ _ e => (by rw [h] at e; cases e)⟩
theorem nt_fz {H : Hp} {d : Addr} {o : Obj} {kvs : List (Key × V)} (h : H d = some (.frz o (.dK kvs))) : NT H d := ⟨fun _ e => (by rw [h] at e; cases e), fun _ _ e => (by rw [h] at e; cases e)⟩
theorem nt_lst {H : Hp} {d : Addr} {xs : List V} (h : H d = some (.lst xs)) : NT H d := ⟨fun _ e => (by rw [h] at e; cases e), fun _ _ e => (by rw [h] at e; cases e)⟩
theorem nt_none {H : Hp} {d : Addr} (h : H d = none) : NT H d := ⟨fun _ e => (by rw [h] at e; cases e), fun _ _ e => (by rw [h] at e; cases e)⟩
/-- tuples stay where only the object at d, no tuple, changes -/
theorem seqT_nt {K : PySem.W.Frag} {H H' : Hp} {t d : Addr} {xs : List V} (hd : NT H d) (k : ∀ c o, H c = some o → c ≠ d → H' c = some o) (h : SqT K H t xs) : SqT K H' t xs := by
  rcases h with (h | ⟨o, h⟩) | h
  · exact .inl (.inl (k _ _ h fun q => hd.1 xs (q ▸ h)))
  · exact .inl (.inr ⟨o, k _ _ h fun q => hd.2 o xs (q ▸ h)⟩)
  · exact .inr h
theorem seqT_but {K : PySem.W.Frag} {H H' : Hp} {t d : Addr} {xs : List V} {kvs : List (Key × V)} (hd : H d = some (.dK kvs)) (k : ∀ c o, H c = some o → c ≠ d → H' c = some o) (h : SqT K H t xs) : SqT K H' t xs := seqT_nt (nt_dK hd) k h
theorem KvAt.nt {K : PySem.W.Frag} {H H' : Hp} {d : Addr} {kvs : List (Key × V)} {ss : List Ship} (hd : NT H d) (k : ∀ c o, H c = some o → c ≠ d → H' c = some o) (h : KvAt K H kvs ss) : KvAt K H' kvs ss := pd_imp h fun _ _ ⟨e, t, q, r⟩ => ⟨e, t, q, seqT_nt hd k r⟩
theorem TrAt.nt {K : PySem.W.Frag} {H H' : Hp} {d : Addr} {vs : List V} {ss : List Ship} (hd : NT H d) (k : ∀ c o, H c = some o → c ≠ d → H' c = some o) (h : TrAt K H vs ss) : TrAt K H' vs ss := pd_imp h fun _ _ ⟨t, q, r⟩ => ⟨t, q, seqT_nt hd k r⟩
def flds (n : Nat) (d : Addr) : List (Str × V) := [("_berths", .int n), ("_ships", .ref d)]
theorem flds_b {n : Nat} {d : Addr} : (flds n d).lookup ("_berths" : Str) = some (.int n) := by rfl
theorem flds_s {n : Nat} {d : Addr} : (flds n d).lookup ("_ships" : Str) = some (.ref d) := by rfl
structure ClsT (K : PySem.W.Frag) (a : Ad) (b : Bool) : Prop where
  cl : Cls K (a.cls b)
  nB : NoAttr K (a.cls b) "_berths"
  nS : NoAttr K (a.cls b) "_ships"
/-- a quay of the class C stands at p, its ships at d -/
structure QuayAt (K : PySem.W.Frag) (C : Addr) (H : Hp) (p d : Addr) (n : Nat) (ss : List Ship) : Prop where
  ob : ∃ dx, H p = some (.ins C dx (flds n d))
  dc : ∃ kvs, H d = some (.dK kvs) ∧ KvAt K H kvs ss
  nd : (ss.map (·.1)).Nodup
  rg : ∀ s ∈ ss, 1 ≤ s.2.1 ∧ s.2.1 ≤ n ∧ 1 ≤ s.2.2 ∧ s.2.2 ≤ n
  n1 : 1 ≤ n ∧ n ≤ 400
  ln : ss.length ≤ 500
theorem QuayAt.same {K : PySem.W.Frag} {C : Addr} {H H' : Hp} {p d : Addr} {n : Nat} {ss : List Ship} (h : QuayAt K C H p d n ss) (s : Same H H') : QuayAt K C H' p d n ss := by
  obtain ⟨⟨dx, h1⟩, ⟨kvs, h2, h3⟩, h4, h5, h6, h7⟩ := h
  exact ⟨⟨dx, s _ _ h1⟩, ⟨kvs, s _ _ h2, h3.same s⟩, h4, h5, h6, h7⟩
theorem QuayAt.ne {K : PySem.W.Frag} {C : Addr} {H : Hp} {p d : Addr} {n : Nat} {ss : List Ship} (h : QuayAt K C H p d n ss) : p ≠ d := by
  obtain ⟨⟨dx, h1⟩, ⟨kvs, h2, h3⟩, _⟩ := h
  exact ne_of h1 h2 (by intro z; cases z)
/-! names -/
def isNm (t : Str) : Bool := decide (1 ≤ t.length) && decide (t.length ≤ 8) && t.cps.toList.all fun c => decide (97 ≤ c) && decide (c ≤ 122)
def nameV : V → Bool
  | .str t => isNm t
  | _ => false
def isStr : V → Bool
  | .str _ => true
  | _ => false
theorem tyb_str {K : PySem.W.Frag} {H : Hp} {x : V} {T : String} (h : TyB K H x T) : decide (T = "str") = isStr x := by
  cases h <;> first | rfl | decide
theorem le_one {x y : Nat} : (!decide (([y] : List Nat) < [x])) = decide (x ≤ y) := by
  by_cases h : x ≤ y
  · rw [decide_eq_true h]
    have : ¬ ([y] : List Nat) < [x] := fun z => by
      cases z with
      | rel q => omega
      | cons q => cases q
    rw [decide_eq_false this]
    rfl
  · rw [decide_eq_false h]
    have : ([y] : List Nat) < [x] := .rel (by omega)
    rw [decide_eq_true this]
    rfl
def sp_is_name (K : PySem.W.Frag) (a : Ad) : Sp := fun vs H Q _ => ∃ x T, vs = [x] ∧ TyB K H x T ∧ (∀ t, x = .str t → t.length ≤ sizeLine) ∧ Q (.bl (nameV x)) H
abbrev N_is_name : List Str := ["thing", "sign"]
def t_is_name (K : PySem.W.Frag) (a : Ad) : TS :=
  (tSeq (tIfS (tOr (tTest (tOp rNT (tCB (rTyp K) (tCons (tVar 0) tNil)) (tC (.ty "str")))) (tNot (tTest (tChain rLeI rLeI (tC (.int 1)) (tCB rLenStr (tCons (tVar 0) tNil)) (tC (.int 8)))))) (tRet (tC (.bl false))) tNext)
    (tSeq (tFor (iStr (tVar 0)) (gName 1)
    (tIfS (tNot (tTest (tChain rLeStr rLeStr (tC (.str (Str.ofString "a"))) (tVar 1) (tC (.str (Str.ofString "z")))))) (tRet (tC (.bl false))) tNext))
    (tRet (tC (.bl true)))))
theorem len_is_name {K : PySem.W.Frag} {a : Ad} {vs : List V} {H : Hp} {Q : VK} {E : XK} (h : sp_is_name K a vs H Q E) : vs.length = 1 := by
  obtain ⟨x, T, rfl, _⟩ := h
  rfl
theorem pu_is_name {K : PySem.W.Frag} {a : Ad} {vs : List V} {H : Hp} {Q : VK} {E : XK} (h : sp_is_name K a vs H Q E) : t_is_name K a { nx := fun _ H' => Q .non H', rt := Q } (start N_is_name vs) H := by
  obtain ⟨x, T, rfl, ty, hlen, q⟩ := h
  have et := tyb_str ty
  refine ⟨x, rfl, x, T, rfl, ty, T, "str", rfl, rfl, _, rfl, ?_⟩
  rw [et]
  cases x with
  | str t =>
    refine iteF ⟨.str t, rfl, t, rfl, hlen t rfl, 1, _, rfl, rfl, _, rfl, ?_⟩
    -- a text of another length
    have bad : (decide (1 ≤ t.length) && decide (t.length ≤ 8)) = false → Q (.bl false) H := fun e => by
      have e2 : nameV (.str t) = false := by
        show isNm t = false
        unfold isNm
        rw [e]
        rfl
      rw [e2] at q
      exact q
    by_cases h1 : 1 ≤ t.length
    rotate_left
    · rw [decide_eq_false (show ¬ (1 : Int) ≤ (t.length : Nat) by omega)]
      exact iteF ⟨false, rfl, iteT (bad (by rw [decide_eq_false h1]; rfl))⟩
    rw [decide_eq_true (show (1 : Int) ≤ (t.length : Nat) by omega)]
    refine iteT ⟨_, _, rfl, rfl, _, rfl, ?_⟩
    by_cases h2 : t.length ≤ 8
    rotate_left
    · rw [decide_eq_false (show ¬ ((t.length : Nat) : Int) ≤ 8 by omega)]
      exact iteT (bad (by rw [decide_eq_false h2, Bool.and_false]))
    rw [decide_eq_true (show ((t.length : Nat) : Int) ≤ 8 by omega)]
    refine iteF ⟨.str t, rfl, t, rfl, ?_⟩
    have en : nameV (.str t) = t.cps.toList.all fun c => decide (97 ≤ c) && decide (c ≤ 122) := by
      show isNm t = _
      unfold isNm
      rw [decide_eq_true h1, decide_eq_true h2]
      rfl
    rw [en] at q
    refine for_it (walk_str (z := t)) (fun i σ H' => H' = H ∧ ((t.cps.toList.take i).all fun c => decide (97 ≤ c) && decide (c ≤ 122)) = true ∧ ∃ y, σ = [some (.str t), y]) ⟨rfl, rfl, none, rfl⟩ (fun _ _ _ _ _ => trivial) ?_ ?_
    · rintro i v σ H1 H2 hi ⟨rfl, ha, y, rfl⟩ ⟨rfl, c, hc, rfl⟩
      refine ⟨_, rfl, "a", _, rfl, rfl, _, rfl, ?_⟩
      have hc' : t.cps.toList[i]? = some c := by rw [Array.getElem?_toList]; exact hc
      have ea : ("a" : Str).cps.toList = [97] := by decide +kernel
      have ez : ("z" : Str).cps.toList = [122] := by decide +kernel
      have fail : (decide (97 ≤ c) && decide (c ≤ 122)) = false → Q (.bl false) H2 := fun e => by
        have e2 : (t.cps.toList.all fun c => decide (97 ≤ c) && decide (c ≤ 122)) = false := by
          cases z : t.cps.toList.all fun c => decide (97 ≤ c) && decide (c ≤ 122) with
          | false => rfl
          | true =>
            rw [List.all_eq_true] at z
            rw [z c (List.mem_of_getElem? hc')] at e
            cases e
        rw [e2] at q
        exact q
      rw [ea]
      show (if (!decide (([c] : List Nat) < [97])) = true then _ else _)
      rw [le_one]
      by_cases g1 : 97 ≤ c
      rotate_left
      · rw [decide_eq_false g1]
        exact iteF ⟨false, rfl, iteT (fail (by rw [decide_eq_false g1]; rfl))⟩
      rw [decide_eq_true g1]
      refine iteT ⟨_, "z", rfl, rfl, _, rfl, ?_⟩
      rw [ez]
      show (if (!(!decide (([122] : List Nat) < [c]))) = true then _ else _)
      rw [le_one]
      by_cases g2 : c ≤ 122
      rotate_left
      · rw [decide_eq_false g2]
        exact iteT (fail (by rw [decide_eq_false g2, Bool.and_false]))
      rw [decide_eq_true g2]
      refine iteF ⟨rfl, ?_, _, rfl⟩
      rw [take_more hc', List.all_append, ha]
      simp [g1, g2]
    · rintro σ H1 ⟨rfl, ha, y, rfl⟩
      have e : t.cps.toList.take t.cps.size = t.cps.toList := by rw [← Array.length_toList, List.take_length]
      rw [e] at ha
      rw [ha] at q
      exact q
  | _ => exact iteT q
theorem nameV_true {x : V} (h : nameV x = true) : ∃ t, x = .str t ∧ isNm t = true := by
  cases x with
  | str t => exact ⟨t, rfl, h⟩
  | _ => cases h
/-- what a look at a name comes to: R behind a good one -/
def ChkN (K : PySem.W.Frag) (a : Ad) (x : V) (H : Hp) (E : XK) (R : Str → Prop) : Prop := (∃ T, TyB K H x T) ∧ (∀ t, x = .str t → t.length ≤ sizeLine) ∧ ((nameV x = false ∧ E (.ref a.e_NoName) none H) ∨ ∃ t, x = .str t ∧ isNm t = true ∧ R t)
theorem ChkN.imp {K : PySem.W.Frag} {a : Ad} {x : V} {H : Hp} {E : XK} {R R' : Str → Prop} (h : ChkN K a x H E R) (k : ∀ t, x = .str t → isNm t = true → R t → R' t) : ChkN K a x H E R' := by
  obtain ⟨h1, h2, h | ⟨t, e, g, r⟩⟩ := h
  · exact ⟨h1, h2, .inl h⟩
  · exact ⟨h1, h2, .inr ⟨t, e, g, k t e g r⟩⟩
def sp_p_check_name (K : PySem.W.Frag) (a : Ad) : Sp := fun vs H Q E => ∃ x, vs = [x] ∧ ChkN K a x H E fun _ => Q .non H
abbrev N_p_check_name : List Str := ["name"]
def t_p_check_name (K : PySem.W.Frag) (a : Ad) (E : XK) : TS :=
  (tIfS (tNot (tB (tCall (sp_is_name K a) [] E0 (tCons (tVar 0) tNil)))) (tRaise a.e_NoName E) tNext)
theorem len_p_check_name {K : PySem.W.Frag} {a : Ad} {vs : List V} {H : Hp} {Q : VK} {E : XK} (h : sp_p_check_name K a vs H Q E) : vs.length = 1 := by
  obtain ⟨x, rfl, _⟩ := h
  rfl
theorem pu_p_check_name {K : PySem.W.Frag} {a : Ad} {vs : List V} {H : Hp} {Q : VK} {E : XK} (h : sp_p_check_name K a vs H Q E) : t_p_check_name K a E { nx := fun _ H' => Q .non H', rt := Q } (start N_p_check_name vs) H := by
  obtain ⟨x, rfl, ⟨T, ty⟩, hl, h⟩ := h
  refine ⟨x, rfl, x, T, rfl, ty, hl, nameV x, rfl, ?_⟩
  rcases h with ⟨e, q⟩ | ⟨t, rfl, g, q⟩
  · rw [e]
    exact iteT q
  · rw [show nameV (.str t) = true from g]
    exact iteF q
/-! the methods -/
def sp_M_init (K : PySem.W.Frag) (a : Ad) (b : Bool) : Sp := fun vs H Q E => ∃ p dx y, vs = [.ref p, y] ∧ H p = some (.ins (a.cls b) dx []) ∧
  ChkQ K a y H E fun n => ∀ (d : Addr) (H' : Hp), H d = none → (∀ c o, H c = some o → c ≠ p → H' c = some o) → QuayAt K (a.cls b) H' p d n [] → Q .non H'
abbrev N_Q_init : List Str := ["self", "berths"]
def t_Q_init (K : PySem.W.Frag) (a : Ad) (E : XK) : TS :=
  (tSeq (tDrop (tCall (sp_check_quay K a) [] E (tCons (tVar 1) tNil)))
    (tSeq (sFld K (tVar 0) (tVar 1) "_berths")
    (sFld K (tVar 0) tDNewK "_ships")))
theorem len_M_init {K : PySem.W.Frag} {a : Ad} {b : Bool} {vs : List V} {H : Hp} {Q : VK} {E : XK} (h : sp_M_init K a b vs H Q E) : vs.length = 2 := by
  obtain ⟨p, dx, y, rfl, _⟩ := h
  rfl
theorem pu_Q_init {K : PySem.W.Frag} {a : Ad} {b : Bool} {vs : List V} {H : Hp} {Q : VK} {E : XK} (TC : ClsT K a b) (h : sp_M_init K a b vs H Q E) : t_Q_init K a E { nx := fun _ H' => Q .non H', rt := Q } (start N_Q_init vs) H := by
  obtain ⟨p, dx, y, rfl, hp, h⟩ := h
  refine ⟨y, rfl, y, rfl, ChkQ.imp h fun n e h1 h2 k => ?_⟩
  subst e
  refine ⟨_, rfl, _, rfl, p, _, dx, [], rfl, hp, TC.cl, TC.nB, (by show 0 < 1000; decide), ?_⟩
  intro d hd
  have npd : p ≠ d := ne_of_none upd_same hd
  refine ⟨_, rfl, p, _, dx, _, rfl, (by rw [upd_ne npd]; exact upd_same), TC.cl, TC.nS, (by show 1 < 1000; decide), ?_⟩
  have hd0 : H d = none := by rw [upd_ne npd.symm] at hd; exact hd
  refine k d _ hd0 (fun c o e ne => ?_) ⟨⟨dx, ?_⟩, ⟨[], ?_, .nil⟩, List.nodup_nil, fun s hs => (by cases hs), ⟨h1, h2⟩, by decide⟩
  · rw [upd_ne ne, upd_ne (ne_of_none e hd0), upd_ne ne]
    exact e
  · rw [upd_same]
    rfl
  · rw [upd_ne npd.symm, upd_same]
abbrev N_R_init : List Str := ["self", "berths"]
def t_R_init (K : PySem.W.Frag) (a : Ad) (E : XK) : TS :=
  (tDrop (tClsFn a.c_Quay (sp_M_init K a true) E (tC (.ref a.c_Quay)) (tCons (tVar 0) (tCons (tVar 1) tNil))))
theorem pu_R_init {K : PySem.W.Frag} {a : Ad} {vs : List V} {H : Hp} {Q : VK} {E : XK} (TC : ClsT K a true) (h : sp_M_init K a true vs H Q E) : t_R_init K a E { nx := fun _ H' => Q .non H', rt := Q } (start N_R_init vs) H := by
  obtain ⟨p, dx, y, rfl, hp, h⟩ := h
  exact ⟨rfl, _, rfl, _, rfl, p, dx, y, rfl, hp, h⟩
def sp_M_first_free (K : PySem.W.Frag) (a : Ad) (b : Bool) : Sp := fun vs H Q _ => ∃ (p dx h : Addr) (fs : List (Str × V)) (n : Nat) (occ : Int → Bool) (w : Int), vs = [.ref p, .ref h, .int w] ∧ H p = some (.ins (a.cls b) dx fs) ∧ SqL K H h (heldL n occ) ∧ n ≤ 900 ∧ 0 ≤ w ∧ w ≤ 1000 ∧ Q (vO (ffq b n occ w)) H
abbrev N_Q_first_free : List Str := ["self", "held", "wish"]
def t_Q_first_free (K : PySem.W.Frag) (a : Ad) : TS :=
  (tRet (tCall (sp_first_free K a) [] E0 (tCons (tVar 1) (tCons (tVar 2) tNil))))
theorem len_M_first_free {K : PySem.W.Frag} {a : Ad} {b : Bool} {vs : List V} {H : Hp} {Q : VK} {E : XK} (h : sp_M_first_free K a b vs H Q E) : vs.length = 3 := by
  obtain ⟨p, dx, h, fs, n, occ, w, rfl, _⟩ := h
  rfl
theorem pu_Q_first_free {K : PySem.W.Frag} {a : Ad} {vs : List V} {H : Hp} {Q : VK} {E : XK} (h : sp_M_first_free K a false vs H Q E) : t_Q_first_free K a { nx := fun _ H' => Q .non H', rt := Q } (start N_Q_first_free vs) H := by
  obtain ⟨p, dx, h, fs, n, occ, w, rfl, hp, hs, h1, h2, h3, q⟩ := h
  exact ⟨_, rfl, _, rfl, h, n, occ, w, rfl, hs, h1, h2, h3, q⟩
abbrev N_R_first_free : List Str := ["self", "held", "wish"]
def t_R_first_free (K : PySem.W.Frag) (a : Ad) : TS :=
  (tRet (tCall (sp_first_free_round K a) [] E0 (tCons (tVar 1) (tCons (tVar 2) tNil))))
theorem pu_R_first_free {K : PySem.W.Frag} {a : Ad} {vs : List V} {H : Hp} {Q : VK} {E : XK} (h : sp_M_first_free K a true vs H Q E) : t_R_first_free K a { nx := fun _ H' => Q .non H', rt := Q } (start N_R_first_free vs) H := by
  obtain ⟨p, dx, h, fs, n, occ, w, rfl, hp, hs, h1, h2, h3, q⟩ := h
  exact ⟨_, rfl, _, rfl, h, n, occ, w, rfl, hs, h1, h2, h3, q⟩
def sp_M_size (K : PySem.W.Frag) (a : Ad) (b : Bool) : Sp := fun vs H Q _ => ∃ (p d : Addr) (n : Nat) (ss : List Ship), vs = [.ref p] ∧ QuayAt K (a.cls b) H p d n ss ∧ Q (.int n) H
abbrev N_Q_size : List Str := ["self"]
def t_Q_size (K : PySem.W.Frag) (a : Ad) : TS :=
  (tRet (tFld K (tVar 0) "_berths"))
theorem len_M_size {K : PySem.W.Frag} {a : Ad} {b : Bool} {vs : List V} {H : Hp} {Q : VK} {E : XK} (h : sp_M_size K a b vs H Q E) : vs.length = 1 := by
  obtain ⟨p, d, n, ss, rfl, _⟩ := h
  rfl
theorem pu_Q_size {K : PySem.W.Frag} {a : Ad} {b : Bool} {vs : List V} {H : Hp} {Q : VK} {E : XK} (TC : ClsT K a b) (h : sp_M_size K a b vs H Q E) : t_Q_size K a { nx := fun _ H' => Q .non H', rt := Q } (start N_Q_size vs) H := by
  obtain ⟨p, d, n, ss, rfl, S, q⟩ := h
  obtain ⟨dx, h1⟩ := S.ob
  exact ⟨_, rfl, p, _, dx, _, _, rfl, h1, TC.cl, TC.nB, flds_b, q⟩
def kindS (b : Bool) : Str := if b = true then "round" else "quay"
def sp_M_kind (K : PySem.W.Frag) (a : Ad) (b : Bool) : Sp := fun vs H Q _ => ∃ (p dx : Addr) (fs : List (Str × V)), vs = [.ref p] ∧ H p = some (.ins (a.cls b) dx fs) ∧ Q (.str (kindS b)) H
abbrev N_Q_kind : List Str := ["self"]
def t_Q_kind (K : PySem.W.Frag) (a : Ad) : TS :=
  (tRet (tC (.str (Str.ofString "quay"))))
theorem len_M_kind {K : PySem.W.Frag} {a : Ad} {b : Bool} {vs : List V} {H : Hp} {Q : VK} {E : XK} (h : sp_M_kind K a b vs H Q E) : vs.length = 1 := by
  obtain ⟨p, dx, fs, rfl, _⟩ := h
  rfl
theorem pu_Q_kind {K : PySem.W.Frag} {a : Ad} {vs : List V} {H : Hp} {Q : VK} {E : XK} (h : sp_M_kind K a false vs H Q E) : t_Q_kind K a { nx := fun _ H' => Q .non H', rt := Q } (start N_Q_kind vs) H := by
  obtain ⟨p, dx, fs, rfl, _, q⟩ := h
  exact q
abbrev N_R_kind : List Str := ["self"]
def t_R_kind (K : PySem.W.Frag) (a : Ad) : TS :=
  (tRet (tC (.str (Str.ofString "round"))))
theorem pu_R_kind {K : PySem.W.Frag} {a : Ad} {vs : List V} {H : Hp} {Q : VK} {E : XK} (h : sp_M_kind K a true vs H Q E) : t_R_kind K a { nx := fun _ H' => Q .non H', rt := Q } (start N_R_kind vs) H := by
  obtain ⟨p, dx, fs, rfl, _, q⟩ := h
  exact q
/-! looking a name up -/
theorem kv_look {K : PySem.W.Frag} {H : Hp} {kvs : List (Key × V)} {ss : List Ship} (h : KvAt K H kvs ss) (t : Str) :
    (t ∉ ss.map (·.1) → valV kvs (Sum.inr t : Key) = none) ∧ (t ∈ ss.map (·.1) → ∃ s ∈ ss, s.1 = t ∧ ∃ tp, valV kvs (Sum.inr t : Key) = some (.ref tp) ∧ SqT K H tp [.int s.2.1, .int s.2.2]) := by
  induction h with
  | nil => exact ⟨fun _ => rfl, fun h => by cases h⟩
  | @cons kv s l1 l2 hk _ ih =>
    obtain ⟨i1, i2⟩ := ih
    obtain ⟨e, tp, ev, hs⟩ := hk
    obtain ⟨k, v⟩ := kv
    simp only at e ev
    subst e ev
    have step : valV ((Sum.inr s.1, V.ref tp) :: l1) (Sum.inr t : Key) = if s.1 = t then some (.ref tp) else valV l1 (Sum.inr t : Key) := by
      unfold valV
      rw [List.find?_cons]
      by_cases z : s.1 = t
      · simp [z]
      · have : ¬ (Sum.inr s.1 : Key) = Sum.inr t := fun q => z (Sum.inr.inj q)
        simp [z, this]
    rw [step]
    by_cases z : s.1 = t
    · rw [if_pos z]
      exact ⟨fun hn => absurd (by rw [List.map_cons, z]; exact List.mem_cons_self) hn, fun _ => ⟨s, List.mem_cons_self, z, tp, rfl, hs⟩⟩
    · rw [if_neg z]
      refine ⟨fun hn => i1 fun q => hn (by rw [List.map_cons]; exact List.mem_cons_of_mem _ q), fun hm => ?_⟩
      rw [List.map_cons] at hm
      rcases List.mem_cons.mp hm with q | q
      · exact absurd q.symm z
      · obtain ⟨s', m', r⟩ := i2 q
        exact ⟨s', List.mem_cons_of_mem _ m', r⟩
/-- what a look for a ship's name comes to: R behind one that is there -/
def ChkS (K : PySem.W.Frag) (a : Ad) (ss : List Ship) (x : V) (H : Hp) (E : XK) (R : Str → Prop) : Prop := ChkN K a x H E fun t => (t ∉ ss.map (·.1) ∧ E (.ref a.e_NoShip) none H) ∨ (t ∈ ss.map (·.1) ∧ R t)
def sp_M_check_there (K : PySem.W.Frag) (a : Ad) (b : Bool) : Sp := fun vs H Q E => ∃ (p d : Addr) (n : Nat) (ss : List Ship) (x : V), vs = [.ref p, x] ∧ QuayAt K (a.cls b) H p d n ss ∧ ChkS K a ss x H E fun _ => Q .non H
abbrev N_Q_check_there : List Str := ["self", "name"]
def t_Q_check_there (K : PySem.W.Frag) (a : Ad) (E : XK) : TS :=
  (tSeq (tDrop (tCall (sp_p_check_name K a) [] E (tCons (tVar 1) tNil)))
    (tIfS (tB (tDNotIn (tVar 1) (tFld K (tVar 0) "_ships"))) (tRaise a.e_NoShip E) tNext))
theorem len_M_check_there {K : PySem.W.Frag} {a : Ad} {b : Bool} {vs : List V} {H : Hp} {Q : VK} {E : XK} (h : sp_M_check_there K a b vs H Q E) : vs.length = 2 := by
  obtain ⟨p, d, n, ss, x, rfl, _⟩ := h
  rfl
theorem pu_Q_check_there {K : PySem.W.Frag} {a : Ad} {b : Bool} {vs : List V} {H : Hp} {Q : VK} {E : XK} (TC : ClsT K a b) (h : sp_M_check_there K a b vs H Q E) : t_Q_check_there K a E { nx := fun _ H' => Q .non H', rt := Q } (start N_Q_check_there vs) H := by
  obtain ⟨p, d, n, ss, x, rfl, S, h⟩ := h
  refine ⟨x, rfl, x, rfl, ChkN.imp h fun t e g r => ?_⟩
  subst e
  obtain ⟨dx, h1⟩ := S.ob
  obtain ⟨kvs, h2, h3⟩ := S.dc
  refine ⟨_, rfl, _, rfl, p, _, dx, _, _, rfl, h1, TC.cl, TC.nS, flds_s, d, _, rfl, DGet.k (k := Sum.inr t) h2, _, rfl, ?_⟩
  obtain ⟨l1, l2⟩ := kv_look h3 t
  rcases r with ⟨hn, q⟩ | ⟨hm, q⟩
  · rw [l1 hn]
    exact iteT q
  · obtain ⟨s, _, _, tp, e, _⟩ := l2 hm
    rw [e]
    exact iteF q
def sp_M_where (K : PySem.W.Frag) (a : Ad) (b : Bool) : Sp := fun vs H Q E => ∃ (p d : Addr) (n : Nat) (ss : List Ship) (x : V), vs = [.ref p, x] ∧ QuayAt K (a.cls b) H p d n ss ∧ ChkS K a ss x H E fun t => ∀ s ∈ ss, s.1 = t → Q (.int s.2.2) H
abbrev N_Q_where : List Str := ["self", "name"]
def t_Q_where (K : PySem.W.Frag) (a : Ad) (E : XK) : TS :=
  (tSeq (tDrop (tMethB a.cls "_check_there" (fun b => sp_M_check_there K a b) (fun _ => E) (tVar 0) (tCons (tVar 1) tNil)))
    (tRet (tOp (rIxT K) (tDGet (tFld K (tVar 0) "_ships") (tVar 1)) (tC (.int 1)))))
theorem len_M_where {K : PySem.W.Frag} {a : Ad} {b : Bool} {vs : List V} {H : Hp} {Q : VK} {E : XK} (h : sp_M_where K a b vs H Q E) : vs.length = 2 := by
  obtain ⟨p, d, n, ss, x, rfl, _⟩ := h
  rfl
theorem pu_Q_where {K : PySem.W.Frag} {a : Ad} {b : Bool} {vs : List V} {H : Hp} {Q : VK} {E : XK} (TC : ClsT K a b) (h : sp_M_where K a b vs H Q E) : t_Q_where K a E { nx := fun _ H' => Q .non H', rt := Q } (start N_Q_where vs) H := by
  obtain ⟨p, d, n, ss, x, rfl, S, h⟩ := h
  obtain ⟨dx, h1⟩ := S.ob
  refine ⟨_, rfl, b, p, dx, _, rfl, h1, by rfl, x, rfl, p, d, n, ss, x, rfl, S, ChkN.imp h fun t e g r => ?_⟩
  subst e
  rcases r with r | ⟨hm, q⟩
  · exact .inl r
  refine .inr ⟨hm, ?_⟩
  obtain ⟨kvs, h2, h3⟩ := S.dc
  obtain ⟨s, hs, es, tp, e, ht⟩ := (kv_look h3 t).2 hm
  refine ⟨_, rfl, p, _, dx, _, _, rfl, h1, TC.cl, TC.nS, flds_s, _, rfl, d, .ref tp, rfl, ?_, tp, _, 1, .int s.2.2, rfl, rfl, ht, atI_nat (j := 1) rfl, q s hs es⟩
  rw [← e]
  exact DGet.k (k := Sum.inr t) h2
/-! the berths that are held -/
def sp_M_held (K : PySem.W.Frag) (a : Ad) (b : Bool) : Sp := fun vs H Q _ => ∃ (p d : Addr) (n : Nat) (ss : List Ship), vs = [.ref p] ∧ QuayAt K (a.cls b) H p d n ss ∧ ∀ (l : Addr) (H' : Hp), H l = none → Same H H' → H' l = some (.lst (heldL n (occS ss))) → Q (.ref l) H'
abbrev N_Q_held : List Str := ["self", "held", "_", "berth"]
def t_Q_held (K : PySem.W.Frag) (a : Ad) : TS :=
  (tSeq (tAsg (tOp rRep (tLst (tCons (tC (.bl false)) tNil)) (tOp rAddI (tFld K (tVar 0) "_berths") (tC (.int 1)))) (gName 1))
    (tSeq (tLock (tFor (iVals (tFld K (tVar 0) "_ships")) (gTup K 2 (gCons (gName 2) (gCons (gName 3) gNil)))
    (tAsg (tC (.bl true)) (gSub (tVar 1) (tVar 3) rSetL))))
    (tRet (tVar 1))))
theorem len_M_held {K : PySem.W.Frag} {a : Ad} {b : Bool} {vs : List V} {H : Hp} {Q : VK} {E : XK} (h : sp_M_held K a b vs H Q E) : vs.length = 1 := by
  obtain ⟨p, d, n, ss, rfl, _⟩ := h
  rfl
theorem pu_Q_held {K : PySem.W.Frag} {a : Ad} {b : Bool} {vs : List V} {H : Hp} {Q : VK} {E : XK} (TC : ClsT K a b) (h : sp_M_held K a b vs H Q E) : t_Q_held K a { nx := fun _ H' => Q .non H', rt := Q } (start N_Q_held vs) H := by
  obtain ⟨p, d, n, ss, rfl, S, q⟩ := h
  obtain ⟨dx, h1⟩ := S.ob
  obtain ⟨kvs, h2, h3⟩ := S.dc
  have hn := S.n1
  have hnd := S.ne
  refine ⟨by decide, fun l0 nl0 => ⟨_, rfl, p, _, dx, _, _, rfl, same_new nl0 _ _ h1, TC.cl, TC.nB, flds_b, _, 1, rfl, rfl, l0, _, _, rfl, rfl, upd_same, by omega, by omega, ?_, fun l1 nl1 => ?_⟩⟩
  · refine l1000 ?_
    show 1 * _ ≤ _
    omega
  have e1 : ((n : Int) + 1).toNat = n + 1 := by omega
  rw [e1, heldL_new]
  have s0 : Same H (upd H l0 (.lst [.bl false])) := same_new nl0
  have n1 : H l1 = none := s0.free nl1
  have s1 := s0.store n1 (o := .lst (heldL n fun _ => false))
  have hdl : d ≠ l1 := ne_of_none h2 n1
  have hpl : p ≠ l1 := ne_of_none h1 n1
  refine ⟨d, .dK kvs, s1 _ _ h2, trivial, fun od => ?_⟩
  have h1' : (upd (upd (upd H l0 (.lst [.bl false])) l1 (.lst (heldL n fun _ => false))) d (.frz od (.dK kvs))) p = some (.ins (a.cls b) dx (flds n d)) := by
    rw [upd_ne hnd]
    exact s1 _ _ h1
  refine ⟨_, rfl, p, _, dx, _, _, rfl, h1', TC.cl, TC.nS, flds_s, d, od, kvs, rfl, upd_same, ?_⟩
  refine for_it (walk_values (d := d) (o := od) (kvs := kvs)) (fun i σ H' => (∃ y z, σ = [some (.ref p), some (.ref l1), y, z]) ∧ H' d = some (.frz od (.dK kvs)) ∧ (∀ c o, H c = some o → c ≠ d → H' c = some o) ∧ H' l1 = some (.lst (heldL n (occS (ss.take i)))))
    ⟨⟨none, none, rfl⟩, upd_same, fun c o e ne => (by rw [upd_ne ne]; exact s1 _ _ e), (by rw [upd_ne hdl.symm]; exact upd_same)⟩ (fun i σ H' _ h => h.2.1) ?_ ?_
  · rintro i v σ H1 H2 hi ⟨⟨y, z, rfl⟩, hd1, k1, eh⟩ ⟨rfl, k, hk⟩
    obtain ⟨s, hs, ek, t, ev, ht⟩ := pd_get h3 hk
    replace ev : v = .ref t := ev
    subst ev
    have ht' := seqT_but h2 k1 ht
    have hr := S.rg s (List.mem_of_getElem? hs)
    refine ⟨t, _, rfl, ht', rfl, _, _, rfl, _, _, rfl, rfl, ?_⟩
    refine ⟨.ref l1, rfl, .int s.2.2, rfl, l1, _, s.2.2, s.2.2.toNat, rfl, rfl, eh, ?_, ?_⟩
    · unfold ixN
      rw [if_pos (by omega), heldL_len, if_pos (by omega)]
    rw [heldL_set (by omega) hr.2.2.2]
    refine ⟨⟨_, _, rfl⟩, (by rw [upd_ne hdl]; exact hd1), fun c o e ne => (by rw [upd_ne (ne_of_none e n1)]; exact k1 c o e ne), ?_⟩
    rw [upd_same, take_more hs, occS_snoc]
  · rintro σ H1 ⟨⟨y, z, rfl⟩, hd1, k1, eh⟩
    rw [pd_len h3, List.take_length] at eh
    refine ⟨hd1, _, rfl, q l1 _ n1 (fun c o e => ?_) (by rw [upd_ne hdl.symm]; exact eh)⟩
    by_cases z : c = d
    · subst z
      rw [h2] at e
      rw [upd_same]
      exact e
    · rw [upd_ne z]
      exact k1 c o e z
def freeS (n : Nat) (ss : List Ship) : List Int := (allB n).filter fun x => !occS ss x
def sp_M_free_ones (K : PySem.W.Frag) (a : Ad) (b : Bool) : Sp := fun vs H Q _ => ∃ (p d : Addr) (n : Nat) (ss : List Ship), vs = [.ref p] ∧ QuayAt K (a.cls b) H p d n ss ∧ ∀ (l : Addr) (H' : Hp), H l = none → Same H H' → H' l = some (.lst ((freeS n ss).map V.int)) → Q (.ref l) H'
abbrev N_Q_free_ones : List Str := ["self", "held", "berth"]
def t_Q_free_ones (K : PySem.W.Frag) (a : Ad) : TS :=
  (tSeq (tAsg (tMethB a.cls "_held" (fun b => sp_M_held K a b) (fun _ => E0) (tVar 0) tNil) (gName 1))
    (tRet (tLc (iRng2 (tCons (tC (.int 1)) (tCons (tOp rAddI (tFld K (tVar 0) "_berths") (tC (.int 1))) tNil))) (gName 2) (tNot (tB (tOp (rIxL K) (tVar 1) (tVar 2)))) (tVar 2) [2])))
theorem len_M_free_ones {K : PySem.W.Frag} {a : Ad} {b : Bool} {vs : List V} {H : Hp} {Q : VK} {E : XK} (h : sp_M_free_ones K a b vs H Q E) : vs.length = 1 := by
  obtain ⟨p, d, n, ss, rfl, _⟩ := h
  rfl
theorem pu_Q_free_ones {K : PySem.W.Frag} {a : Ad} {b : Bool} {vs : List V} {H : Hp} {Q : VK} {E : XK} (TC : ClsT K a b) (h : sp_M_free_ones K a b vs H Q E) : t_Q_free_ones K a { nx := fun _ H' => Q .non H', rt := Q } (start N_Q_free_ones vs) H := by
  obtain ⟨p, d, n, ss, rfl, S, q⟩ := h
  obtain ⟨dx, h1⟩ := S.ob
  have hn := S.n1
  refine ⟨_, rfl, b, p, dx, _, rfl, h1, by rfl, p, d, n, ss, rfl, S, fun l H1 nl s el => ?_⟩
  have en : ((n : Int) + 1 - 1).toNat = n := by omega
  refine ⟨_, rfl, p, _, dx, _, _, rfl, s _ _ h1, TC.cl, TC.nB, flds_b, n, 1, rfl, rfl, 1, (n : Int) + 1, rfl, ⟨by omega, by omega, by omega, by omega⟩, ?_⟩
  rw [en]
  refine lc_pure (walk_range (lo := 1) (n := n)) (small1000 (by omega)) (allB n) (by simp [allB]) (fun x => !occS ss x) V.int (fun _ _ => trivial) ?_ ?_
  · intro j x v H5 H6 R hx2 s5 hy k
    obtain ⟨rfl, hv⟩ := hy
    have ev := allB_at hx2
    have hj : j < n := by
      have := (List.getElem?_eq_some_iff.mp hx2).1
      simpa [allB] using this
    replace hv : v = .int (1 + (j : Int)) := hv
    rw [← ev] at hv
    subst hv
    have hx : (heldL n (occS ss))[x.toNat]? = some (.bl (occS ss x)) := by
      rw [heldL_at (by omega)]
      have : ((x.toNat : Nat) : Int) = x := by omega
      rw [this]
    refine ⟨rfl, .ref l, rfl, .int x, rfl, l, _, _, .bl (occS ss x), rfl, rfl, sqL_of (s5 _ _ el), at_of (by omega) hx, occS ss x, rfl, ?_⟩
    have kk := k (.int x) _ (Same.refl _) fun _ => rfl
    cases e : occS ss x with
    | false =>
      rw [e] at kk
      exact iteT ⟨.int x, rfl, kk⟩
    | true =>
      have kk := k .non _ (Same.refl _) fun z => by rw [e] at z; cases z
      rw [e] at kk
      exact iteF kk
  · intro D H2 nD s2 eD
    exact q D H2 (s.free nD) (s.trans s2) eD
/-! all ships -/
def sp_M_all_ships (K : PySem.W.Frag) (a : Ad) (b : Bool) : Sp := fun vs H Q _ => ∃ (p d : Addr) (n : Nat) (ss : List Ship), vs = [.ref p] ∧ QuayAt K (a.cls b) H p d n ss ∧ ∀ (l : Addr) (H' : Hp) (rs : List V), H l = none → Same H H' → H' l = some (.lst rs) → TrAt K H' rs ss → Q (.ref l) H'
abbrev N_Q_all_ships : List Str := ["self", "name", "wish", "berth"]
def t_Q_all_ships (K : PySem.W.Frag) (a : Ad) : TS :=
  (tRet (tLockE (tLc (iItems (tFld K (tVar 0) "_ships")) (gTup K 2 (gCons (gName 1) (gCons (gTup K 2 (gCons (gName 2) (gCons (gName 3) gNil))) gNil))) tYes (tTup (tCons (tVar 1) (tCons (tVar 2) (tCons (tVar 3) tNil)))) [1, 2, 3])))
theorem len_M_all_ships {K : PySem.W.Frag} {a : Ad} {b : Bool} {vs : List V} {H : Hp} {Q : VK} {E : XK} (h : sp_M_all_ships K a b vs H Q E) : vs.length = 1 := by
  obtain ⟨p, d, n, ss, rfl, _⟩ := h
  rfl
theorem pu_Q_all_ships {K : PySem.W.Frag} {a : Ad} {b : Bool} {vs : List V} {H : Hp} {Q : VK} {E : XK} (TC : ClsT K a b) (h : sp_M_all_ships K a b vs H Q E) : t_Q_all_ships K a { nx := fun _ H' => Q .non H', rt := Q } (start N_Q_all_ships vs) H := by
  obtain ⟨p, d, n, ss, rfl, S, q⟩ := h
  obtain ⟨dx, h1⟩ := S.ob
  obtain ⟨kvs, h2, h3⟩ := S.dc
  have hnd := S.ne
  have hl := pd_len h3
  have hln := S.ln
  refine ⟨d, .dK kvs, h2, trivial, fun od => ?_⟩
  refine ⟨_, rfl, p, _, dx, _, _, rfl, (by rw [upd_ne hnd]; exact h1), TC.cl, TC.nS, flds_s, d, od, kvs, rfl, upd_same, fun D nD => ?_⟩
  have hdD : d ≠ D := ne_of_none upd_same nD
  have nD0 : H D = none := by rw [upd_ne hdD.symm] at nD; exact nD
  refine lc_it (walk_items (d := d) (o := od) (kvs := kvs)) (fun i H' => H' d = some (.frz od (.dK kvs)) ∧ (∀ c o, H c = some o → c ≠ d → H' c = some o) ∧ ∃ rs, H' D = some (.lst rs) ∧ TrAt K H' rs (ss.take i))
    ⟨(by rw [upd_ne hdD]; exact upd_same), fun c o e ne => (by rw [upd_ne (ne_of_none e nD0), upd_ne ne]; exact e), [], upd_same, .nil⟩ (fun i H' _ h => h.1) ?_ ?_
  · rintro i v H1 H2 hi ⟨hd1, k1, rs, er, tr⟩ ⟨T, x, y, rfl, nT, rfl, ex, ey⟩
    have ek : kvs[i]? = some kvs[i] := List.getElem?_eq_getElem hi
    obtain ⟨s, hs, es, t, et, ht⟩ := pd_get h3 ek
    dsimp only at ex ey
    rw [ek] at ex ey
    have ex' : x = V.str s.1 := by
      have e := (Option.some.inj ex).symm
      dsimp only at e
      rw [es] at e
      exact e
    have ey' : y = V.ref t := ((Option.some.inj ey).symm).trans et
    subst ex' ey'
    have s1 : Same H1 (upd H1 T (.tup [.str s.1, .ref t])) := same_new nT
    have ht1 : SqT K (upd H1 T (.tup [.str s.1, .ref t])) t [.int s.2.1, .int s.2.2] := s1.seqT (seqT_but h2 k1 ht)
    refine ⟨T, _, rfl, sqT_of upd_same, rfl, _, _, rfl, _, _, rfl, t, _, rfl, ht1, rfl, _, _, rfl, _, _, rfl, rfl, rfl, rfl, ?_⟩
    dsimp only [tYes]
    rw [if_pos rfl]
    refine ⟨_, rfl, _, rfl, _, rfl, (by show 3 ≤ sizeLine; decide), fun u nu => ?_⟩
    have hDu : D ≠ u := ne_of_none (s1 _ _ er) nu
    have hDT : D ≠ T := ne_of_none er nT
    have s2 : Same H1 (upd (upd H1 T (.tup [.str s.1, .ref t])) u (.tup [.str s.1, .int s.2.1, .int s.2.2])) := s1.trans (same_new nu)
    have hlr : rs.length < sizeLine := by
      rw [pd_len tr, List.length_take]
      exact small1000 (by omega)
    refine ⟨rs, s2 _ _ er, hlr, ?_, fun c o e ne => ?_, _, upd_same, ?_⟩
    · rw [upd_ne hdD]
      exact s2 _ _ hd1
    · rw [upd_ne (ne_of_none e nD0)]
      exact s2 _ _ (k1 c o e ne)
    · rw [take_more hs]
      have k3 : ∀ c o, (upd (upd H1 T (.tup [.str s.1, .ref t])) u (.tup [.str s.1, .int s.2.1, .int s.2.2])) c = some o → c ≠ D → (upd (upd (upd H1 T (.tup [.str s.1, .ref t])) u (.tup [.str s.1, .int s.2.1, .int s.2.2])) D (.lst (rs ++ [.ref u]))) c = some o := fun c o e ne => by
        rw [upd_ne ne]
        exact e
      exact pd_snoc (TrAt.nt (nt_lst (s2 _ _ er)) k3 (tr.same s2)) ⟨u, rfl, seqT_nt (nt_lst (s2 _ _ er)) k3 (sqT_of upd_same)⟩
  · rintro H1 ⟨hd1, k1, rs, er, tr⟩
    rw [hl, List.take_length] at tr
    refine ⟨hd1, q D _ rs nD0 (fun c o e => ?_) (by rw [upd_ne hdD.symm]; exact er) (tr.nt (nt_fz hd1) fun c o e ne => by rw [upd_ne ne]; exact e)⟩
    by_cases z : c = d
    · subst z
      rw [h2] at e
      rw [upd_same]
      exact e
    · rw [upd_ne z]
      exact k1 c o e z
/-! a ship comes -/
def sp_M_come (K : PySem.W.Frag) (a : Ad) (b : Bool) : Sp := fun vs H Q E => ∃ (p d : Addr) (n : Nat) (ss : List Ship) (x w : V), vs = [.ref p, x, w] ∧ QuayAt K (a.cls b) H p d n ss ∧ ss.length < 500 ∧ (∃ T, TyB K H w T) ∧ ChkN K a x H E fun t =>
  (t ∈ ss.map (·.1) ∧ E (.ref a.e_Taken) none H) ∨ (t ∉ ss.map (·.1) ∧ ((inB 1 n w = false ∧ E (.ref a.e_NoWish) none H) ∨ ∃ wi : Int, w = .int wi ∧ 1 ≤ wi ∧ wi ≤ n ∧
    ((ffq b n (occS ss) wi = none ∧ ∀ H', Same H H' → E (.ref a.e_NoRoom) none H') ∨ ∃ l : Int, ffq b n (occS ss) wi = some l ∧ 1 ≤ l ∧ l ≤ n ∧ ∀ H', (∀ c o, H c = some o → c ≠ d → H' c = some o) → QuayAt K (a.cls b) H' p d n (ss ++ [(t, wi, l)]) → Q (.int l) H')))
abbrev N_Q_come : List Str := ["self", "name", "wish", "berth"]
def t_Q_come (K : PySem.W.Frag) (a : Ad) (E : XK) : TS :=
  (tSeq (tDrop (tCall (sp_p_check_name K a) [] E (tCons (tVar 1) tNil)))
    (tSeq (tIfS (tB (tDIn (tVar 1) (tFld K (tVar 0) "_ships"))) (tRaise a.e_Taken E) tNext)
    (tSeq (tIfS (tNot (tB (tCall (sp_is_from_to K a) [] E0 (tCons (tC (.int 1)) (tCons (tFld K (tVar 0) "_berths") (tCons (tVar 2) tNil)))))) (tRaise a.e_NoWish E) tNext)
    (tSeq (tAsg (tMethB a.cls "_first_free" (fun b => sp_M_first_free K a b) (fun _ => E0) (tVar 0) (tCons (tMethB a.cls "_held" (fun b => sp_M_held K a b) (fun _ => E0) (tVar 0) tNil) (tCons (tVar 2) tNil))) (gName 3))
    (tSeq (tIfS (tB (tIsN (tVar 3))) (tRaise a.e_NoRoom E) tNext)
    (tSeq (tAsg (tTup (tCons (tVar 2) (tCons (tVar 3) tNil))) (gSub (tFld K (tVar 0) "_ships") (tVar 1) rSetD))
    (tRet (tVar 3))))))))
theorem len_M_come {K : PySem.W.Frag} {a : Ad} {b : Bool} {vs : List V} {H : Hp} {Q : VK} {E : XK} (h : sp_M_come K a b vs H Q E) : vs.length = 3 := by
  obtain ⟨p, d, n, ss, x, w, rfl, _⟩ := h
  rfl
theorem pu_Q_come {K : PySem.W.Frag} {a : Ad} {b : Bool} {vs : List V} {H : Hp} {Q : VK} {E : XK} (TC : ClsT K a b) (h : sp_M_come K a b vs H Q E) : t_Q_come K a E { nx := fun _ H' => Q .non H', rt := Q } (start N_Q_come vs) H := by
  obtain ⟨p, d, n, ss, x, w, rfl, S, hln, ⟨T, ty⟩, h⟩ := h
  obtain ⟨dx, h1⟩ := S.ob
  obtain ⟨kvs, h2, h3⟩ := S.dc
  have hn := S.n1
  refine ⟨x, rfl, x, rfl, ChkN.imp h fun t e g r => ?_⟩
  subst e
  obtain ⟨l1, l2⟩ := kv_look h3 t
  refine ⟨_, rfl, _, rfl, p, _, dx, _, _, rfl, h1, TC.cl, TC.nS, flds_s, d, _, rfl, DGet.k (k := Sum.inr t) h2, _, rfl, ?_⟩
  rcases r with ⟨hm, q⟩ | ⟨hn', r⟩
  · obtain ⟨s, _, _, tp, e, _⟩ := l2 hm
    rw [e]
    exact iteT q
  have hnew := l1 hn'
  rw [hnew]
  refine iteF ⟨_, rfl, p, _, dx, _, _, rfl, h1, TC.cl, TC.nB, flds_b, w, rfl, 1, n, w, T, rfl, ty, inB 1 n w, rfl, ?_⟩
  rcases r with ⟨e, q⟩ | ⟨wi, rfl, w1, w2, r⟩
  · rw [e]
    exact iteT q
  have e : inB 1 n (.int wi) = true := by simp [inB]; omega
  rw [e]
  refine iteF ⟨_, rfl, b, p, dx, _, rfl, h1, by rfl, _, rfl, b, p, dx, _, rfl, h1, by rfl, p, d, n, ss, rfl, S, fun l H1 nl s el => ?_⟩
  refine ⟨_, rfl, p, dx, l, _, n, occS ss, wi, rfl, s _ _ h1, sqL_of el, by omega, by omega, by omega, ?_⟩
  rcases r with ⟨ef, q⟩ | ⟨y, ef, y1, y2, q⟩
  · rw [ef]
    exact ⟨.non, rfl, true, rfl, iteT (q H1 s)⟩
  rw [ef]
  refine ⟨.int y, rfl, false, rfl, iteF ⟨.int wi, rfl, .int y, rfl, (by show 2 ≤ sizeLine; decide), fun tp ntp => ?_⟩⟩
  have s2 : Same H (upd H1 tp (.tup [.int wi, .int y])) := s.trans (same_new ntp)
  have s3 : Same H1 (upd H1 tp (.tup [.int wi, .int y])) := same_new ntp
  have dtp : d ≠ tp := ne_of_none (s _ _ h2) ntp
  have ptp : p ≠ tp := ne_of_none (s _ _ h1) ntp
  refine ⟨_, rfl, p, _, dx, _, _, rfl, s2 _ _ h1, TC.cl, TC.nS, flds_s, _, rfl, d, _, rfl, DPut.k (k := Sum.inr t) (s2 _ _ h2) (small1000 (by rw [pd_len h3]; omega)), ?_⟩
  have k3 : ∀ c o, (upd H1 tp (.tup [.int wi, .int y])) c = some o → c ≠ d → (upd (upd H1 tp (.tup [.int wi, .int y])) d (.dK (putK kvs (Sum.inr t) (.ref tp)))) c = some o := fun c o e ne => by
    rw [upd_ne ne]
    exact e
  refine ⟨.int y, rfl, q _ (fun c o e ne => k3 c o (s2 c o e) ne) ⟨⟨dx, ?_⟩, ⟨_, upd_same, ?_⟩, ?_, ?_, hn, ?_⟩⟩
  · rw [upd_ne S.ne]
    exact s2 _ _ h1
  · have nt := nt_dK (s2 _ _ h2)
    have kk := pd_snoc (a := ((Sum.inr t, V.ref tp) : Key × V)) (b := ((t, wi, y) : Ship)) (KvAt.nt nt k3 (h3.same s2)) ⟨rfl, tp, rfl, seqT_nt nt k3 (sqT_of upd_same)⟩
    rw [← putK_new (V.ref tp) hnew] at kk
    exact kk
  · rw [List.map_append, List.nodup_append]
    refine ⟨S.nd, by simp, fun u hu v hv e => ?_⟩
    simp only [List.map_cons, List.map_nil, List.mem_singleton] at hv
    rw [hv] at e
    exact hn' (e ▸ hu)
  · intro s hs
    rcases List.mem_append.mp hs with hs | hs
    · exact S.rg s hs
    · rw [List.mem_singleton.mp hs]
      exact ⟨w1, w2, y1, y2⟩
  · rw [List.length_append]
    show ss.length + 1 ≤ 500
    omega

/-! ### a ship leaves -/
def TKeep (H H' : Hp) : Prop := (∀ c xs, H c = some (.tup xs) → H' c = some (.tup xs)) ∧ ∀ c o xs, H c = some (.frz o (.tup xs)) → H' c = some (.frz o (.tup xs))
theorem TKeep.trans {H H1 H2 : Hp} (a : TKeep H H1) (b : TKeep H1 H2) : TKeep H H2 := ⟨fun c xs e => b.1 c xs (a.1 c xs e), fun c o xs e => b.2 c o xs (a.2 c o xs e)⟩
theorem tk_same {H H' : Hp} (s : Same H H') : TKeep H H' := ⟨fun c xs e => s _ _ e, fun c o xs e => s _ _ e⟩
theorem tk_upd {H : Hp} {d : Addr} {o : HO} (h : NT H d) : TKeep H (upd H d o) := by
  refine ⟨fun c xs e => ?_, fun c u xs e => ?_⟩
  · have ne : c ≠ d := fun q => h.1 xs (q ▸ e)
    rw [upd_ne ne]
    exact e
  · have ne : c ≠ d := fun q => h.2 u xs (q ▸ e)
    rw [upd_ne ne]
    exact e
theorem seqT_tk {K : PySem.W.Frag} {H H' : Hp} {t : Addr} {xs : List V} (k : TKeep H H') (h : SqT K H t xs) : SqT K H' t xs := by
  rcases h with (h | ⟨o, h⟩) | h
  · exact .inl (.inl (k.1 _ _ h))
  · exact .inl (.inr ⟨o, k.2 _ _ _ h⟩)
  · exact .inr h
theorem KvAt.tk {K : PySem.W.Frag} {H H' : Hp} {kvs : List (Key × V)} {ss : List Ship} (h : KvAt K H kvs ss) (k : TKeep H H') : KvAt K H' kvs ss := pd_imp h fun _ _ ⟨e, t, q, r⟩ => ⟨e, t, q, seqT_tk k r⟩
theorem TrAt.tk {K : PySem.W.Frag} {H H' : Hp} {vs : List V} {ss : List Ship} (h : TrAt K H vs ss) (k : TKeep H H') : TrAt K H' vs ss := pd_imp h fun _ _ ⟨t, q, r⟩ => ⟨t, q, seqT_tk k r⟩
def others (t : Str) (ss : List Ship) : List Ship := ss.filter fun s => decide (s.1 ≠ t)
def keys (ss : List Ship) : List (Str × Int) := ss.map fun s => (s.1, s.2.1)
def Laid (b : Bool) (n : Nat) (ss : List Ship) : Prop := ∀ (i : Nat) (s : Ship), ss[i]? = some s → ffq b n (occS (ss.take i)) s.2.1 = some s.2.2
def movesOf (os ss : List Ship) : List Ship := (os.zip ss).filterMap fun p => if p.2.2.2 = p.1.2.2 then none else some (p.1.1, p.1.2.2, p.2.2.2)
theorem ffq_rg {b : Bool} {n : Nat} {occ : Int → Bool} {w l : Int} (h : ffq b n occ w = some l) (h1 : 1 ≤ w) : 1 ≤ l ∧ l ≤ n ∧ occ l = false := by
  unfold ffq at h
  cases b with
  | false =>
    obtain ⟨a1, a2, a3, _⟩ := ffree_some (show ffree n occ w = some l from h)
    exact ⟨by omega, a2, a3⟩
  | true =>
    have h : rfree n occ w = some l := h
    unfold rfree at h
    cases e : ffree n occ w with
    | none =>
      rw [e] at h
      obtain ⟨a1, a2, a3, _⟩ := ffree_some h
      exact ⟨a1, a2, a3⟩
    | some c =>
      rw [e] at h
      cases h
      obtain ⟨a1, a2, a3, _⟩ := ffree_some e
      exact ⟨by omega, a2, a3⟩
theorem kv_drop {K : PySem.W.Frag} {H : Hp} {kvs : List (Key × V)} {ss : List Ship} (h : KvAt K H kvs ss) (t : Str) : KvAt K H (dropK kvs (Sum.inr t : Key)) (others t ss) := by
  induction h with
  | nil => exact .nil
  | @cons kv s l1 l2 hk _ ih =>
    obtain ⟨k, v⟩ := kv
    obtain ⟨e, r⟩ := hk
    replace e : k = Sum.inr s.1 := e
    subst e
    unfold dropK others
    rw [List.filter_cons, List.filter_cons]
    by_cases z : s.1 = t
    · have : ¬ ((Sum.inr s.1 : Key) ≠ Sum.inr t) := fun q => q (by rw [z])
      rw [if_neg (by simpa using z), if_neg (by simpa using z)]
      exact ih
    · rw [if_pos (by simpa using z), if_pos (by simpa using z)]
      exact .cons ⟨rfl, r⟩ ih
theorem kv_map {K : PySem.W.Frag} {H : Hp} {kvs : List (Key × V)} {ss : List Ship} {nm : Str} {v : V} (h : KvAt K H kvs ss) : (nm ∉ ss.map (·.1) → KvAt K H (kvs.map fun kv => if kv.1 = (Sum.inr nm : Key) then (kv.1, v) else kv) ss) ∧
    ((ss.map (·.1)).Nodup → ∀ (i : Nat) (s s' : Ship), ss[i]? = some s → s.1 = nm → s'.1 = nm → (∃ t, v = .ref t ∧ SqT K H t [.int s'.2.1, .int s'.2.2]) → KvAt K H (kvs.map fun kv => if kv.1 = (Sum.inr nm : Key) then (kv.1, v) else kv) (ss.set i s')) := by
  induction h with
  | nil => exact ⟨fun _ => .nil, fun _ i s s' e => by cases i <;> cases e⟩
  | @cons kv s0 l1 l2 hk _ ih =>
    obtain ⟨i1, i2⟩ := ih
    obtain ⟨k, u⟩ := kv
    obtain ⟨e, r⟩ := hk
    replace e : k = Sum.inr s0.1 := e
    subst e
    refine ⟨fun hn => ?_, fun nd i s s' hi h1 h2 hv => ?_⟩
    · rw [List.map_cons] at hn ⊢
      rw [List.mem_cons, not_or] at hn
      have : ¬ (Sum.inr s0.1 : Key) = Sum.inr nm := fun q => hn.1 (Sum.inr.inj q).symm
      rw [if_neg this]
      exact .cons ⟨rfl, r⟩ (i1 hn.2)
    · rw [List.map_cons, List.nodup_cons] at nd
      rw [List.map_cons]
      cases i with
      | zero =>
        cases hi
        rw [List.set_cons_zero]
        have : (Sum.inr s0.1 : Key) = Sum.inr nm := by rw [h1]
        rw [if_pos this]
        refine .cons ⟨by rw [h1, h2], hv⟩ (i1 ?_)
        rw [← h1]
        exact nd.1
      | succ i =>
        rw [List.set_cons_succ]
        have hm : nm ∈ l2.map (·.1) := by
          have e : l2[i]? = some s := hi
          rw [← h1]
          exact List.mem_map_of_mem (List.mem_of_getElem? e)
        have : ¬ (Sum.inr s0.1 : Key) = Sum.inr nm := fun q => nd.1 (by rw [Sum.inr.inj q]; exact hm)
        rw [if_neg this]
        exact .cons ⟨rfl, r⟩ (i2 nd.2 i s s' hi h1 h2 hv)
theorem kv_put {K : PySem.W.Frag} {H : Hp} {kvs : List (Key × V)} {ss : List Ship} {i : Nat} {s s' : Ship} {tp : Addr} (h : KvAt K H kvs ss) (nd : (ss.map (·.1)).Nodup) (hi : ss[i]? = some s) (h2 : s'.1 = s.1) (hv : SqT K H tp [.int s'.2.1, .int s'.2.2]) : KvAt K H (putK kvs (Sum.inr s.1 : Key) (.ref tp)) (ss.set i s') := by
  have hm : s.1 ∈ ss.map (·.1) := List.mem_map_of_mem (List.mem_of_getElem? hi)
  obtain ⟨s0, _, _, t0, e0, _⟩ := (kv_look h s.1).2 hm
  have ha : (kvs.any fun kv => decide (kv.1 = (Sum.inr s.1 : Key))) = true := by
    unfold valV at e0
    cases f : kvs.find? fun kv => decide (kv.1 = (Sum.inr s.1 : Key)) with
    | none => rw [f] at e0; cases e0
    | some kv => exact List.any_eq_true.mpr ⟨kv, List.mem_of_find?_eq_some f, by simpa using List.find?_some f⟩
  unfold putK
  rw [if_pos ha]
  exact (kv_map h).2 nd i s s' hi rfl h2 ⟨tp, rfl, hv⟩
theorem putK_len {kvs : List (Key × V)} {k : Key} {v : V} : (putK kvs k v).length ≤ kvs.length + 1 := by
  unfold putK
  split
  · rw [List.length_map]; omega
  · rw [List.length_append]; exact Nat.le_refl _
theorem keys_len {os ss : List Ship} (h : keys ss = keys os) : ss.length = os.length := by
  have e := congrArg List.length h
  unfold keys at e
  rw [List.length_map, List.length_map] at e
  exact e
theorem keys_at {os ss : List Ship} (h : keys ss = keys os) {i : Nat} {o : Ship} (hi : os[i]? = some o) : ∃ l, ss[i]? = some (o.1, o.2.1, l) := by
  have e : (keys os)[i]? = some (o.1, o.2.1) := by
    unfold keys
    rw [List.getElem?_map, hi]
    rfl
  rw [← h] at e
  unfold keys at e
  rw [List.getElem?_map] at e
  cases f : ss[i]? with
  | none => rw [f] at e; cases e
  | some s =>
    rw [f] at e
    obtain ⟨x, y, z⟩ := s
    have e' := Option.some.inj e
    simp only [Prod.mk.injEq] at e'
    exact ⟨z, by rw [e'.1, e'.2]⟩
theorem names_keys {ss : List Ship} : ss.map (·.1) = (keys ss).map (·.1) := by
  unfold keys
  rw [List.map_map]
  rfl
theorem set_mid {os ss : List Ship} {i : Nat} {s : Ship} (hl : ss.length = os.length) (hs : ss[i]? = some s) : (ss.take i ++ os.drop i).set i s = ss.take (i + 1) ++ os.drop (i + 1) := by
  have hi := (List.getElem?_eq_some_iff.mp hs).1
  have e1 : (ss.take i).length = i := by rw [List.length_take]; omega
  have e2 : os.drop i = os[i]'(by omega) :: os.drop (i + 1) := List.drop_eq_getElem_cons _
  rw [take_more hs, List.set_append_right _ _ (by omega), e1, Nat.sub_self, e2, List.set_cons_zero, List.append_assoc]
  rfl
theorem mid_at {os ss : List Ship} {i : Nat} {o : Ship} (hl : ss.length = os.length) (ho : os[i]? = some o) : (ss.take i ++ os.drop i)[i]? = some o := by
  have hi := (List.getElem?_eq_some_iff.mp ho).1
  have e1 : (ss.take i).length = i := by rw [List.length_take]; omega
  rw [List.getElem?_append_right (by omega), e1, Nat.sub_self, List.getElem?_drop]
  exact ho
theorem mid_names {os ss : List Ship} {i : Nat} (h : keys ss = keys os) : (ss.take i ++ os.drop i).map (·.1) = os.map (·.1) := by
  have e : ss.map (·.1) = os.map (·.1) := by rw [names_keys, names_keys, h]
  rw [List.map_append, List.map_take, List.map_drop, e, ← List.map_take, ← List.map_drop, ← List.map_append, List.take_append_drop]
theorem moves_more {os ss : List Ship} {i : Nat} {o s : Ship} (ho : os[i]? = some o) (hs : ss[i]? = some s) : movesOf (os.take (i + 1)) (ss.take (i + 1)) = movesOf (os.take i) (ss.take i) ++ (if s.2.2 = o.2.2 then [] else [(o.1, o.2.2, s.2.2)]) := by
  have h1 := (List.getElem?_eq_some_iff.mp ho).1
  have h2 := (List.getElem?_eq_some_iff.mp hs).1
  unfold movesOf
  rw [take_more ho, take_more hs, List.zip_append (by rw [List.length_take, List.length_take]; omega), List.filterMap_append]
  congr 1
  by_cases z : s.2.2 = o.2.2
  · simp [z]
  · simp [z]
def sp_M_leave (K : PySem.W.Frag) (a : Ad) (b : Bool) : Sp := fun vs H Q E => ∃ (p d : Addr) (n : Nat) (ss : List Ship) (x : V), vs = [.ref p, x] ∧ QuayAt K (a.cls b) H p d n ss ∧ ChkS K a ss x H E fun t => ∃ ss' : List Ship, Laid b n ss' ∧ keys ss' = keys (others t ss) ∧
  ∀ (l : Addr) (H' : Hp) (rs : List V), H l = none → (∀ c o, H c = some o → c ≠ d → H' c = some o) → QuayAt K (a.cls b) H' p d n ss' → H' l = some (.lst rs) → TrAt K H' rs (movesOf (others t ss) ss') → Q (.ref l) H'
abbrev N_Q_leave : List Str := ["self", "name", "held", "moves", "other", "wish", "ahead", "now"]
def t_Q_leave (K : PySem.W.Frag) (a : Ad) (E : XK) : TS :=
  (tSeq (tDrop (tMethB a.cls "_check_there" (fun b => sp_M_check_there K a b) (fun _ => E) (tVar 0) (tCons (tVar 1) tNil)))
    (tSeq (sDDel (tFld K (tVar 0) "_ships") (tVar 1))
    (tSeq (tAsg (tOp rRep (tLst (tCons (tC (.bl false)) tNil)) (tOp rAddI (tFld K (tVar 0) "_berths") (tC (.int 1)))) (gName 2))
    (tSeq (tAsg (tLst tNil) (gName 3))
    (tSeq (tFor (iList K (tMethB a.cls "all_ships" (fun b => sp_M_all_ships K a b) (fun _ => E0) (tVar 0) tNil)) (gTup K 3 (gCons (gName 4) (gCons (gName 5) (gCons (gName 6) gNil))))
    (tSeq (tAsg (tMethB a.cls "_first_free" (fun b => sp_M_first_free K a b) (fun _ => E0) (tVar 0) (tCons (tVar 2) (tCons (tVar 5) tNil))) (gName 7))
    (tSeq (tAsg (tC (.bl true)) (gSub (tVar 2) (tVar 7) rSetL))
    (tSeq (tAsg (tTup (tCons (tVar 5) (tCons (tVar 7) tNil))) (gSub (tFld K (tVar 0) "_ships") (tVar 4) rSetD))
    (tIfS (tTest (tOp rNe (tVar 7) (tVar 6))) (tDrop (tBM K "list" rAppend (tVar 3) (tCons (tTup (tCons (tVar 4) (tCons (tVar 6) (tCons (tVar 7) tNil)))) tNil))) tNext)))))
    (tRet (tVar 3)))))))
theorem len_M_leave {K : PySem.W.Frag} {a : Ad} {b : Bool} {vs : List V} {H : Hp} {Q : VK} {E : XK} (h : sp_M_leave K a b vs H Q E) : vs.length = 2 := by
  obtain ⟨p, d, n, ss, x, rfl, _⟩ := h
  rfl
theorem pu_Q_leave {K : PySem.W.Frag} {a : Ad} {b : Bool} {vs : List V} {H : Hp} {Q : VK} {E : XK} (TC : ClsT K a b) (h : sp_M_leave K a b vs H Q E) : t_Q_leave K a E { nx := fun _ H' => Q .non H', rt := Q } (start N_Q_leave vs) H := by
  obtain ⟨p, d, n, ss, x, rfl, S, h⟩ := h
  obtain ⟨dx, h1⟩ := S.ob
  have hn := S.n1
  refine ⟨_, rfl, b, p, dx, _, rfl, h1, by rfl, x, rfl, p, d, n, ss, x, rfl, S, ChkN.imp h fun t e g r => ?_⟩
  subst e
  rcases r with r | ⟨hm, ss', L, hk, q⟩
  · exact .inl r
  refine .inr ⟨hm, ?_⟩
  obtain ⟨kvs, h2, h3⟩ := S.dc
  obtain ⟨s0, _, _, t0, e0, _⟩ := (kv_look h3 t).2 hm
  have hnd := S.ne
  -- del self._ships[name]
  refine ⟨_, rfl, p, _, dx, _, _, rfl, h1, TC.cl, TC.nS, flds_s, _, rfl, d, kvs, Sum.inr t, rfl, h2, rfl, (by rw [e0]; rfl), ?_⟩
  generalize hos : others t ss = os at *
  have ndo : (os.map (·.1)).Nodup := by
    rw [← hos]
    unfold others
    exact List.Nodup.sublist (List.Sublist.map _ List.filter_sublist) S.nd
  have rgo : ∀ s ∈ os, 1 ≤ s.2.1 ∧ s.2.1 ≤ n ∧ 1 ≤ s.2.2 ∧ s.2.2 ≤ n := fun s hs => S.rg s (by rw [← hos] at hs; exact (List.mem_filter.mp hs).1)
  have lno : os.length ≤ 500 := by
    rw [← hos]
    exact Nat.le_trans (List.length_filter_le _ _) S.ln
  have k0 : ∀ c o, H c = some o → c ≠ d → (upd H d (.dK (dropK kvs (Sum.inr t : Key)))) c = some o := fun c o e ne => by rw [upd_ne ne]; exact e
  have K0 : KvAt K (upd H d (.dK (dropK kvs (Sum.inr t : Key)))) (dropK kvs (Sum.inr t : Key)) os := by
    rw [← hos]
    exact (kv_drop h3 t).nt (nt_dK h2) k0
  have hd0 : (upd H d (.dK (dropK kvs (Sum.inr t : Key)))) d = some (.dK (dropK kvs (Sum.inr t : Key))) := upd_same
  have none0 : ∀ {l : Addr}, (upd H d (.dK (dropK kvs (Sum.inr t : Key)))) l = none → H l = none := fun {l} e => by
    have : l ≠ d := fun z => by rw [z, upd_same] at e; cases e
    rw [upd_ne this] at e
    exact e
  have hp0 := k0 _ _ h1 hnd
  generalize (upd H d (.dK (dropK kvs (Sum.inr t : Key)))) = H0 at *
  generalize dropK kvs (Sum.inr t : Key) = kvs0 at *
  -- held, moves
  refine ⟨by decide, fun l0 nl0 => ⟨_, rfl, p, _, dx, _, _, rfl, same_new nl0 _ _ hp0, TC.cl, TC.nB, flds_b, _, 1, rfl, rfl, l0, _, _, rfl, rfl, upd_same, by omega, by omega, ?_, fun l1 nl1 => ?_⟩⟩
  · refine l1000 ?_
    show 1 * _ ≤ _
    omega
  have e1 : ((n : Int) + 1).toNat = n + 1 := by omega
  rw [e1, heldL_new]
  have s0 : Same H0 (upd H0 l0 (.lst [.bl false])) := same_new nl0
  have n1 : H0 l1 = none := s0.free nl1
  have s1 := s0.store n1 (o := .lst (heldL n fun _ => false))
  refine ⟨Nat.zero_le _, fun l2 nl2 => ?_⟩
  have n2 : H0 l2 = none := s1.free nl2
  have l12 : l1 ≠ l2 := ne_of_none upd_same nl2
  have s2 := s1.store n2 (o := .lst [])
  have S2 : QuayAt K (a.cls b) (upd (upd (upd H0 l0 (.lst [.bl false])) l1 (.lst (heldL n fun _ => false))) l2 (.lst [])) p d n os := ⟨⟨dx, s2 _ _ hp0⟩, ⟨kvs0, s2 _ _ hd0, K0.same s2⟩, ndo, rgo, hn, lno⟩
  have el1 : (upd (upd (upd H0 l0 (.lst [.bl false])) l1 (.lst (heldL n fun _ => false))) l2 (.lst [])) l1 = some (.lst (heldL n fun _ => false)) := by
    rw [upd_ne l12]
    exact upd_same
  have el2 : (upd (upd (upd H0 l0 (.lst [.bl false])) l1 (.lst (heldL n fun _ => false))) l2 (.lst [])) l2 = some (.lst []) := upd_same
  generalize (upd (upd (upd H0 l0 (.lst [.bl false])) l1 (.lst (heldL n fun _ => false))) l2 (.lst [])) = H2 at *
  have dl1 : d ≠ l1 := ne_of_none hd0 n1
  have dl2 : d ≠ l2 := ne_of_none hd0 n2
  have pl1 : p ≠ l1 := ne_of_none hp0 n1
  have pl2 : p ≠ l2 := ne_of_none hp0 n2
  refine ⟨_, rfl, b, p, dx, _, rfl, s2 _ _ hp0, by rfl, p, d, n, os, rfl, S2, fun la H3 rs0 nla s3 ela tr0 => ?_⟩
  have dla : d ≠ la := ne_of_none (s2 _ _ hd0) nla
  have pla : p ≠ la := ne_of_none (s2 _ _ hp0) nla
  have l1a : l1 ≠ la := ne_of_none el1 nla
  have l2a : l2 ≠ la := ne_of_none el2 nla
  have hl := keys_len hk
  refine ⟨la, rfl, ⟨_, sqL_of ela⟩, for_list (K := K) (a := la) (xs := rs0) (fun i σ H' => (∃ y4 y5 y6 y7, σ = [some (.ref p), some (.str t), some (.ref l1), some (.ref l2), y4, y5, y6, y7]) ∧ TKeep H3 H' ∧ (∀ c o, H c = some o → c ≠ d → H' c = some o) ∧
      H' la = some (.lst rs0) ∧ H' p = some (.ins (a.cls b) dx (flds n d)) ∧ H' l1 = some (.lst (heldL n (occS (ss'.take i)))) ∧ (∃ rs, H' l2 = some (.lst rs) ∧ TrAt K H' rs (movesOf (os.take i) (ss'.take i))) ∧ ∃ kvi, H' d = some (.dK kvi) ∧ kvi.length ≤ os.length ∧ KvAt K H' kvi (ss'.take i ++ os.drop i))
    ⟨⟨none, none, none, none, rfl⟩, tk_same (Same.refl _), fun c o e ne => s3 _ _ (s2 _ _ (k0 c o e ne)), ela, s3 _ _ (s2 _ _ hp0), s3 _ _ el1, ⟨[], s3 _ _ el2, .nil⟩, kvs0, s3 _ _ (s2 _ _ hd0), Nat.le_of_eq (pd_len K0), (K0.same s2).same s3⟩ (fun i σ H' _ h => sqL_of h.2.2.2.1) ?_ ?_⟩
  · rintro i v σ H4 hi ⟨⟨y4, y5, y6, y7, rfl⟩, tk, k4, ea, ep, e1', ⟨rs, er, tr⟩, kvi, ed, lk, kv⟩
    obtain ⟨o, ho, tt, ev, ht⟩ := pd_get tr0 hi
    subst ev
    obtain ⟨now, hs⟩ := keys_at hk ho
    have ff : ffq b n (occS (ss'.take i)) o.2.1 = some now := L i _ hs
    have ro := rgo o (List.mem_of_getElem? ho)
    obtain ⟨w1, w2, _⟩ := ffq_rg ff ro.1
    have hio := (List.getElem?_eq_some_iff.mp ho).1
    refine ⟨tt, _, rfl, seqT_tk tk ht, rfl, _, _, rfl, _, _, rfl, _, _, rfl, rfl, ?_⟩
    refine ⟨_, rfl, b, p, dx, _, rfl, ep, by rfl, _, rfl, _, rfl, p, dx, l1, _, n, occS (ss'.take i), o.2.1, rfl, ep, sqL_of e1', by omega, by omega, by omega, ?_⟩
    rw [ff]
    refine ⟨.ref l1, rfl, .int now, rfl, l1, _, now, now.toNat, rfl, rfl, e1', ?_, ?_⟩
    · unfold ixN
      rw [if_pos (by omega), heldL_len, if_pos (by omega)]
    rw [heldL_set (by omega) w2]
    have eh : setO (occS (ss'.take i)) now = occS (ss'.take (i + 1)) := by rw [take_more hs, occS_snoc]
    rw [eh]
    refine ⟨.int o.2.1, rfl, .int now, rfl, (by show 2 ≤ sizeLine; decide), fun tp ntp => ?_⟩
    -- the facts of the heap behind held[now] = True
    have tkA : TKeep H4 (upd H4 l1 (.lst (heldL n (occS (ss'.take (i + 1)))))) := tk_upd (nt_lst e1')
    have kA : ∀ c o, H c = some o → c ≠ d → (upd H4 l1 (.lst (heldL n (occS (ss'.take (i + 1)))))) c = some o := fun c o e ne => by
      have : c ≠ l1 := ne_of_none e (none0 n1)
      rw [upd_ne this]
      exact k4 c o e ne
    have eaA : (upd H4 l1 (.lst (heldL n (occS (ss'.take (i + 1)))))) la = some (.lst rs0) := by rw [upd_ne l1a.symm]; exact ea
    have epA : (upd H4 l1 (.lst (heldL n (occS (ss'.take (i + 1)))))) p = some (.ins (a.cls b) dx (flds n d)) := by rw [upd_ne pl1]; exact ep
    have e1A : (upd H4 l1 (.lst (heldL n (occS (ss'.take (i + 1)))))) l1 = some (.lst (heldL n (occS (ss'.take (i + 1))))) := upd_same
    have erA : (upd H4 l1 (.lst (heldL n (occS (ss'.take (i + 1)))))) l2 = some (.lst rs) := by rw [upd_ne l12.symm]; exact er
    have edA : (upd H4 l1 (.lst (heldL n (occS (ss'.take (i + 1)))))) d = some (.dK kvi) := by rw [upd_ne dl1]; exact ed
    have trA := tr.tk tkA
    have kvA := kv.tk tkA
    replace tk := tk.trans tkA
    clear tkA e1' er ed ea ep
    generalize (upd H4 l1 (.lst (heldL n (occS (ss'.take (i + 1)))))) = HA at *
    -- a new tuple
    have sB : Same HA (upd HA tp (.tup [.int o.2.1, .int now])) := same_new ntp
    have htB : SqT K (upd HA tp (.tup [.int o.2.1, .int now])) tp [.int o.2.1, .int now] := sqT_of upd_same
    replace tk := tk.trans (tk_same sB)
    have trB := trA.same sB
    have kvB := kvA.same sB
    have kB : ∀ c o', H c = some o' → c ≠ d → (upd HA tp (.tup [.int o.2.1, .int now])) c = some o' := fun c o' e ne => sB _ _ (kA c o' e ne)
    replace eaA := sB _ _ eaA
    replace epA := sB _ _ epA
    replace e1A := sB _ _ e1A
    replace erA := sB _ _ erA
    replace edA := sB _ _ edA
    clear sB trA kvA kA ntp
    generalize (upd HA tp (.tup [.int o.2.1, .int now])) = HB at *
    refine ⟨_, rfl, p, _, dx, _, _, rfl, epA, TC.cl, TC.nS, flds_s, _, rfl, d, _, rfl, DPut.k (k := Sum.inr o.1) edA (small1000 (by omega)), ?_⟩
    -- the ship's place in the dict
    have ndm : ((ss'.take i ++ os.drop i).map (·.1)).Nodup := by rw [mid_names hk]; exact ndo
    have kvC := kv_put kvB ndm (mid_at hl ho) (s' := ((o.1, o.2.1, now) : Ship)) rfl htB
    rw [set_mid hl hs] at kvC
    have tkC : TKeep HB (upd HB d (.dK (putK kvi (Sum.inr o.1) (.ref tp)))) := tk_upd (nt_dK edA)
    have kC : ∀ c o', H c = some o' → c ≠ d → (upd HB d (.dK (putK kvi (Sum.inr o.1) (.ref tp)))) c = some o' := fun c o' e ne => by
      rw [upd_ne ne]
      exact kB c o' e ne
    have eaC : (upd HB d (.dK (putK kvi (Sum.inr o.1) (.ref tp)))) la = some (.lst rs0) := by rw [upd_ne dla.symm]; exact eaA
    have epC : (upd HB d (.dK (putK kvi (Sum.inr o.1) (.ref tp)))) p = some (.ins (a.cls b) dx (flds n d)) := by rw [upd_ne hnd]; exact epA
    have e1C : (upd HB d (.dK (putK kvi (Sum.inr o.1) (.ref tp)))) l1 = some (.lst (heldL n (occS (ss'.take (i + 1))))) := by rw [upd_ne dl1.symm]; exact e1A
    have erC : (upd HB d (.dK (putK kvi (Sum.inr o.1) (.ref tp)))) l2 = some (.lst rs) := by rw [upd_ne dl2.symm]; exact erA
    have edC : (upd HB d (.dK (putK kvi (Sum.inr o.1) (.ref tp)))) d = some (.dK (putK kvi (Sum.inr o.1) (.ref tp))) := upd_same
    have trC := trB.tk tkC
    replace kvC := kvC.tk tkC
    have lkC : (putK kvi (Sum.inr o.1 : Key) (.ref tp)).length ≤ os.length := by
      rw [pd_len kvC, List.length_append, List.length_take, List.length_drop]
      omega
    replace tk := tk.trans tkC
    clear tkC kB eaA epA e1A erA edA trB kvB htB
    generalize (upd HB d (.dK (putK kvi (Sum.inr o.1) (.ref tp)))) = HC at *
    have mm := moves_more ho hs
    refine ⟨.int now, rfl, .int o.2.2, rfl, rfl, _, rfl, ?_⟩
    by_cases z : now = o.2.2
    · have ez : (!decide (V.int now = V.int o.2.2)) = false := by simp [z]
      rw [ez]
      refine iteF ⟨⟨_, _, _, _, rfl⟩, tk, kC, eaC, epC, e1C, ⟨rs, erC, ?_⟩, _, edC, lkC, kvC⟩
      rw [mm, if_pos z, List.append_nil]
      exact trC
    · have ez : (!decide (V.int now = V.int o.2.2)) = true := by simp [z]
      rw [ez]
      refine iteT ⟨.ref l2, rfl, .inl ⟨rfl, _, sqL_of erC⟩, _, rfl, _, rfl, _, rfl, (by show 3 ≤ sizeLine; decide), fun tq ntq => ?_⟩
      have sD : Same HC (upd HC tq (.tup [.str o.1, .int o.2.2, .int now])) := same_new ntq
      have htD : SqT K (upd HC tq (.tup [.str o.1, .int o.2.2, .int now])) tq [.str o.1, .int o.2.2, .int now] := sqT_of upd_same
      have lr : rs.length < sizeLine := by
        have e1 := pd_len trC
        have e2 : (movesOf (os.take i) (ss'.take i)).length ≤ 500 := by
          unfold movesOf
          refine Nat.le_trans (List.length_filterMap_le _ _) ?_
          rw [List.length_zip, List.length_take, List.length_take]
          omega
        rw [e1]
        exact small1000 (by omega)
      refine ⟨l2, _, _, rfl, rfl, sD _ _ erC, lr, ?_⟩
      have tkE : TKeep (upd HC tq (.tup [.str o.1, .int o.2.2, .int now])) (upd (upd HC tq (.tup [.str o.1, .int o.2.2, .int now])) l2 (.lst (rs ++ [.ref tq]))) := tk_upd (nt_lst (sD _ _ erC))
      have tkF := (tk_same sD).trans tkE
      refine ⟨⟨_, _, _, _, rfl⟩, tk.trans tkF, fun c o' e ne => ?_, ?_, ?_, ?_, ⟨_, upd_same, ?_⟩, _, ?_, lkC, kvC.tk tkF⟩
      · have : c ≠ l2 := ne_of_none e (none0 n2)
        rw [upd_ne this]
        exact sD _ _ (kC c o' e ne)
      · rw [upd_ne l2a.symm]
        exact sD _ _ eaC
      · rw [upd_ne pl2]
        exact sD _ _ epC
      · rw [upd_ne l12]
        exact sD _ _ e1C
      · rw [mm, if_neg z]
        exact pd_snoc (a := V.ref tq) (b := ((o.1, o.2.2, now) : Ship)) (trC.tk tkF) ⟨tq, rfl, seqT_tk tkE htD⟩
      · rw [upd_ne dl2]
        exact sD _ _ edC
  · rintro σ H4 ⟨⟨y4, y5, y6, y7, rfl⟩, tk, k4, ea, ep, e1', ⟨rs, er, tr⟩, kvi, ed, lk, kv⟩
    rw [pd_len tr0] at tr kv
    rw [List.take_length, ← hl, List.take_length] at tr
    rw [← hl, List.take_length, hl, List.drop_length, List.append_nil] at kv
    refine ⟨_, rfl, q l2 H4 rs (none0 n2) k4 ⟨⟨dx, ep⟩, ⟨kvi, ed, kv⟩, ?_, ?_, hn, ?_⟩ er tr⟩
    · rw [names_keys, hk, ← names_keys]
      exact ndo
    · intro s hs
      obtain ⟨i, hi⟩ := List.getElem?_of_mem hs
      have e : (keys os)[i]? = some (s.1, s.2.1) := by
        rw [← hk]
        unfold keys
        rw [List.getElem?_map, hi]
        rfl
      unfold keys at e
      rw [List.getElem?_map] at e
      cases f : os[i]? with
      | none => rw [f] at e; cases e
      | some o =>
        rw [f] at e
        have e2 : o.2.1 = s.2.1 := congrArg (·.2) (Option.some.inj e)
        have ro := rgo o (List.mem_of_getElem? f)
        rw [e2] at ro
        obtain ⟨w1, w2, _⟩ := ffq_rg (L i s hi) ro.1
        exact ⟨ro.1, ro.2.1, w1, w2⟩
    · omega
/-! the object of each method that a round quay hands on -/
def SelfAt (C : Addr) (vs : List V) (H : Hp) : Prop := ∃ p dx fs rest, vs = V.ref p :: rest ∧ H p = some (.ins C dx fs)
theorem self_come {K : PySem.W.Frag} {a : Ad} {b : Bool} {vs : List V} {H : Hp} {Q : VK} {E : XK} (h : sp_M_come K a b vs H Q E) : SelfAt (a.cls b) vs H := by
  obtain ⟨p, d, n, ss, x, w, rfl, S, _⟩ := h
  obtain ⟨dx, h1⟩ := S.ob
  exact ⟨_, _, _, _, rfl, h1⟩
theorem self_leave {K : PySem.W.Frag} {a : Ad} {b : Bool} {vs : List V} {H : Hp} {Q : VK} {E : XK} (h : sp_M_leave K a b vs H Q E) : SelfAt (a.cls b) vs H := by
  obtain ⟨p, d, n, ss, x, rfl, S, _⟩ := h
  obtain ⟨dx, h1⟩ := S.ob
  exact ⟨_, _, _, _, rfl, h1⟩
theorem self_where {K : PySem.W.Frag} {a : Ad} {b : Bool} {vs : List V} {H : Hp} {Q : VK} {E : XK} (h : sp_M_where K a b vs H Q E) : SelfAt (a.cls b) vs H := by
  obtain ⟨p, d, n, ss, x, rfl, S, _⟩ := h
  obtain ⟨dx, h1⟩ := S.ob
  exact ⟨_, _, _, _, rfl, h1⟩
theorem self_all_ships {K : PySem.W.Frag} {a : Ad} {b : Bool} {vs : List V} {H : Hp} {Q : VK} {E : XK} (h : sp_M_all_ships K a b vs H Q E) : SelfAt (a.cls b) vs H := by
  obtain ⟨p, d, n, ss, rfl, S, _⟩ := h
  obtain ⟨dx, h1⟩ := S.ob
  exact ⟨_, _, _, _, rfl, h1⟩
theorem self_free_ones {K : PySem.W.Frag} {a : Ad} {b : Bool} {vs : List V} {H : Hp} {Q : VK} {E : XK} (h : sp_M_free_ones K a b vs H Q E) : SelfAt (a.cls b) vs H := by
  obtain ⟨p, d, n, ss, rfl, S, _⟩ := h
  obtain ⟨dx, h1⟩ := S.ob
  exact ⟨_, _, _, _, rfl, h1⟩
theorem self_size {K : PySem.W.Frag} {a : Ad} {b : Bool} {vs : List V} {H : Hp} {Q : VK} {E : XK} (h : sp_M_size K a b vs H Q E) : SelfAt (a.cls b) vs H := by
  obtain ⟨p, d, n, ss, rfl, S, _⟩ := h
  obtain ⟨dx, h1⟩ := S.ob
  exact ⟨_, _, _, _, rfl, h1⟩

/-! ### the mathematics of a quay that is kept -/
def rngL (lo : Int) (k : Nat) : List Int := (List.range k).map fun (j : Nat) => lo + (j : Int)
theorem rngL_succ {lo : Int} {k : Nat} : rngL lo (k + 1) = lo :: rngL (lo + 1) k := by
  unfold rngL
  rw [List.range_succ_eq_map, List.map_cons, List.map_map]
  congr 1
  · simp
  · refine List.map_congr_left fun j _ => ?_
    show lo + ((j + 1 : Nat) : Int) = lo + 1 + (j : Int)
    omega
theorem rngL_split {lo : Int} {a b : Nat} : rngL lo (a + b) = rngL lo a ++ rngL (lo + a) b := by
  unfold rngL
  rw [List.range_add, List.map_append, List.map_map]
  congr 1
  refine List.map_congr_left fun j _ => ?_
  show lo + ((a + j : Nat) : Int) = lo + a + (j : Int)
  omega
theorem rngL_at {lo x : Int} {k i : Nat} (h : (rngL lo k)[i]? = some x) : x = lo + (i : Int) ∧ i < k := by
  unfold rngL at h
  obtain ⟨h1, h2⟩ := List.getElem?_eq_some_iff.mp h
  rw [List.getElem_map, List.getElem_range] at h2
  exact ⟨h2.symm, by simpa using h1⟩
theorem rngL_len {lo : Int} {k : Nat} : (rngL lo k).length = k := by simp [rngL]
/-- the berths in the order in which a ship looks at them -/
def wayL (b : Bool) (n : Nat) (w : Int) : List Int := rngL w ((n : Int) + 1 - w).toNat ++ (if b = true then rngL 1 (w - 1).toNat else [])
theorem ffr_way {occ : Int → Bool} : ∀ (k : Nat) (w : Int), ffr occ k w = (rngL w k).find? fun x => !occ x
  | 0, w => rfl
  | k + 1, w => by
    unfold ffr
    rw [rngL_succ, List.find?_cons, ← ffr_way k (w + 1)]
    cases e : occ w with
    | true => rw [if_pos rfl]; rfl
    | false => rw [if_neg Bool.false_ne_true]; rfl
theorem ffq_way {b : Bool} {n : Nat} {occ : Int → Bool} {w : Int} (h1 : 1 ≤ w) (h2 : w ≤ n) : ffq b n occ w = (wayL b n w).find? fun x => !occ x := by
  unfold ffq wayL
  cases b with
  | false =>
    rw [if_neg Bool.false_ne_true, if_neg Bool.false_ne_true, List.append_nil]
    exact ffr_way _ _
  | true =>
    rw [if_pos rfl, if_pos rfl, List.find?_append, ← ffr_way]
    show rfree n occ w = _
    unfold rfree
    have e0 : ffr occ ((n : Int) + 1 - w).toNat w = ffree n occ w := rfl
    rw [e0]
    cases e : ffree n occ w with
    | some c => rfl
    | none =>
      show ffree n occ 1 = _
      have es : ((n : Int) + 1 - 1).toNat = (w - 1).toNat + ((n : Int) + 1 - w).toNat := by omega
      have e2 : ffree n occ 1 = (rngL 1 ((n : Int) + 1 - 1).toNat).find? fun x => !occ x := ffr_way _ _
      rw [e2, es, rngL_split, List.find?_append]
      have ew : (1 : Int) + ((w - 1).toNat : Nat) = w := by omega
      rw [ew, ← ffr_way (((n : Int) + 1 - w).toNat), e0, e, Option.or_none]
      rfl
theorem way_pos {b : Bool} {n : Nat} {w x : Int} {k : Nat} (h1 : 1 ≤ w) (h2 : w ≤ n) (h : (wayL b n w)[k]? = some x) : (x - w) % n = k ∧ (b = false → w ≤ x) := by
  unfold wayL at h
  by_cases c : k < ((n : Int) + 1 - w).toNat
  · rw [List.getElem?_append_left (by rw [rngL_len]; exact c)] at h
    obtain ⟨e, _⟩ := rngL_at h
    refine ⟨?_, fun _ => by omega⟩
    rw [show x - w = (k : Int) by omega]
    exact Int.emod_eq_of_lt (by omega) (by omega)
  · rw [List.getElem?_append_right (by rw [rngL_len]; omega), rngL_len] at h
    cases b with
    | false =>
      rw [if_neg Bool.false_ne_true] at h
      cases h
    | true =>
      rw [if_pos rfl] at h
      obtain ⟨e, hk⟩ := rngL_at h
      refine ⟨?_, fun z => by cases z⟩
      have e2 : x - w = (k : Int) - n := by omega
      rw [e2, Int.sub_emod_right]
      exact Int.emod_eq_of_lt (by omega) (by omega)
theorem find_hole {occ : Int → Bool} {h l : Int} (hh : occ h = false) : ∀ {L : List Int}, L.find? (fun x => !setO occ h x) = some l → ∃ l', L.find? (fun x => !occ x) = some l' ∧ (l' = l ∨ (l' = h ∧ ∃ i j : Nat, i < j ∧ L[i]? = some h ∧ L[j]? = some l))
  | [], f => by cases f
  | x :: r, f => by
    rw [List.find?_cons] at f
    by_cases e : x = h
    · subst e
      have e1 : (!setO occ x x) = false := by simp [setO]
      rw [e1] at f
      refine ⟨_, by rw [List.find?_cons, hh]; rfl, .inr ⟨rfl, ?_⟩⟩
      obtain ⟨j, hj⟩ := List.getElem?_of_mem (List.mem_of_find?_eq_some f)
      exact ⟨0, j + 1, by omega, rfl, hj⟩
    · have e1 : setO occ h x = occ x := by simp [setO, e]
      rw [e1] at f
      cases o : occ x with
      | false =>
        rw [o] at f
        cases f
        exact ⟨_, by rw [List.find?_cons, o]; rfl, .inl rfl⟩
      | true =>
        rw [o] at f
        obtain ⟨l', f', k⟩ := find_hole hh f
        refine ⟨l', by rw [List.find?_cons, o]; exact f', ?_⟩
        rcases k with k | ⟨k, i, j, ij, h1, h2⟩
        · exact .inl k
        · exact .inr ⟨k, i + 1, j + 1, by omega, h1, h2⟩
/-- y is nearer to the wish w than x, on its way from there -/
def Near (b : Bool) (n : Nat) (w x y : Int) : Prop := (y - w) % n < (x - w) % n ∧ (b = false → w ≤ y)
theorem laid_snoc {b : Bool} {n : Nat} {ss : List Ship} {s : Ship} : Laid b n (ss ++ [s]) ↔ Laid b n ss ∧ ffq b n (occS ss) s.2.1 = some s.2.2 := by
  constructor
  · intro L
    refine ⟨fun i x hi => ?_, ?_⟩
    · have hl := (List.getElem?_eq_some_iff.mp hi).1
      have e := L i x (by rw [List.getElem?_append_left hl]; exact hi)
      rw [List.take_append_of_le_length (by omega)] at e
      exact e
    · have e := L ss.length s (by rw [List.getElem?_append_right (Nat.le_refl _), Nat.sub_self]; rfl)
      rw [List.take_left] at e
      exact e
  · rintro ⟨L, f⟩ i x hi
    by_cases c : i < ss.length
    · rw [List.getElem?_append_left c] at hi
      rw [List.take_append_of_le_length (by omega)]
      exact L i x hi
    · rw [List.getElem?_append_right (by omega)] at hi
      have c2 : i = ss.length := by
        have := (List.getElem?_eq_some_iff.mp hi).1
        simp at this
        omega
      subst c2
      rw [Nat.sub_self] at hi
      cases hi
      rw [List.take_left]
      exact f
theorem laid_nil {b : Bool} {n : Nat} : Laid b n [] := fun i s h => by cases h
theorem keys_snoc {ss : List Ship} {s : Ship} : keys (ss ++ [s]) = keys ss ++ [(s.1, s.2.1)] := by
  unfold keys
  rw [List.map_append]
  rfl
theorem snoc_at {α : Type} {l : List α} {x y : α} {i : Nat} (h : (l ++ [x])[i]? = some y) : (l[i]? = some y ∧ i < l.length) ∨ (i = l.length ∧ y = x) := by
  by_cases c : i < l.length
  · rw [List.getElem?_append_left c] at h
    exact .inl ⟨h, c⟩
  · rw [List.getElem?_append_right (by omega)] at h
    have := (List.getElem?_eq_some_iff.mp h).1
    simp at this
    have c2 : i = l.length := by omega
    subst c2
    rw [Nat.sub_self] at h
    cases h
    exact .inr ⟨rfl, rfl⟩
def NearAll (b : Bool) (n : Nat) (os ss : List Ship) : Prop := ∀ (i : Nat) (o s : Ship), os[i]? = some o → ss[i]? = some s → s.2.2 = o.2.2 ∨ Near b n o.2.1 o.2.2 s.2.2
theorem near_snoc {b : Bool} {n : Nat} {os ss : List Ship} {o s : Ship} (hl : ss.length = os.length) (h : NearAll b n os ss) (k : s.2.2 = o.2.2 ∨ Near b n o.2.1 o.2.2 s.2.2) : NearAll b n (os ++ [o]) (ss ++ [s]) := by
  intro i x y hx hy
  rcases snoc_at hx with ⟨hx, c⟩ | ⟨c, rfl⟩
  · rcases snoc_at hy with ⟨hy, _⟩ | ⟨c2, _⟩
    · exact h i x y hx hy
    · omega
  · rcases snoc_at hy with ⟨hy, c2⟩ | ⟨_, rfl⟩
    · omega
    · exact k
theorem relaid {b : Bool} {n : Nat} {t : Str} : ∀ ss : List Ship, Laid b n ss → (ss.map (·.1)).Nodup → (∀ s ∈ ss, 1 ≤ s.2.1 ∧ s.2.1 ≤ n) →
    ∃ ss', Laid b n ss' ∧ keys ss' = keys (others t ss) ∧ NearAll b n (others t ss) ss' ∧ ((t ∉ ss.map (·.1) ∧ occS ss = occS ss') ∨ (t ∈ ss.map (·.1) ∧ ∃ h, occS ss = setO (occS ss') h ∧ occS ss' h = false)) := by
  refine snoc_ind ?_ ?_
  · intro _ _ _
    exact ⟨[], laid_nil, rfl, fun i o s h => (by cases h), .inl ⟨fun z => (by cases z), rfl⟩⟩
  · intro ss s ih L nd rg
    rw [laid_snoc] at L
    obtain ⟨L, f⟩ := L
    rw [List.map_append, List.nodup_append] at nd
    obtain ⟨nd1, _, nd2⟩ := nd
    have hs : s.1 ∉ ss.map (·.1) := fun h => nd2 s.1 h s.1 (by simp) rfl
    obtain ⟨ss', L', hk, near, oc⟩ := ih L nd1 fun x hx => rg x (List.mem_append_left _ hx)
    have w := rg s (List.mem_append_right _ (List.mem_singleton.mpr rfl))
    have hl := keys_len hk
    obtain ⟨g1, g2, g3⟩ := ffq_rg f w.1
    by_cases z : s.1 = t
    · have eo : others t (ss ++ [s]) = others t ss := by
        unfold others
        rw [List.filter_append]
        simp [z]
      rw [eo]
      rcases oc with ⟨_, e⟩ | ⟨hm, _⟩
      · refine ⟨ss', L', hk, near, .inr ⟨by rw [List.map_append, List.mem_append]; exact .inr (by simp [z]), s.2.2, ?_, ?_⟩⟩
        · rw [occS_snoc, e]
        · rw [← e]
          exact g3
      · exact absurd (z ▸ hm) hs
    · have eo : others t (ss ++ [s]) = others t ss ++ [s] := by
        unfold others
        rw [List.filter_append]
        simp [z]
      have tin : t ∈ (ss ++ [s]).map (·.1) ↔ t ∈ ss.map (·.1) := by
        rw [List.map_append, List.mem_append]
        constructor
        · rintro (h | h)
          · exact h
          · simp at h
            exact absurd h.symm z
        · exact .inl
      rw [eo]
      rcases oc with ⟨ht, e⟩ | ⟨ht, h, e, hh⟩
      · refine ⟨ss' ++ [s], laid_snoc.mpr ⟨L', by rw [← e]; exact f⟩, by rw [keys_snoc, keys_snoc, hk], near_snoc hl near (.inl rfl), .inl ⟨fun q => ht (tin.mp q), by rw [occS_snoc, occS_snoc, e]⟩⟩
      · rw [ffq_way w.1 w.2, e] at f
        obtain ⟨l', f', k⟩ := find_hole hh f
        rw [← ffq_way w.1 w.2] at f'
        have ne : h ≠ s.2.2 := fun q => by
          rw [e, ← q] at g3
          simp [setO] at g3
        refine ⟨ss' ++ [(s.1, s.2.1, l')], laid_snoc.mpr ⟨L', f'⟩, by rw [keys_snoc, keys_snoc, hk], near_snoc hl near ?_, .inr ⟨tin.mpr ht, ?_⟩⟩
        · rcases k with k | ⟨k, i, j, ij, hi, hj⟩
          · exact .inl k
          · right
            obtain ⟨p1, p2⟩ := way_pos w.1 w.2 hi
            obtain ⟨q1, q2⟩ := way_pos w.1 w.2 hj
            show (l' - s.2.1) % n < (s.2.2 - s.2.1) % n ∧ (b = false → s.2.1 ≤ l')
            rw [k, p1, q1]
            exact ⟨by omega, p2⟩
        · rcases k with k | ⟨k, _⟩
          · refine ⟨h, ?_, ?_⟩
            · rw [occS_snoc, occS_snoc, e, setO_comm]
              show _ = setO (setO (occS ss') l') h
              rw [k]
            · rw [occS_snoc]
              show setO (occS ss') l' h = false
              rw [k]
              simp [setO, hh, ne]
          · refine ⟨s.2.2, ?_, ?_⟩
            · rw [occS_snoc, occS_snoc, e]
              show _ = setO (setO (occS ss') l') s.2.2
              rw [k]
            · rw [occS_snoc]
              show setO (occS ss') l' s.2.2 = false
              rw [k, ← e]
              exact g3
/-! two layings of the same line are one -/
theorem laid_one {b : Bool} {n : Nat} : ∀ (ss : List Ship) {ss' : List Ship}, Laid b n ss → Laid b n ss' → keys ss = keys ss' → ss = ss' := by
  refine snoc_ind ?_ ?_
  · intro ss' _ _ h
    have := keys_len h
    rw [List.length_nil] at this
    exact (List.length_eq_zero_iff.mp this.symm).symm
  · intro ss s ih ss' L L' h
    have hl := keys_len h
    rw [List.length_append] at hl
    have hne : ss' ≠ [] := fun z => by rw [z] at hl; simp at hl
    have e := List.dropLast_concat_getLast hne
    generalize ss'.dropLast = r at e
    generalize ss'.getLast hne = x at e
    subst e
    rw [laid_snoc] at L L'
    rw [keys_snoc, keys_snoc] at h
    obtain ⟨h1, h2⟩ := List.append_inj' h rfl
    have e1 := ih L.1 L'.1 h1
    subst e1
    obtain ⟨x1, x2, x3⟩ := x
    obtain ⟨s1, s2, s3⟩ := s
    have e2 := (List.cons.inj h2).1
    simp only [Prod.mk.injEq] at e2
    have f1 := L.2
    have f2 := L'.2
    simp only at f1 f2
    rw [← e2.2, f1] at f2
    cases f2
    rw [e2.1, e2.2]

/-! ### mixed numbers, an order of so many -/
def sp_l_mix (K : PySem.W.Frag) : Sp := fun vs H Q _ => ∃ (p : Addr) (st c : Int), vs = [.ref p, .int c] ∧ H p = some (.lst [.int st]) ∧ 0 ≤ st ∧ st < 2147483647 ∧ ∀ st' r : Int, 0 ≤ st' → st' < 2147483647 → 0 ≤ r → r < 2147483647 → Q (.int r) (upd H p (.lst [.int st']))
abbrev N_l_mix : List Str := ["_law_state", "_law_cell"]
def t_l_mix (K : PySem.W.Frag) (a : Ad) : TS :=
  (tSeq (tAsg (tOp rModI (tOp rAddI (tOp rAddI (tOp rMulI (tOp (rIxL K) (tVar 0) (tC (.int 0))) (tC (.int 48271))) (tOp rMulI (tVar 1) (tC (.int 16807)))) (tC (.int 11))) (tC (.int 2147483647))) (gSub (tVar 0) (tC (.int 0)) rSetL))
    (tRet (tOp rDivI (tOp rModI (tOp rMulI (tOp (rIxL K) (tVar 0) (tC (.int 0))) (tOp (rIxL K) (tVar 0) (tC (.int 0)))) (tC (.int 2147483647))) (tC (.int 5)))))
theorem len_l_mix {K : PySem.W.Frag} {vs : List V} {H : Hp} {Q : VK} {E : XK} (h : sp_l_mix K vs H Q E) : vs.length = 2 := by
  obtain ⟨p, st, c, rfl, _⟩ := h
  rfl
theorem d5 {n : Int} : CDiv n 5 := ⟨by decide, by decide⟩
theorem pmix : (0 : Int) < 2147483647 := by decide
theorem pu_l_mix {K : PySem.W.Frag} {a : Ad} {vs : List V} {H : Hp} {Q : VK} {E : XK} (h : sp_l_mix K vs H Q E) : t_l_mix K a { nx := fun _ H' => Q .non H', rt := Q } (start N_l_mix vs) H := by
  obtain ⟨p, st, c, rfl, hp, h0, h1, q⟩ := h
  refine ⟨.ref p, rfl, p, _, 0, .int st, rfl, rfl, sqL_of hp, atI_nat (j := 0) rfl, st, 48271, rfl, rfl, .inr ⟨by decide, by decide⟩, .int c, rfl, c, 16807, rfl, rfl, .inr ⟨by decide, by decide⟩, _, _, rfl, rfl, _, 11, rfl, rfl, _, 2147483647, rfl, rfl, pmix, .ref p, rfl, p, _, 0, 0, rfl, rfl, hp, rfl, ?_⟩
  have b1 := Int.emod_nonneg (st * 48271 + c * 16807 + 11) (show (2147483647 : Int) ≠ 0 by decide)
  have b2 := Int.emod_lt_of_pos (st * 48271 + c * 16807 + 11) pmix
  refine ⟨.ref p, rfl, p, _, 0, .int ((st * 48271 + c * 16807 + 11) % 2147483647), rfl, rfl, sqL_of upd_same, atI_nat (j := 0) rfl, .ref p, rfl, p, _, 0, .int ((st * 48271 + c * 16807 + 11) % 2147483647), rfl, rfl, sqL_of upd_same, atI_nat (j := 0) rfl, _, _, rfl, rfl, .inl ⟨by omega, by omega⟩, _, 2147483647, rfl, rfl, pmix, _, 5, rfl, rfl, d5, ?_⟩
  have c1 := Int.emod_nonneg (((st * 48271 + c * 16807 + 11) % 2147483647) * ((st * 48271 + c * 16807 + 11) % 2147483647)) (show (2147483647 : Int) ≠ 0 by decide)
  have c2 := Int.emod_lt_of_pos (((st * 48271 + c * 16807 + 11) % 2147483647) * ((st * 48271 + c * 16807 + 11) % 2147483647)) pmix
  generalize (((st * 48271 + c * 16807 + 11) % 2147483647) * ((st * 48271 + c * 16807 + 11) % 2147483647)) % 2147483647 = u at c1 c2
  exact q _ _ b1 b2 (by omega) (by omega)
theorem rg_upTo {m : Nat} : rgV 0 (m : Int) = (upTo 0 m).map V.int := by
  unfold rgV upTo
  rw [List.map_map]
  have e : ((m : Int) - 0).toNat = m := by omega
  rw [e]
  rfl
theorem pop_perm {l : List Int} {k : Nat} {y : Int} (h : l[k]? = some y) : (y :: l.eraseIdx k).Perm l := by
  induction l generalizing k with
  | nil => simp at h
  | cons x r ih =>
    cases k with
    | zero =>
      cases h
      exact List.Perm.refl _
    | succ k => exact (List.Perm.swap x y _).trans ((ih (k := k) (by simpa using h)).cons x)
/-! ### a list comprehension out of whose element an exception may come -/
abbrev blkX (X : Cx) (s : Shared) (H : Hp) (scope : Scope) (ce : Env) (fp : List Addr) (E : Value → Shared → Prop) : Cx := (X.blk s H scope ce fp).wish E
theorem note_env {v : Value} {e1 e2 : Env} (h : e1.frame = e2.frame) : noteFrame v e1 = noteFrame v e2 := by
  unfold noteFrame PySem.frameOf
  rw [h]
theorem ns_up {h h' : Heap} {C : Addr} {m : Str → Option Value} (n : h.Ns C m) (up : h.UpToSlots h') : h'.Ns C m := by
  obtain ⟨o, es, ep, e1, e2, r⟩ := n
  obtain ⟨sl, e3⟩ := up C o e1 fun vs z => by rw [e2] at z; cases z
  exact ⟨_, es, ep, e3, e2, r⟩
theorem hid_ne {B : Heap} {C b : Addr} {o : Obj} (e : (PySem.W.hideAll B [C]).get? b = some o) : b ≠ C ∧ B.get? b = some o := by
  refine ⟨fun z => ?_, PySem.W.of_hideAll _ e⟩
  rw [z, PySem.W.hideAll_none _ (List.mem_singleton.mpr rfl)] at e
  cases e
section
variable {X : Cx}
/-- an exception in the air of a def, out of the block C of a comprehension: noted, the block's names let go, thrown on -/
theorem comp_out {W0 : WX} (tk : Takes X W0) (hst : X.stack = X.env :: X.outer) (hfm : X.env.frame = some X.env.locals) {ce : Env} (hcf : ce.frame = X.env.frame) {H0 : Hp} (fo : FpOk X [] H0 ce.locals)
    {use : Option (Value → Sem Unit)} {Qf : Value → Shared → Prop} {acc u : Value} {s' : Shared} {m : Str → Option Value} (hn : s'.heap.Ns ce.locals m) (x : XE X (fun cls d σ H => W0 cls d σ H ∧ H ce.locals = none) u s') :
    notedBy (model X.prog X.w) X.A ce (fun e s2 => compEnds (model X.prog X.w) X.A X.xe use Qf acc ce (.error e) s2) u s' := by
  obtain ⟨a, B, sI, pins, σ, H, cls, d, rfl, I, nb, up, sky, na, os, ag, w, hC⟩ := x
  have hfr : X.A.frames = some (X.env :: X.outer) := by rw [I.ok.frames, hst]
  obtain ⟨f0, f1, f2, f3, f4, f5⟩ := fo
  have held : ∀ h1, HandSPX.HeldZ B (X.env :: X.outer) a (Zc cls d) X.env.locals h1 → s'.heap.UpToSlots h1 → compEnds (model X.prog X.w) X.A X.xe use Qf acc ce (.error (.ref a)) { s' with heap := h1 } := by
    rintro h1 ⟨st, bn, ff, tr⟩ up1
    have n1 := ns_up hn up1
    show CompFails _ _ _ _ _ _
    refine ⟨m, n1, fun h2 m2 n2 sb => ?_⟩
    obtain ⟨oC, es, ep, hoC, hdC, _⟩ := n1
    obtain ⟨oe, vs, T, oT, ts, he, hz, hd, hv1, hnT, hTe, hT, hdT, hv3⟩ := tr
    have nea : a ≠ ce.locals := fun z => by
      rw [z] at he
      rw [hoC] at he
      cases he
      rw [hdC] at hd
      cases hd
    have neT : T ≠ ce.locals := fun z => by
      rw [z] at hT
      rw [hoC] at hT
      cases hT
      rw [hdC] at hdT
      cases hdT
    have hid : ∀ {b o}, (PySem.W.hideAll B [ce.locals]).get? b = some o → b ≠ ce.locals ∧ B.get? b = some o := hid_ne
    have hno : ∀ {b}, B.get? b = none → (PySem.W.hideAll B [ce.locals]).get? b = none := fun {b} e => by
      cases q : (PySem.W.hideAll B [ce.locals]).get? b with
      | none => rfl
      | some o =>
        have := (hid q).2
        rw [e] at this
        cases this
    have st2 : (PySem.W.hideAll B [ce.locals]).StaysIn h2 := fun b o e => (sb.2 b (hid e).1).trans (st b o (hid e).2)
    have ff2 : h2.FunFrames (PySem.W.hideAll B [ce.locals]) (X.env :: X.outer) := funFrames_none (ff.sameBut sb n2) fun L hL => hno (ff.mem hL).1
    have he2 : h2.get? a = some oe := (sb.2 a nea).trans he
    have hT2 : h2.get? T = some oT := (sb.2 T neT).trans hT
    unfold PySem.passOn
    refine wpAny_bind (wpAny_field (s := { s' with heap := h2 }) he2 hd hv1 ?_)
    rw [if_neg (show ¬ ((Value.ref T == Value.none) = true) from by simp)]
    have fin : wpAny (model X.prog X.w) X.A (setFlight (.ref a) ce.frame) (fun _ s4 => wpAny (model X.prog X.w) X.A (throw (.ref a) : Sem Value) (fun _ _ => False) X.xe s4) X.xe { s' with heap := h2 } := by
      rw [hcf, hfm]
      refine HandSPX.setFlight_onZ (s := { s' with heap := h2 }) ⟨st2, hno bn, ff2, oe, vs, T, oT, ts, he2, hz, hd, hv1, hno hnT, hTe, hT2, hdT, hv3⟩ fun h3 hh3 up3 => wpAny_throw (tk _ _ ?_)
      have I2 : Inv X [] σ H { sI with heap := PySem.W.hideAll sI.heap [ce.locals], toks := sI.toks } := (I.pins_of (pins' := []) (fun _ z => nomatch z)).turned (it := ce.locals) (t' := sI.toks) (h' := PySem.W.hideAll sI.heap [ce.locals])
        (fun b o hb e => PySem.W.hideAll_get _ e fun hm => hb (List.mem_singleton.mp hm)) hC f1 f3 f4 f5
      refine ⟨a, PySem.W.hideAll B [ce.locals], _, [], σ, H, cls, d, rfl, I2, fun b o e hb => ?_, fun b o e hnf => ?_, .inr (.inr (by rw [hst]; exact hh3)), na, os, ag, w⟩
      · obtain ⟨ne, e⟩ := hid_ne e
        exact PySem.W.hideAll_get _ (nb b o e hb) fun hm => ne (List.mem_singleton.mp hm)
      · obtain ⟨ne, e⟩ := hid_ne e
        obtain ⟨s1, q1⟩ := up b o e hnf
        obtain ⟨s2, q2⟩ := up1 b _ q1 hnf
        obtain ⟨s3, q3⟩ := up3 b _ ((sb.2 b ne).trans q2) hnf
        exact ⟨s3, q3⟩
    first
      | exact wpAny_bind (wpAny_pure (wpAny_bind fin))
      | exact wpAny_bind fin
  show wpAny _ X.A (noteFrame (.ref a) ce) _ _ s'
  rw [note_env hcf]
  rw [hst] at sky
  rcases sky with ⟨hB, hn', hl, oe, vs, he, hz, hd, h1⟩ | fl | hh
  · exact HandSPX.look_newZ Zc.steady hfr hl hfm he hB hn' hd h1 hz held
  · exact HandSPX.looks_onZ Zc.steady hfr hfm fl held
  · exact HandSPX.againZ hfm hh.2.2.2 (held s'.heap hh (Heap.UpToSlots.refl _))
/-- what a call in the block's element lets out goes to the def -/
theorem blk_passes {E : XK} (tk : Takes X fun cls d _ H => E cls d H) (hst : X.stack = X.env :: X.outer) (hfm : X.env.frame = some X.env.locals) {s3 : Shared} {H3 H0 : Hp} {scope : Scope} {ce : Env} {fp : List Addr} {pins : List (Addr × Obj)} {σ : L2.St}
    (I3 : Inv X pins σ H3 s3) (hcf : ce.frame = X.env.frame) (fo : FpOk X pins H0 ce.locals) (hfp : ∀ b ∈ fp, FpOk X pins H3 b)
    {use : Option (Value → Sem Unit)} {Qf : Value → Shared → Prop} {acc : Value} :
    Passes (L2.CX X.prog X.w) (blkX X s3 H3 scope ce fp (notedBy (model X.prog X.w) X.A ce fun e s2 => compEnds (model X.prog X.w) X.A X.xe use Qf acc ce (.error e) s2)) E := by
  intro pins' σ' H s u s' I c
  have J : Inv (X.blk s3 H3 scope ce fp) pins' σ' H s := I.unwish
  have K : Inv X pins σ H s := I3.call' (ch := fp) J.os J.base J.hok J.bare fun b hb => ⟨(hfp b hb).2.2.2.1, (hfp b hb).2.1, (hfp b hb).2.2.2.2.1, (hfp b hb).2.2.2.2.2⟩
  have nC : H ce.locals = none := J.free
  obtain ⟨m, hn, _⟩ := J.loc
  replace hn : s.heap.Ns ce.locals m := hn
  have nst : ce.locals ∉ frs X.stack := fun hm => by
    rcases List.mem_cons.mp (I3.stkSub _ hm) with z | z
    · exact fo.2.1 z
    · exact fo.2.2.1 z
  obtain ⟨a, B, H', cls, d, e0, fl, hok, ub, na, os, ag, hE⟩ := c
  obtain ⟨o, es, ep, eo, rest⟩ := hn
  have hn' : s'.heap.Ns ce.locals m := ⟨o, es, ep, fl.1 _ _ (ub.keep _ _ eo nC nst), rest⟩
  have c2 : L2.CX X.prog X.w X.stack H s (fun cls d H' => E cls d H' ∧ H' ce.locals = none) u s' := ⟨a, B, H', cls, d, e0, fl, hok, ub, na, os, ag, hE, ub.free _ _ eo nC⟩
  exact comp_out (W0 := fun cls d _ H => E cls d H) tk hst hfm hcf (H0 := H0) ⟨fo.1, fo.2.1, fo.2.2.1, fo.2.2.2.1, fo.2.2.2.2.1, fun p hp => fo.2.2.2.2.2 p (by rw [List.append_nil] at hp; exact List.mem_append_left _ hp)⟩ hn' (XE.of_call K (fun _ _ _ h => h) c2)
theorem lcx_core {E : XK} {pins : List (Addr × Obj)} {s : Shared} {σ : L2.St} {H : Hp} {Q : VK} {elt tg iter : Expr} {ifs : List Expr} {scope : Scope} {own : List (Str × Nat)} {pos pos' : Pos} {wi : TI} {g : TG} {tt : TT} {te : TE} {use : Option (Value → Sem Unit)} {Qf : Value → Shared → Prop}
    (hc : X.calm = true) (hN : X.N.Nodup) (hst : X.stack = X.env :: X.outer) (hfm : X.env.frame = some X.env.locals) (tk : Takes X fun cls d _ H => E cls d H) (I : Inv X pins σ H s) (hi : PI X tg iter wi) (ok : BlkOk X.N X.env.scope scope own)
    (hg : ∀ s H C cl fp xe, PG (blkX X s H scope (compEnvC scope cl C X.env) fp xe) tg g) (ht : ∀ s H C cl fp xe, PTs (blkX X s H scope (compEnvC scope cl C X.env) fp xe) ifs tt)
    (he : ∀ s H C cl fp xe, Passes (L2.CX X.prog X.w) (blkX X s H scope (compEnvC scope cl C X.env) fp xe) E → PE (blkX X s H scope (compEnvC scope cl C X.env) fp xe) elt te)
    (hs : ∀ x, foldedSetIterable iter X.env x = pure x) (h : tLc wi g tt te (own.map (·.2)) σ H Q)
    (hRR : ∀ D ce s' m H', Inv X pins σ H' s' → Q (.ref D) H' → s'.heap.Ns ce.locals m → FpOk X pins H' ce.locals → compEnds (model X.prog X.w) X.A X.xe use Qf (.ref D) ce (.ok .next) s') :
    wpAny (model X.prog X.w) X.A (comprehension (.ListComp elt [⟨tg, iter, ifs, 0⟩] scope pos) scope X.env pos' (newList []) false (eval iter X.env) use) Qf X.xe s := by
  have captured : ∀ y ∈ scope.names, y.2 = .free → ∃ c, X.env.cells.lookup y.1 = some c := fun y hy e => (ok.free y hy e).elim (fun k => I.ok.has _ (.inl k)) (fun k => I.ok.has _ (.inr k))
  refine comprehension_at (use := use) rfl hs (closure_ok captured) ok.kind (fun y hy e => by rw [ok.uniq y hy, e]) (thn (hi.run pins s σ H _ I h) fun xv s1 q1 => thn q1 fun itv s2 q2 => ?_)
  obtain ⟨it, fp, tn, J, H2, rfl, I2, T, t2, f2, q⟩ := q2
  refine wpAny_newObj_type (newEnv_comp ?_) (by show 0 ≤ sizeLine; decide)
  generalize hD : s2.heap.objs.size = D
  obtain ⟨W, ⟨m0, w0⟩, turn⟩ := q D (I2.hok.fresh (Nat.le_of_eq hD))
  generalize hs3 : ({ s2 with heap := s2.heap.push { cls := .type "list", data := .seq ([] : List Value).toArray } } : Shared) = s3
  have e3 : s3.heap = s2.heap.push { cls := .type "list", data := .seq ([] : List Value).toArray } := by rw [← hs3]
  have I3 : Inv X pins σ (upd H2 D (.lst [])) s3 := by
    rw [← hs3]
    refine I2.laid (t' := s2.toks) (fun b o e => Heap.get?_push_of_some _ e) (Nat.le_of_eq hD) ⟨Nat.zero_le _, [], 0, .nil, ?_⟩
    rw [← hD]
    exact Heap.get?_push_size _ rfl
  have f3 : ∀ b ∈ fp, FpOk X pins (upd H2 D (.lst [])) b ∧ b < s3.heap.objs.size := fun b hb => by
    obtain ⟨o, eo, _⟩ := T.obj _ _ t2 b hb
    have hlt := Heap.lt_size eo
    refine ⟨⟨?_, (f2 b hb).2⟩, by rw [e3, Heap.size_push]; exact Nat.lt_succ_of_lt hlt⟩
    rw [upd_ne (by rw [← hD]; exact Nat.ne_of_lt hlt)]
    exact (f2 b hb).1
  have t3 : tn 0 s3.heap := T.keep _ _ _ t2 fun b _ o e => by rw [e3]; exact Heap.get?_push_of_some _ e
  have I4 := block_start I3 ok hN f3
  have fo : FpOk X pins (upd H2 D (.lst [])) s3.heap.objs.size := I3.fpOk (Nat.le_refl _) (I3.hok.fresh (Nat.le_refl _))
  generalize hce : compEnvC scope (cellsFrom (s3.heap.objs.size + 1) scope.names (cloFrom X.env.cells scope.names [])) s3.heap.objs.size X.env = ce at I4
  have hcL : ce.locals = s3.heap.objs.size := by subst hce; rfl
  have hcF : ce.frame = X.env.frame := by subst hce; rfl
  rw [← hcL] at fo
  have P := blk_passes (use := use) (Qf := Qf) (acc := .ref D) (scope := scope) tk hst hfm I3 hcF fo fun b hb => (f3 b hb).1
  generalize hxe : notedBy (model X.prog X.w) X.A ce (fun e s2 => compEnds (model X.prog X.w) X.A X.xe use Qf (.ref D) ce (.error e) s2) = xe at P
  have pg : PG (blkX X s3 (upd H2 D (.lst [])) scope ce fp xe) tg g := by subst hce; exact hg _ _ _ _ _ _
  have pt : PTs (blkX X s3 (upd H2 D (.lst [])) scope ce fp xe) ifs tt := by subst hce; exact ht _ _ _ _ _ _
  have pe : PE (blkX X s3 (upd H2 D (.lst [])) scope ce fp xe) elt te := by subst hce; exact he _ _ _ _ _ _ P
  generalize hs4 : ({ s3 with heap := pushCells (s3.heap.push { cls := .type "dict", data := .dict #[] }) scope.names } : Shared) = s4 at I4
  have t4 : tn 0 s4.heap := T.keep _ _ _ t3 fun b _ o e => by rw [← hs4]; exact pushCells_keeps _ _ _ _ (Heap.get?_push_of_some _ e)
  have n3 : ∀ b ∈ fp, (upd H2 D (.lst [])) b = none := fun b hb => (f3 b hb).1.1
  have gen : codeAny (model X.prog X.w) X.A (.compLoop (.ListComp elt [⟨tg, iter, ifs, 0⟩] scope pos) 0 (.ref it) (.ref D) ce) (compEnds (model X.prog X.w) X.A X.xe use Qf (.ref D) ce) s4 := by
    generalize upd H2 D (.lst []) = H3 at *
    have I4 : Inv (blkX X s3 H3 scope ce fp xe) [] (wipe σ (own.map (·.2))) H3 s4 := I4.wish xe
    have stat : ∀ {σ' : L2.St} {H' : Hp} {s' : Shared}, Inv (blkX X s3 H3 scope ce fp xe) [] σ' H' s' → (∀ b ∈ fp, H' b = none) → ∀ b ∈ fp, FpOk (blkX X s3 H3 scope ce fp xe) [] H' b := fun {σ' H' s'} I' hn b hb =>
      ⟨hn b hb, (I'.ok.exf b hb).1, I'.ok.exfs b hb, .inl hb, (I'.ok.exf b hb).2, fun p hp => nomatch (show p ∈ ([] : List (Addr × Obj)) ++ [] from hp)⟩
    refine compLoop_any (fun n s' => ∃ i H', Inv (blkX X s3 H3 scope ce fp xe) [] (wipe σ (own.map (·.2))) H' s' ∧ tn i s'.heap ∧ (∀ b ∈ fp, H' b = none) ∧ W i n H') ?_ m0 ⟨0, H3, I4, t4, n3, w0⟩
    rintro n s5 ⟨i, H5, I5, t5, n5, w5⟩
    have out : ∀ e s', xe e s' → notedBy (model X.prog X.w) X.A ce (fun e s' => compEnds (model X.prog X.w) X.A X.xe use Qf (.ref D) ce (.error e) s') e s' := fun e s' z => by rw [← hxe] at z; exact z
    rcases turn i n H5 w5 with ⟨stop, qq⟩ | ⟨go, Nx, hNx, step⟩
    · refine thnF (T.done (blkX X s3 H3 scope ce fp xe) rfl rfl rfl hc i [] s5 _ H5 (fun _ _ => False) I5 (stat I5 n5) t5 stop) fun r s6 ⟨hr, I6⟩ => ?_
      subst hr
      have J6 : Inv (X.blk s3 H3 scope ce fp) [] (wipe σ (own.map (·.2))) H5 s6 := I6.unwish
      have I7 : Inv X pins σ H5 s6 := I3.call' (ch := fp) J6.os J6.base J6.hok J6.bare fun b hb => ⟨(f3 b hb).1.2.2.2.1, (f3 b hb).1.2.1, (f3 b hb).1.2.2.2.2.1, (f3 b hb).1.2.2.2.2.2⟩
      obtain ⟨m, hn, _⟩ := J6.loc
      exact hRR D ce s6 m H5 I7 qq hn ⟨J6.free, fo.2⟩
    · refine thnF (T.item (blkX X s3 H3 scope ce fp xe) rfl rfl rfl hc i [] s5 _ H5 (fun _ _ => False) I5 (stat I5 n5) t5 go) fun r s6 ⟨u, hr, h6⟩ => ?_
      subst hr
      refine thnF h6 fun _ s7 ⟨x, H7, I7, r7, y7, t7, n7⟩ => ?_
      refine wpAny_mono (pg.run _ s7 _ H7 x u _ (I7.pinned (stat I7 n7) (T.obj _ _ t7)) r7 (step x H7 y7)) (fun _ s8 ⟨σ8, H8, I8, hw8, q8⟩ => ?_) out
      refine wpAny_mono (pt.run _ s8 σ8 H8 _ I8 q8) (fun b s9 ⟨H9, I9, q9⟩ => ?_) out
      have fin : ∀ {s' : Shared} {H' : Hp}, Inv (blkX X s3 H3 scope ce fp xe) ([] ++ pinsAt fp s7.heap) σ8 H' s' → Nx H' → ∃ m, m < n ∧ ∃ i H', Inv (blkX X s3 H3 scope ce fp xe) [] (wipe σ (own.map (·.2))) H' s' ∧ tn i s'.heap ∧ (∀ b ∈ fp, H' b = none) ∧ W i m H' := fun {s' H'} I' nx => by
        obtain ⟨m', hm, w'⟩ := hNx H' nx
        have stay : ∀ b ∈ fp, ∀ o, s7.heap.get? b = some o → s'.heap.get? b = some o ∧ H' b = none := fun b hb o e => by
          have z := I'.pin (b, o) (List.mem_append_right _ (List.mem_append_right _ (mem_pinsAt hb e)))
          exact ⟨z.1, z.2.1⟩
        refine ⟨m', hm, i + 1, H', (I'.unpinned (pins := [])).weak (by rw [← hw8, wipe_length]) (fun j v e => ?_), T.keep _ _ _ t7 fun b hb o e => (stay b hb o e).1, fun b hb => ?_, w'⟩
        · rw [← hw8] at e
          exact (wipe_some e).1
        · obtain ⟨o, e, _⟩ := T.obj _ _ t7 b hb
          exact (stay b hb o e).2
      cases b with
      | false =>
        rw [if_neg Bool.false_ne_true] at q9 ⊢
        exact fin I9 q9
      | true =>
        rw [if_pos rfl] at q9 ⊢
        refine wpAny_mono (pe.run _ s9 σ8 H9 _ I9 q9) (fun z s10 ⟨yv, H10, I10, r10, acc, hD10, hz10, nx⟩ => ?_) out
        exact app_ok (X := blkX X s3 H3 scope ce fp xe) I10 hD10 hz10 r10 fun s11 I11 => fin I11 nx
  subst hce hs4
  exact codeAny_compStart_list gen (T.self X.A 0 _ _ _ t4 gen)
/-- name = [..] on one line, its element may raise -/
theorem ps_setLcX {E : XK} {i : Nat} {y : Str} {py : Pos} {elt tg iter : Expr} {ifs : List Expr} {scope : Scope} {own : List (Str × Nat)} {pos spos : Pos} {wi : TI} {g : TG} {tt : TT} {te : TE} (hc : X.calm = true) (hN : X.N.Nodup) (hst : X.stack = X.env :: X.outer) (hfm : X.env.frame = some X.env.locals)
    (tk : Takes X fun cls d _ H => E cls d H) (hy : X.N[i]? = some y) (hyl : X.env.scope.names.lookup y = some .local) (hsw : swapsWith (.ListComp elt [⟨tg, iter, ifs, 0⟩] scope pos) (some (.Name y py)) spos.line X.env = pure true) (hi : PI X tg iter wi) (ok : BlkOk X.N X.env.scope scope own)
    (hg : ∀ s H C cl fp xe, PG (blkX X s H scope (compEnvC scope cl C X.env) fp xe) tg g) (ht : ∀ s H C cl fp xe, PTs (blkX X s H scope (compEnvC scope cl C X.env) fp xe) ifs tt)
    (he : ∀ s H C cl fp xe, Passes (L2.CX X.prog X.w) (blkX X s H scope (compEnvC scope cl C X.env) fp xe) E → PE (blkX X s H scope (compEnvC scope cl C X.env) fp xe) elt te) (hs : ∀ x, foldedSetIterable iter X.env x = pure x := by intro _; rfl) :
    PS X (.Assign [.Name y py] (.ListComp elt [⟨tg, iter, ifs, 0⟩] scope pos) spos) (tAsg (tLc wi g tt te (own.map (·.2))) (gName i)) := by
  refine ⟨fun pins s σ H D I h => ?_⟩
  rw [exec_Assign_Name_used _ _ _ _ hsw]
  refine wpAny_bind (wpAny_standAt (wpAny_bind ?_))
  show wpAny _ X.A (do let _ ← comprehension (.ListComp elt [⟨tg, iter, ifs, 0⟩] scope pos) scope X.env (firstIterPos [⟨tg, iter, ifs, 0⟩] pos) (newList []) false (eval iter X.env) (some (assign (.Name y py) X.env))) _ _ s
  replace h : tLc wi g tt te (own.map (·.2)) σ H (fun x H1 => gName i x σ H1 D.nx) := h
  refine wpAny_bind (thn (lcx_core (E := E) (Qf := fun _ s' => SP X pins D .next s') hc hN hst hfm tk I hi ok hg ht he hs h fun L ce s' m H' J q hn f => ?_) fun _ s' hq => wpAny_pure (wpAny_pure hq))
  show wpAny _ _ (assign (.Name y py) X.env (.ref L)) _ _ _
  obtain ⟨f0, f1, f2, f3, f4, f5⟩ := f
  refine wpAny_assign_Name (store_ok2 (v := V.ref L) J hN hy (.inl hyl) rfl (fun s2 I2 ⟨b, sb, hb⟩ => ?_) (.inr hyl))
  have ne : ce.locals ≠ b := by
    rcases hb with z | z
    · exact fun e => f1 (e.trans z)
    · exact fun e => f4 y b z e.symm
  refine ⟨m, hn.sameBut sb ne, fun h3 sb3 => ?_⟩
  exact ⟨_, H', I2.turned (t' := s2.toks) (fun b o hb e => (sb3.2 b hb).trans e) f0 f1 f3 f4 f5, q⟩
end

/-! ### the mathematics of a quay as a text -/
/-- rows, each with its line end -/
def lines (rs : List (List Nat)) : List Nat := (rs.map (· ++ [10])).flatten
theorem lines_join : ∀ {rs : List (List Nat)}, rs ≠ [] → lines rs = TL.joinL [10] rs ++ [10]
  | [], h => absurd rfl h
  | [p], _ => by simp [lines, TL.joinL]
  | p :: q :: r, _ => by
    have ih := lines_join (rs := q :: r) (by simp)
    have e : lines (p :: q :: r) = (p ++ [10]) ++ lines (q :: r) := by simp [lines]
    have e2 : TL.joinL [10] (p :: q :: r) = p ++ ([10] ++ TL.joinL [10] (q :: r)) := rfl
    rw [e, e2, ih]
    simp
theorem lines_snoc {rs : List (List Nat)} {r : List Nat} : lines (rs ++ [r]) = lines rs ++ (r ++ [10]) := by simp [lines]
theorem lines_cons {rs : List (List Nat)} {r : List Nat} : lines (r :: rs) = (r ++ [10]) ++ lines rs := by simp [lines]
theorem lines_join' : ∀ {rs : List (List Nat)}, TL.joinL [10] (rs ++ [[]]) = lines rs
  | [] => rfl
  | [p] => by simp [lines, TL.joinL]
  | p :: q :: r => by
    have ih := lines_join' (rs := q :: r)
    have e2 : TL.joinL [10] (p :: q :: r ++ [[]]) = p ++ ([10] ++ TL.joinL [10] (q :: r ++ [[]])) := rfl
    rw [e2, ih, lines_cons (r := p)]
    simp
theorem spl_lines {rs : List (List Nat)} (hr : rs ≠ []) (h : ∀ p ∈ rs, 10 ∉ p) : TL.spl [10] 0 [] (lines rs).dropLast = rs := by
  rw [lines_join hr, List.dropLast_concat]
  exact TL.spl_join hr h
theorem spl_all {rs : List (List Nat)} (h : ∀ p ∈ rs, 10 ∉ p) : TL.spl [10] 0 [] (lines rs) = rs ++ [[]] := by
  rw [← lines_join']
  refine TL.spl_join (by simp) fun p hp => ?_
  rcases List.mem_append.mp hp with k | k
  · exact h p k
  · rw [List.mem_singleton.mp k]
    simp
theorem spl_ne (S : List Nat) : ∀ (l : List Nat) (k : Nat) (acc : List Nat), TL.spl S k acc l ≠ []
  | [], k, acc => by rw [TL.spl_nil]; simp
  | c :: r, 0, acc => by
    by_cases h : TL.pre S (c :: r) = true
    · rw [TL.spl_hit h]; simp
    · rw [TL.spl_miss (by simpa using h)]
      exact spl_ne S r 0 _
  | c :: r, k + 1, acc => spl_ne S r k acc
/-! numbers and rows -/
def digit (c : Nat) : Bool := decide (48 ≤ c) && decide (c ≤ 57)
def numOk (w : List Nat) : Bool := decide (1 ≤ w.length) && (decide (w.length ≤ 3) && (!decide (w.head? = some 48) && (w.all digit && decide (NumText.digitsVal w ≤ 400))))
def rowW (r : List Nat) : Option (List Nat × Nat) := match TL.spl [32] 0 [] r with
  | [w, x] => if numOk x = true then some (w, NumText.digitsVal x) else none
  | _ => none
def quayL : List Nat := [113, 117, 97, 121]
def roundL : List Nat := [114, 111, 117, 110, 100]
def kindL (b : Bool) : List Nat := if b = true then roundL else quayL
theorem kindS_L (b : Bool) : kindS b = SX.S (kindL b) := by cases b <;> decide +kernel
def headOk (r : List Nat) : Bool := match rowW r with
  | some (w, _) => decide (w = quayL) || decide (w = roundL)
  | none => false
def shipOk (r : List Nat) : Bool := match rowW r with
  | some (w, _) => isNm (SX.S w)
  | none => false
def shipOf (r : List Nat) : Str × Int := match rowW r with
  | some (w, k) => (SX.S w, (k : Int))
  | none => (SX.S [], 0)
def rowsOk : List (List Nat) → Bool
  | [] => false
  | h :: r => headOk h && r.all shipOk
def textOk (t : List Nat) : Bool := decide (t.getLast? = some 10) && rowsOk (TL.spl [10] 0 [] t.dropLast)
theorem numOk_val {x : List Nat} (h : numOk x = true) : NumText.AllDigits x ∧ x ≠ [] ∧ x.length ≤ 3 ∧ 1 ≤ NumText.digitsVal x ∧ NumText.digitsVal x ≤ 400 := by
  unfold numOk at h
  simp only [Bool.and_eq_true, decide_eq_true_eq, Bool.not_eq_true', decide_eq_false_iff_not, List.all_eq_true] at h
  obtain ⟨h1, h2, h3, h4, h5⟩ := h
  have dg : ∀ c ∈ x, 48 ≤ c ∧ c ≤ 57 := fun c hc => by
    have := h4 c hc
    unfold digit at this
    simpa [Bool.and_eq_true, decide_eq_true_eq] using this
  refine ⟨dg, fun z => by rw [z] at h1; simp at h1, h2, ?_, h5⟩
  cases x with
  | nil => simp at h1
  | cons c r =>
    have hc := dg c List.mem_cons_self
    have c0 : c ≠ 48 := fun z => h3 (by rw [z]; rfl)
    unfold NumText.digitsVal
    cases r with
    | nil => simp; omega
    | cons d r =>
      cases r with
      | nil => simp; omega
      | cons e r =>
        cases r with
        | nil => simp; omega
        | cons f r => simp at h2
theorem rowW_some {r w : List Nat} {k : Nat} (h : rowW r = some (w, k)) : ∃ x, TL.spl [32] 0 [] r = [w, x] ∧ numOk x = true ∧ k = NumText.digitsVal x := by
  unfold rowW at h
  split at h
  · rename_i w' x e
    split at h
    · rename_i hn
      cases h
      exact ⟨x, e, hn, rfl⟩
    · cases h
  · cases h
theorem rowW_rg {r w : List Nat} {k : Nat} (h : rowW r = some (w, k)) : 1 ≤ k ∧ k ≤ 400 := by
  obtain ⟨x, _, hn, rfl⟩ := rowW_some h
  obtain ⟨_, _, _, h1, h2⟩ := numOk_val hn
  exact ⟨h1, h2⟩
theorem num400 : ∀ k : Fin 400, numOk (TL.numL (k.val + 1)) = true := by decide +kernel
theorem numOk_numL {k : Nat} (h1 : 1 ≤ k) (h2 : k ≤ 400) : numOk (TL.numL k) = true := by
  have := num400 ⟨k - 1, by omega⟩
  rwa [show k - 1 + 1 = k by omega] at this
def rowL (w : List Nat) (k : Nat) : List Nat := w ++ 32 :: TL.numL k
theorem rowW_rowL {w : List Nat} {k : Nat} (hw : 32 ∉ w) (h1 : 1 ≤ k) (h2 : k ≤ 400) : rowW (rowL w k) = some (w, k) := by
  have e : TL.spl [32] 0 [] (rowL w k) = [w, TL.numL k] := by
    unfold rowL
    have e1 := TL.spl_part1 (s := 32) (S := []) (p := w) (rest := TL.numL k) (acc := []) hw
    rw [List.nil_append] at e1
    have e2 := TL.spl_last1 (s := 32) (S := []) (p := TL.numL k) (acc := []) (TL.numL_free (.inl (by decide)))
    rw [List.nil_append] at e2
    exact e1.trans (by rw [e2])
  unfold rowW
  rw [e]
  dsimp only
  rw [if_pos (numOk_numL h1 h2), TL.numL_val]
theorem isNm_sign {t : Str} (h : isNm t = true) : t.length ≤ 8 ∧ ∀ c ∈ t.cps.toList, 97 ≤ c ∧ c ≤ 122 := by
  unfold isNm at h
  simp only [Bool.and_eq_true, decide_eq_true_eq, List.all_eq_true] at h
  exact ⟨h.1.2, fun c hc => h.2 c hc⟩
/-- the rows of a quay -/
def rowsL (b : Bool) (n : Nat) (ks : List (Str × Int)) : List (List Nat) := rowL (kindL b) n :: ks.map fun p => rowL p.1.cps.toList p.2.toNat
def textL (b : Bool) (n : Nat) (ks : List (Str × Int)) : List Nat := lines (rowsL b n ks)
structure NmOk (n : Nat) (ks : List (Str × Int)) : Prop where
  nm : ∀ p ∈ ks, isNm p.1 = true
  rg : ∀ p ∈ ks, 1 ≤ p.2 ∧ p.2 ≤ n
  n1 : 1 ≤ n ∧ n ≤ 400
  ln : ks.length ≤ 500
theorem kind_no (b : Bool) : 10 ∉ kindL b ∧ 32 ∉ kindL b := by cases b <;> decide
theorem rowL_no {w : List Nat} {k c : Nat} (hc : c < 48) (h32 : c ≠ 32) (h : c ∉ w) : c ∉ rowL w k := fun hm => by
  rcases List.mem_append.mp hm with m | m
  · exact h m
  · rcases List.mem_cons.mp m with m | m
    · exact h32 m
    · exact TL.numL_free (.inl hc) m
theorem rows_no {b : Bool} {n : Nat} {ks : List (Str × Int)} (ok : NmOk n ks) : ∀ p ∈ rowsL b n ks, 10 ∉ p := by
  intro p hp
  rcases List.mem_cons.mp hp with e | hp
  · rw [e]
    exact rowL_no (by decide) (by decide) (kind_no b).1
  · obtain ⟨q, hq, rfl⟩ := List.mem_map.mp hp
    refine rowL_no (by decide) (by decide) fun hm => ?_
    have := (isNm_sign (ok.nm q hq)).2 10 hm
    omega
theorem head_of {b : Bool} {n : Nat} (h1 : 1 ≤ n) (h2 : n ≤ 400) : rowW (rowL (kindL b) n) = some (kindL b, n) := rowW_rowL (kind_no b).2 h1 h2
theorem ship_of {n : Nat} {ks : List (Str × Int)} (ok : NmOk n ks) {p : Str × Int} (hp : p ∈ ks) : rowW (rowL p.1.cps.toList p.2.toNat) = some (p.1.cps.toList, p.2.toNat) := by
  have h1 := ok.rg p hp
  have h2 := ok.n1
  refine rowW_rowL (fun hm => ?_) (by omega) (by omega)
  have := (isNm_sign (ok.nm p hp)).2 32 hm
  omega
theorem lines_last {rs : List (List Nat)} (hr : rs ≠ []) : (lines rs).getLast? = some 10 := by
  rw [lines_join hr]
  simp
theorem textOk_lines {rs : List (List Nat)} (hr : rs ≠ []) (h : ∀ p ∈ rs, 10 ∉ p) : textOk (lines rs) = rowsOk rs := by
  unfold textOk
  rw [lines_last hr, spl_lines hr h]
  simp
theorem text_rows {b : Bool} {n : Nat} {ks : List (Str × Int)} (ok : NmOk n ks) : TL.spl [10] 0 [] (textL b n ks).dropLast = rowsL b n ks := spl_lines (by simp [rowsL]) (rows_no ok)
theorem text_good {b : Bool} {n : Nat} {ks : List (Str × Int)} (ok : NmOk n ks) : textOk (textL b n ks) = true := by
  unfold textL
  rw [textOk_lines (by simp [rowsL]) (rows_no ok)]
  show (headOk (rowL (kindL b) n) && (ks.map fun p => rowL p.1.cps.toList p.2.toNat).all shipOk) = true
  rw [Bool.and_eq_true, List.all_eq_true]
  constructor
  · unfold headOk
    rw [head_of ok.n1.1 ok.n1.2]
    cases b <;> rfl
  · intro r hr
    obtain ⟨p, hp, rfl⟩ := List.mem_map.mp hr
    unfold shipOk
    rw [ship_of ok hp]
    dsimp only
    rw [SX.S_tl]
    exact ok.nm p hp
/-- what a good text tells -/
def kindOf (rs : List (List Nat)) : Bool := match rs with
  | h :: _ => (match rowW h with | some (w, _) => decide (w = roundL) | none => false)
  | [] => false
def sizeOf' (rs : List (List Nat)) : Nat := match rs with
  | h :: _ => (match rowW h with | some (_, k) => k | none => 0)
  | [] => 0
theorem text_tells {b : Bool} {n : Nat} {ks : List (Str × Int)} (ok : NmOk n ks) : kindOf (rowsL b n ks) = b ∧ sizeOf' (rowsL b n ks) = n ∧ (rowsL b n ks).tail.map shipOf = ks := by
  refine ⟨?_, ?_, ?_⟩
  · show (match rowW (rowL (kindL b) n) with | some (w, _) => decide (w = roundL) | none => false) = b
    rw [head_of ok.n1.1 ok.n1.2]
    cases b <;> rfl
  · show (match rowW (rowL (kindL b) n) with | some (_, k) => k | none => 0) = n
    rw [head_of ok.n1.1 ok.n1.2]
  · show (ks.map fun p => rowL p.1.cps.toList p.2.toNat).map shipOf = ks
    rw [List.map_map]
    refine (List.map_congr_left fun p hp => ?_).trans (List.map_id ks)
    show shipOf (rowL p.1.cps.toList p.2.toNat) = p
    unfold shipOf
    rw [ship_of ok hp]
    have := ok.rg p hp
    dsimp only
    rw [SX.S_tl, show ((p.2.toNat : Nat) : Int) = p.2 by omega]
theorem lines_len {m : Nat} : ∀ {rs : List (List Nat)}, (∀ p ∈ rs, p.length ≤ m) → (lines rs).length ≤ rs.length * (m + 1)
  | [], _ => by simp [lines]
  | p :: r, h => by
    have ih := lines_len (rs := r) fun q hq => h q (List.mem_cons_of_mem _ hq)
    have hp := h p List.mem_cons_self
    rw [lines_cons]
    simp only [List.length_append, List.length_cons, List.length_nil]
    rw [Nat.add_mul, Nat.one_mul]
    omega
theorem numL_len4 {k : Nat} (h : k ≤ 999) : (TL.numL k).length ≤ 3 := TL.numL_len (by decide) (by omega)
theorem rows_len {b : Bool} {n : Nat} {ks : List (Str × Int)} (ok : NmOk n ks) : ∀ p ∈ rowsL b n ks, p.length ≤ 12 := by
  intro p hp
  have hn := ok.n1
  rcases List.mem_cons.mp hp with e | hp
  · rw [e]
    have h1 : (kindL b).length ≤ 5 := by cases b <;> decide
    have h2 := numL_len4 (k := n) (by omega)
    unfold rowL
    rw [List.length_append, List.length_cons]
    omega
  · obtain ⟨q, hq, rfl⟩ := List.mem_map.mp hp
    have h1 := (isNm_sign (ok.nm q hq)).1
    have h3 := ok.rg q hq
    have h2 := numL_len4 (k := q.2.toNat) (by omega)
    have h4 : q.1.cps.toList.length = q.1.length := by simp [Str.length]
    unfold rowL
    rw [List.length_append, List.length_cons]
    omega
theorem text_len {b : Bool} {n : Nat} {ks : List (Str × Int)} (ok : NmOk n ks) : (textL b n ks).length ≤ 7000 := by
  have h := lines_len (rows_len (b := b) ok)
  have h2 : (rowsL b n ks).length = ks.length + 1 := by simp [rowsL]
  have h3 := ok.ln
  unfold textL
  rw [h2] at h
  omega
/-! endings and slices -/
theorem ends_nl (t : List Nat) : Txt.endswith (SX.S t) (Str.ofString "\n") = decide (t.getLast? = some 10) := by
  have e : (Str.ofString "\n") = SX.S [10] := by decide +kernel
  rw [e]
  rcases List.eq_nil_or_concat t with rfl | ⟨l, c, rfl⟩
  · rfl
  · have h1 := PySem.W.KAf.ends_right (a := SX.S l) (y := SX.S [c]) (d := SX.S [10]) (Nat.le_refl 1)
    rw [SX.S_cat] at h1
    rw [List.concat_eq_append, h1]
    rw [List.getLast?_concat]
    by_cases z : c = 10
    · subst z
      decide +kernel
    · rw [decide_eq_false (fun q => z (Option.some.inj q))]
      unfold Txt.endswith
      show (0 + 1 ≤ 1 && _) = false
      rw [PySem.StrLaws.subAt_eq]
      show (true && ([c] == [10])) = false
      simp [z]
theorem cut_last (t : List Nat) : cutS (SX.S t) none (some (-1)) = SX.S t.dropLast := by
  rw [C8.cutS_slice]
  cases t with
  | nil => decide +kernel
  | cons c r =>
    rw [SX.slice_butlast (by simp), List.dropLast_eq_take]
theorem spl_len (S : List Nat) : ∀ (l : List Nat) (k : Nat) (acc : List Nat), ∀ p ∈ TL.spl S k acc l, p.length ≤ acc.length + l.length
  | [], k, acc, p, hp => by
    rw [TL.spl_nil] at hp
    rw [List.mem_singleton.mp hp]
    simp
  | c :: r, 0, acc, p, hp => by
    by_cases h : TL.pre S (c :: r) = true
    · rw [TL.spl_hit h] at hp
      rcases List.mem_cons.mp hp with e | hp
      · rw [e]; omega
      · have := spl_len S r _ _ p hp
        simp only [List.length_nil, List.length_cons] at *
        omega
    · rw [TL.spl_miss (by simpa using h)] at hp
      have := spl_len S r _ _ p hp
      simp only [List.length_append, List.length_nil, List.length_cons] at *
      omega
  | c :: r, k + 1, acc, p, hp => by
    have := spl_len S r k acc p hp
    simp only [List.length_cons]
    omega
theorem spl_many (S : List Nat) : ∀ (l : List Nat) (k : Nat) (acc : List Nat), (TL.spl S k acc l).length ≤ l.length + 1
  | [], k, acc => by rw [TL.spl_nil]; simp
  | c :: r, 0, acc => by
    by_cases h : TL.pre S (c :: r) = true
    · rw [TL.spl_hit h]
      have := spl_many S r (S.length - 1) []
      simp only [List.length_cons]
      omega
    · rw [TL.spl_miss (by simpa using h)]
      have := spl_many S r 0 (acc ++ [c])
      simp only [List.length_cons]
      omega
  | c :: r, k + 1, acc => by
    have := spl_many S r k acc
    simp only [List.length_cons]
    exact Nat.le_succ_of_le this
theorem split_nl (t : List Nat) : Txt.split (SX.S t) (Str.ofString "\n") = (TL.spl [10] 0 [] t).map SX.S := by
  rw [show (Str.ofString "\n") = SX.S [10] by decide +kernel]
  exact SX.split_S (by simp) (by decide)
theorem split_bl (t : List Nat) : Txt.split (SX.S t) (Str.ofString " ") = (TL.spl [32] 0 [] t).map SX.S := by
  rw [show (Str.ofString " ") = SX.S [32] by decide +kernel]
  exact SX.split_S (by simp) (by decide)

/-! ### readings for texts -/
def rStrI : List V → Hp → VK → Prop := fun xs H Q => ∃ i : Int, xs = [.int i] ∧ i.natAbs.log2 < 1920 ∧ Q (.str (toString i)) H
def rIntS : List V → Hp → VK → Prop := fun xs H Q => ∃ a n, xs = [.str a] ∧ PySem.intText? a = some n ∧ a.length ≤ 640 ∧ Q (.int n) H
def tSplit (to te : TE) : TE := tM1 (fun x xs H Q => ∃ a b, x = .str a ∧ xs = [.str b] ∧ (b.length == 0) = false ∧ a.length + 2 ≤ sizeLine ∧ rNewStrs (Txt.split a b) H Q) to te
def tEnds (to te : TE) : TE := tM1 (fun x xs H Q => ∃ a b, x = .str a ∧ xs = [.str b] ∧ Q (.bl (Txt.endswith a b)) H) to te
def tJoined (ts : List TE) : TE := fun σ H Q => tJs ts Str.empty σ H fun out H1 => Q (.str out) H1
def rInsert : V → List V → Hp → VK → Prop := fun x vs H Q => ∃ (l : Addr) (xs : List V) (i : Int) (y : V), x = .ref l ∧ vs = [.int i, y] ∧ H l = some (.lst xs) ∧ xs.length < sizeLine ∧ 0 ≤ i ∧ i < 2 ^ 63 ∧ Q .non (upd H l (.lst (xs.take i.toNat ++ [y] ++ xs.drop i.toNat)))
theorem log_small {n : Nat} (h : n < 1024) : n.log2 < 1920 := by
  rcases Nat.eq_zero_or_pos n with rfl | hp
  · decide
  · have := (Nat.log2_lt (k := 10) (Nat.ne_of_gt hp)).mpr (by omega)
    omega
theorem str_num (k : Nat) : (Str.ofString (toString ((k : Nat) : Int))) = SX.S (TL.numL k) := TL.ext_tl (TL.tl_num k)
theorem ml {n : Nat} (h : n ≤ 1000000) : n ≤ sizeLine := Nat.le_trans h (by decide)
theorem ml2 {n : Nat} (h : n ≤ 1000000) : n + 2 ≤ sizeLine := Nat.le_trans (Nat.add_le_add_right h 2) (by decide)

/-! ### the number of a row, a row, the parts of a text -/
def sp_p_number (K : PySem.W.Frag) (a : Ad) : Sp := fun vs H Q E => ∃ w : List Nat, vs = [.str (SX.S w)] ∧ w.length ≤ 1000000 ∧ ((numOk w = false ∧ E (.ref a.e_NoText) none H) ∨ (numOk w = true ∧ Q (.int (NumText.digitsVal w : Nat)) H))
abbrev N_p_number : List Str := ["word", "sign", "number"]
def t_p_number (K : PySem.W.Frag) (a : Ad) (E : XK) : TS :=
  (tSeq (tIfS (tOr (tNot (tTest (tChain rLeI rLeI (tC (.int 1)) (tCB rLenStr (tCons (tVar 0) tNil)) (tCB rLenStr (tCons (tCB rStrI (tCons (tC (.int 400)) tNil)) tNil))))) (tTest (tOp rEq (tOp rIxS (tVar 0) (tC (.int 0))) (tC (.str (Str.ofString "0")))))) (tRaise a.e_NoText E) tNext)
    (tSeq (tFor (iStr (tVar 0)) (gName 1)
    (tIfS (tNot (tTest (tChain rLeStr rLeStr (tC (.str (Str.ofString "0"))) (tVar 1) (tC (.str (Str.ofString "9")))))) (tRaise a.e_NoText E) tNext))
    (tSeq (tAsg (tCB rIntS (tCons (tVar 0) tNil)) (gName 2))
    (tSeq (tIfS (tTest (tOp rGtI (tVar 2) (tC (.int 400)))) (tRaise a.e_NoText E) tNext)
    (tRet (tVar 2))))))
theorem len_p_number {K : PySem.W.Frag} {a : Ad} {vs : List V} {H : Hp} {Q : VK} {E : XK} (h : sp_p_number K a vs H Q E) : vs.length = 1 := by
  obtain ⟨w, rfl, _⟩ := h
  rfl
theorem pu_p_number {K : PySem.W.Frag} {a : Ad} {vs : List V} {H : Hp} {Q : VK} {E : XK} (h : sp_p_number K a vs H Q E) : t_p_number K a E { nx := fun _ H' => Q .non H', rt := Q } (start N_p_number vs) H := by
  obtain ⟨w, rfl, hl, h⟩ := h
  have hz : (SX.S w).length ≤ sizeLine := by rw [SX.S_len]; exact ml hl
  have bad : numOk w = false → E (.ref a.e_NoText) none H := fun e => by
    rcases h with ⟨_, h⟩ | ⟨h, _⟩
    · exact h
    · rw [e] at h; cases h
  refine ⟨.str (SX.S w), rfl, SX.S w, rfl, hz, 1, _, rfl, rfl, _, rfl, ?_⟩
  rw [SX.S_len]
  by_cases h1 : 1 ≤ w.length
  rotate_left
  · rw [decide_eq_false (show ¬ (1 : Int) ≤ (w.length : Nat) by omega)]
    exact iteF ⟨false, rfl, iteT (bad (by unfold numOk; rw [decide_eq_false h1]; rfl))⟩
  rw [decide_eq_true (show (1 : Int) ≤ (w.length : Nat) by omega)]
  refine iteT ⟨400, rfl, log_small (by decide), toString (400 : Int), rfl, by decide +kernel, _, _, rfl, rfl, _, rfl, ?_⟩
  have e3 : (((toString (400 : Int) : Str)).length : Int) = 3 := by decide +kernel
  rw [e3]
  by_cases h2 : w.length ≤ 3
  rotate_left
  · rw [decide_eq_false (show ¬ ((w.length : Nat) : Int) ≤ 3 by omega)]
    exact iteT (bad (by unfold numOk; rw [decide_eq_false h2, Bool.false_and, Bool.and_false]))
  rw [decide_eq_true (show ((w.length : Nat) : Int) ≤ 3 by omega)]
  refine iteF ?_
  obtain ⟨c, r, rfl⟩ : ∃ c r, w = c :: r := by
    cases w with
    | nil => simp at h1
    | cons c r => exact ⟨c, r, rfl⟩
  refine ⟨.str (SX.S (c :: r)), rfl, SX.S (c :: r), 0, c, rfl, rfl, hz, atI_nat (j := 0) rfl, rfl, _, rfl, ?_⟩
  have e0 : decide (V.str (⟨#[c]⟩ : Str) = V.str (Str.ofString "0")) = decide (c = 48) := by
    have z : (Str.ofString "0") = (⟨#[48]⟩ : Str) := by decide +kernel
    rw [z]
    by_cases q : c = 48
    · rw [q, decide_eq_true rfl, decide_eq_true rfl]
    · rw [decide_eq_false q, decide_eq_false fun k => q (by injection k with k; injection k with k; injection k with k; injection k)]
  by_cases h3 : c = 48
  · subst h3
    exact iteT (bad (by unfold numOk; simp))
  show (if decide (V.str (⟨#[c]⟩ : Str) = V.str (Str.ofString "0")) = true then _ else _)
  rw [e0, decide_eq_false h3]
  refine iteF ?_
  have hn : numOk (c :: r) = ((c :: r).all digit && decide (NumText.digitsVal (c :: r) ≤ 400)) := by
    have a1 : decide (1 ≤ (c :: r).length) = true := decide_eq_true h1
    have a2 : decide ((c :: r).length ≤ 3) = true := decide_eq_true h2
    have a3 : decide ((c :: r).head? = some 48) = false := decide_eq_false fun z => h3 (Option.some.inj z)
    unfold numOk
    rw [a1, a2, a3]
    rfl
  rw [hn] at h bad
  refine ⟨.str (SX.S (c :: r)), rfl, SX.S (c :: r), rfl, ?_⟩
  refine for_it (walk_str (z := SX.S (c :: r))) (fun i σ H' => H' = H ∧ ((c :: r).take i).all digit = true ∧ ∃ y z, σ = [some (.str (SX.S (c :: r))), y, z]) ⟨rfl, rfl, none, none, rfl⟩ (fun _ _ _ _ _ => trivial) ?_ ?_
  · rintro i v σ H1 H2 hi ⟨rfl, ha, y, z, rfl⟩ ⟨rfl, d, hd, rfl⟩
    have hd' : (c :: r)[i]? = some d := by
      rw [← Array.getElem?_toList] at hd
      exact hd
    refine ⟨_, rfl, "0", _, rfl, rfl, _, rfl, ?_⟩
    have ea : ("0" : Str).cps.toList = [48] := by decide +kernel
    have ez : ("9" : Str).cps.toList = [57] := by decide +kernel
    have fail : digit d = false → E (.ref a.e_NoText) none H2 := fun e => bad (by
      have e2 : (c :: r).all digit = false := by
        cases z : (c :: r).all digit with
        | false => rfl
        | true =>
          rw [List.all_eq_true] at z
          rw [z d (List.mem_of_getElem? hd')] at e
          cases e
      rw [e2, Bool.false_and])
    rw [ea]
    show (if (!decide (([d] : List Nat) < [48])) = true then _ else _)
    rw [le_one]
    by_cases g1 : 48 ≤ d
    rotate_left
    · rw [decide_eq_false g1]
      exact iteF ⟨false, rfl, iteT (fail (by unfold digit; rw [decide_eq_false g1]; rfl))⟩
    rw [decide_eq_true g1]
    refine iteT ⟨_, "9", rfl, rfl, _, rfl, ?_⟩
    rw [ez]
    show (if (!(!decide (([57] : List Nat) < [d]))) = true then _ else _)
    rw [le_one]
    by_cases g2 : d ≤ 57
    rotate_left
    · rw [decide_eq_false g2]
      exact iteT (fail (by unfold digit; rw [decide_eq_false g2, Bool.and_false]))
    rw [decide_eq_true g2]
    refine iteF ⟨rfl, ?_, _, _, rfl⟩
    rw [take_more hd', List.all_append, ha]
    simp [digit, g1, g2]
  · rintro σ H1 ⟨rfl, ha, y, z, rfl⟩
    have e : (c :: r).take (SX.S (c :: r)).cps.size = c :: r := by
      show (c :: r).take ((c :: r).toArray).size = _
      rw [List.size_toArray, List.take_length]
    rw [e] at ha
    rw [ha, Bool.true_and] at h
    have dg : NumText.AllDigits (c :: r) := fun d hd => by
      have := List.all_eq_true.mp ha d hd
      unfold digit at this
      simpa [Bool.and_eq_true, decide_eq_true_eq] using this
    have ei := intText_digits (x := SX.S (c :: r)) dg (by simp) (by rw [SX.S_len]; omega)
    refine ⟨.str (SX.S (c :: r)), rfl, SX.S (c :: r), _, rfl, ei, by rw [SX.S_len]; omega, .int _, rfl, _, 400, rfl, rfl, _, rfl, ?_⟩
    have ex : (SX.S (c :: r)).cps.toList = c :: r := rfl
    rw [ex]
    by_cases h4 : NumText.digitsVal (c :: r) ≤ 400
    · rw [decide_eq_false (show ¬ (400 : Int) < (NumText.digitsVal (c :: r) : Nat) by omega)]
      rw [decide_eq_true h4] at h
      refine iteF ⟨_, rfl, ?_⟩
      rcases h with ⟨h, _⟩ | ⟨_, h⟩
      · cases h
      · exact h
    · rw [decide_eq_true (show (400 : Int) < (NumText.digitsVal (c :: r) : Nat) by omega)]
      rw [decide_eq_false h4] at h
      refine iteT ?_
      rcases h with ⟨_, h⟩ | ⟨h, _⟩
      · exact h
      · cases h
def sp_p_pair (K : PySem.W.Frag) (a : Ad) : Sp := fun vs H Q E => ∃ r : List Nat, vs = [.str (SX.S r)] ∧ r.length ≤ 1000000 ∧ ((rowW r = none ∧ ∀ H', Same H H' → E (.ref a.e_NoText) none H') ∨
  ∃ w k, rowW r = some (w, k) ∧ ∀ (p : Addr) (H' : Hp), H p = none → Same H H' → H' p = some (.tup [.str (SX.S w), .int (k : Nat)]) → Q (.ref p) H')
abbrev N_p_pair : List Str := ["row", "words"]
def t_p_pair (K : PySem.W.Frag) (a : Ad) (E : XK) : TS :=
  (tSeq (tAsg (tSplit (tVar 0) (tC (.str (Str.ofString " ")))) (gName 1))
    (tSeq (tIfS (tTest (tOp rNe (tCB (rLenSq K) (tCons (tVar 1) tNil)) (tC (.int 2)))) (tRaise a.e_NoText E) tNext)
    (tRet (tTup (tCons (tOp (rIxL K) (tVar 1) (tC (.int 0))) (tCons (tCall (sp_p_number K a) [] E (tCons (tOp (rIxL K) (tVar 1) (tC (.int 1))) tNil)) tNil))))))
theorem len_p_pair {K : PySem.W.Frag} {a : Ad} {vs : List V} {H : Hp} {Q : VK} {E : XK} (h : sp_p_pair K a vs H Q E) : vs.length = 1 := by
  obtain ⟨r, rfl, _⟩ := h
  rfl
theorem pu_p_pair {K : PySem.W.Frag} {a : Ad} {vs : List V} {H : Hp} {Q : VK} {E : XK} (h : sp_p_pair K a vs H Q E) : t_p_pair K a E { nx := fun _ H' => Q .non H', rt := Q } (start N_p_pair vs) H := by
  obtain ⟨r, rfl, hl, h⟩ := h
  have hz : (SX.S r).length + 2 ≤ sizeLine := by
    rw [SX.S_len]
    exact ml2 hl
  refine ⟨.str (SX.S r), rfl, ⟨_, rfl⟩, SX.S r, Str.ofString " ", rfl, rfl, by decide +kernel, hz, fun p np => ?_⟩
  rw [split_bl]
  have hlen := spl_len [32] r 0 []
  generalize hsp : TL.spl [32] 0 [] r = ps at hlen
  have s0 : Same H (upd H p (.lst ((ps.map SX.S).map V.str))) := same_new np
  refine ⟨.ref p, rfl, p, _, rfl, .inl (sqL_of upd_same), rfl, _, rfl, ?_⟩
  rw [List.length_map, List.length_map]
  have bad : rowW r = none → ∀ H', Same H H' → E (.ref a.e_NoText) none H' := fun e => by
    rcases h with ⟨_, h⟩ | ⟨w, k, h, _⟩
    · exact h
    · rw [e] at h; cases h
  by_cases h2 : ps.length = 2
  rotate_left
  · have e : (!decide (V.int (ps.length : Nat) = V.int 2)) = true := by
      rw [decide_eq_false fun z => h2 (by have := V.int.inj z; omega)]
      rfl
    rw [e]
    refine iteT (bad ?_ _ s0)
    unfold rowW
    rw [hsp]
    match ps, h2 with
    | [], _ => rfl
    | [_], _ => rfl
    | [_, _], h2 => exact absurd rfl h2
    | _ :: _ :: _ :: _, _ => rfl
  obtain ⟨w, x, rfl⟩ : ∃ w x, ps = [w, x] := by
    match ps, h2 with
    | [w, x], _ => exact ⟨w, x, rfl⟩
  have e : (!decide (V.int (([w, x] : List (List Nat)).length : Nat) = V.int 2)) = false := by
    rw [decide_eq_true (show V.int (([w, x] : List (List Nat)).length : Nat) = V.int 2 from rfl)]
    rfl
  rw [e]
  have hx : x.length ≤ 1000000 := by
    have := hlen x (by simp)
    simp only [List.length_nil] at this
    omega
  refine iteF ⟨.ref p, rfl, p, _, 0, .str (SX.S w), rfl, rfl, sqL_of upd_same, atI_nat (j := 0) rfl, .ref p, rfl, p, _, 1, .str (SX.S x), rfl, rfl, sqL_of upd_same, atI_nat (j := 1) rfl, x, rfl, hx, ?_⟩
  have er : rowW r = if numOk x = true then some (w, NumText.digitsVal x) else none := by
    unfold rowW
    rw [hsp]
  cases hn : numOk x with
  | false =>
    rw [hn] at er
    exact .inl ⟨rfl, bad er _ s0⟩
  | true =>
    rw [hn, if_pos rfl] at er
    refine .inr ⟨rfl, (by show 2 ≤ sizeLine; decide), fun t nt => ?_⟩
    rcases h with ⟨h, _⟩ | ⟨w', k, h, q⟩
    · rw [er] at h; cases h
    · rw [er] at h
      cases h
      exact q t _ (s0.free nt) (s0.trans (same_new nt)) upd_same

/-! ### the parts of a text -/
def PrAt (K : PySem.W.Frag) (H : Hp) : List V → List (Str × Int) → Prop := Paired fun v p => ∃ t, v = .ref t ∧ SqT K H t [.str p.1, .int p.2]
theorem PrAt.same {K : PySem.W.Frag} {H H' : Hp} {vs : List V} {l : List (Str × Int)} (h : PrAt K H vs l) (s : Same H H') : PrAt K H' vs l := pd_imp h fun _ _ ⟨t, q, r⟩ => ⟨t, q, s.seqT r⟩
theorem PrAt.nt {K : PySem.W.Frag} {H H' : Hp} {d : Addr} {vs : List V} {l : List (Str × Int)} (hd : NT H d) (k : ∀ c o, H c = some o → c ≠ d → H' c = some o) (h : PrAt K H vs l) : PrAt K H' vs l := pd_imp h fun _ _ ⟨t, q, r⟩ => ⟨t, q, seqT_nt hd k r⟩
def textV : V → Bool
  | .str t => textOk t.cps.toList
  | _ => false
def rowsOf (t : List Nat) : List (List Nat) := TL.spl [10] 0 [] t.dropLast
def TxIn (K : PySem.W.Frag) (H : Hp) (x : V) : Prop := (∃ T, TyB K H x T) ∧ ∀ t, x = .str t → t.length ≤ 10000
def sp_p_parts (K : PySem.W.Frag) (a : Ad) : Sp := fun vs H Q E => ∃ x, vs = [x] ∧ TxIn K H x ∧ ((textV x = false ∧ ∀ H', Same H H' → E (.ref a.e_NoText) none H') ∨
  ∃ t : List Nat, x = .str (SX.S t) ∧ textOk t = true ∧ ∀ (p l : Addr) (rs : List V) (H' : Hp), H p = none → H l = none → Same H H' → H' p = some (.tup [.str (kindS (kindOf (rowsOf t))), .int (sizeOf' (rowsOf t) : Nat), .ref l]) →
    H' l = some (.lst rs) → PrAt K H' rs ((rowsOf t).tail.map shipOf) → Q (.ref p) H')
abbrev N_p_parts : List Str := ["text", "pairs", "kind", "berths", "ships", "name", "_", "row"]
def t_p_parts (K : PySem.W.Frag) (a : Ad) (E : XK) : TS :=
  (tSeq (tIfS (tOr (tTest (tOp rNT (tCB (rTyp K) (tCons (tVar 0) tNil)) (tC (.ty "str")))) (tNot (tB (tEnds (tVar 0) (tC (.str (Str.ofString "\n"))))))) (tRaise a.e_NoText E) tNext)
    (tSeq (tAsg (tLc (iList K (tSplit (tSl rSlS (tVar 0) tNoPart (tPart (tUn (rU fun i => .int (-i)) (tC (.int 1))))) (tC (.str (Str.ofString "\n"))))) (gName 7) tYes (tCall (sp_p_pair K a) [] E (tCons (tVar 7) tNil)) [7]) (gName 1))
    (tSeq (tAsg (tOp (rIxL K) (tVar 1) (tC (.int 0))) (gTup K 2 (gCons (gName 2) (gCons (gName 3) gNil))))
    (tSeq (tAsg (tSl (rSlL K) (tVar 1) (tPart (tC (.int 1))) tNoPart) (gName 4))
    (tSeq (tIfS (tAnd (tTest (tOp rNe (tVar 2) (tC (.str (Str.ofString "quay"))))) (tTest (tOp rNe (tVar 2) (tC (.str (Str.ofString "round")))))) (tRaise a.e_NoText E) tNext)
    (tSeq (tFor (iList K (tVar 4)) (gTup K 2 (gCons (gName 5) (gCons (gName 6) gNil)))
    (tIfS (tNot (tB (tCall (sp_is_name K a) [] E0 (tCons (tVar 5) tNil)))) (tRaise a.e_NoText E) tNext))
    (tRet (tTup (tCons (tVar 2) (tCons (tVar 3) (tCons (tVar 4) tNil)))))))))))
theorem len_p_parts {K : PySem.W.Frag} {a : Ad} {vs : List V} {H : Hp} {Q : VK} {E : XK} (h : sp_p_parts K a vs H Q E) : vs.length = 1 := by
  obtain ⟨x, rfl, _⟩ := h
  rfl
theorem headOk_some {r : List Nat} (h : headOk r = true) : ∃ b k, rowW r = some (kindL b, k) := by
  unfold headOk at h
  split at h
  · rename_i w k e
    simp only [Bool.or_eq_true, decide_eq_true_eq] at h
    rcases h with h | h
    · exact ⟨false, k, by rw [e, h]; rfl⟩
    · exact ⟨true, k, by rw [e, h]; rfl⟩
  · cases h
theorem pu_p_parts {K : PySem.W.Frag} {a : Ad} {vs : List V} {H : Hp} {Q : VK} {E : XK} (h : sp_p_parts K a vs H Q E) : t_p_parts K a E { nx := fun _ H' => Q .non H', rt := Q } (start N_p_parts vs) H := by
  obtain ⟨x, rfl, ⟨⟨T, ty⟩, hlen⟩, h⟩ := h
  have bad : textV x = false → ∀ H', Same H H' → E (.ref a.e_NoText) none H' := fun e => by
    rcases h with ⟨_, h⟩ | ⟨t, rfl, h, _⟩
    · exact h
    · rw [show textV (.str (SX.S t)) = textOk t from rfl, h] at e; cases e
  refine ⟨x, rfl, x, T, rfl, ty, T, "str", rfl, rfl, _, rfl, ?_⟩
  rw [tyb_str ty]
  cases x with
  | str z =>
    obtain ⟨t, rfl⟩ : ∃ t, z = SX.S t := ⟨z.cps.toList, (SX.S_tl z).symm⟩
    have hl : t.length ≤ 10000 := by have := hlen _ rfl; rwa [SX.S_len] at this
    replace bad : textOk t = false → ∀ H', Same H H' → E (.ref a.e_NoText) none H' := bad
    refine iteF ⟨.str (SX.S t), rfl, ⟨_, rfl⟩, SX.S t, Str.ofString "\n", rfl, rfl, _, rfl, ?_⟩
    rw [ends_nl]
    by_cases he : t.getLast? = some 10
    rotate_left
    · rw [decide_eq_false he]
      exact iteT (bad (by unfold textOk; rw [decide_eq_false he]; rfl) H (Same.refl _))
    rw [decide_eq_true he]
    have eo : textOk t = rowsOk (rowsOf t) := by
      unfold textOk rowsOf
      rw [decide_eq_true he]
      rfl
    rw [eo] at bad
    have hdl : t.dropLast.length ≤ 10000 := by
      rw [List.length_dropLast]
      omega
    refine iteF ⟨.str (SX.S t), rfl, 1, rfl, -1, rfl, SX.S t, rfl, by rw [SX.S_len]; exact ml (by omega), ⟨_, rfl⟩, cutS (SX.S t) none (some (-1)), Str.ofString "\n", rfl, rfl, by decide +kernel, by rw [cut_last, SX.S_len]; exact ml2 (by omega), fun l nl => ?_⟩
    rw [cut_last, split_nl]
    have hrl : ∀ r ∈ rowsOf t, r.length ≤ 10000 := fun r hr => by
      have := spl_len [10] t.dropLast 0 [] r hr
      simp only [List.length_nil] at this
      omega
    have hrn : (rowsOf t).length ≤ 10001 := by
      have := spl_many [10] t.dropLast 0 []
      unfold rowsOf
      omega
    have hr0 : rowsOf t ≠ [] := spl_ne _ _ _ _
    rw [show TL.spl [10] 0 [] t.dropLast = rowsOf t from rfl]
    generalize hR : rowsOf t = rows at hrl hrn hr0 bad eo ⊢
    have s0 : Same H (upd H l (.lst ((rows.map SX.S).map V.str))) := same_new nl
    refine ⟨l, rfl, ⟨_, sqL_of upd_same⟩, fun D nD => ?_⟩
    have nD0 : H D = none := s0.free nD
    refine lc_it (walk_list (K := K) (a := l) (xs := (rows.map SX.S).map V.str)) (fun i H' => Same (upd H l (.lst ((rows.map SX.S).map V.str))) H' ∧ (∀ r ∈ rows.take i, rowW r ≠ none) ∧ ∃ ts, H' D = some (.lst ts) ∧ PrAt K H' ts ((rows.take i).map shipOf))
      ⟨same_new nD, fun r hr => (by cases hr), [], upd_same, .nil⟩ (fun i H' _ h => h.1.seq (sqL_of upd_same)) ?_ ?_
    · rintro i v H2 H3 hi ⟨s2, hw, ts, ets, tr⟩ ⟨rfl, hv⟩
      obtain ⟨r, hr, rfl⟩ : ∃ r, rows[i]? = some r ∧ v = .str (SX.S r) := by
        rw [List.getElem?_map, List.getElem?_map] at hv
        cases e : rows[i]? with
        | none => rw [e] at hv; cases hv
        | some r => rw [e] at hv; exact ⟨r, rfl, (Option.some.inj hv).symm⟩
      have hm := List.mem_of_getElem? hr
      dsimp only [tYes]
      refine ⟨rfl, ?_⟩
      rw [if_pos rfl]
      refine ⟨_, rfl, r, rfl, Nat.le_trans (hrl r hm) (by decide), ?_⟩
      cases er : rowW r with
      | none =>
        refine .inl ⟨rfl, fun H' s' => bad ?_ H' ((s0.trans s2).trans s')⟩
        cases rows with
        | nil => rfl
        | cons h0 rest =>
          show (headOk h0 && rest.all shipOk) = false
          cases List.mem_cons.mp hm with
          | inl e =>
            subst e
            unfold headOk
            rw [er]
            rfl
          | inr e =>
            cases z : rest.all shipOk with
            | false => rw [Bool.and_false]
            | true =>
              rw [List.all_eq_true] at z
              have := z r e
              unfold shipOk at this
              rw [er] at this
              cases this
      | some q =>
        obtain ⟨w, k⟩ := q
        refine .inr ⟨w, k, rfl, fun p H' np s' ep => ?_⟩
        have hts : ts.length < sizeLine := by
          rw [pd_len tr, List.length_map, List.length_take]
          exact Nat.lt_of_le_of_lt (Nat.min_le_right _ _) (Nat.lt_of_le_of_lt hrn (by decide))
        have ets' := s' _ _ ets
        have hDne : ∀ c o, H' c = some o → c ≠ D → (upd H' D (.lst (ts ++ [.ref p]))) c = some o := fun c o e ne => by rw [upd_ne ne]; exact e
        refine ⟨ts, ets', hts, (s2.trans s').store nD, fun r' hr' => ?_, ts ++ [.ref p], upd_same, ?_⟩
        · rw [take_more hr] at hr'
          rcases List.mem_append.mp hr' with m | m
          · exact hw r' m
          · rw [List.mem_singleton.mp m, er]
            simp
        · rw [take_more hr, List.map_append]
          refine pd_snoc ((tr.same s').nt (nt_lst ets') hDne) ⟨p, rfl, seqT_nt (nt_lst ets') hDne ?_⟩
          have : shipOf r = (SX.S w, (k : Int)) := by unfold shipOf; rw [er]
          rw [this]
          exact sqT_of ep
    · rintro H2 ⟨s2, hw, ts, ets, tr⟩
      rw [List.length_map, List.length_map, List.take_length] at hw tr
      have s02 := s0.trans s2
      -- the first pair
      obtain ⟨h0, rest, rfl⟩ : ∃ h0 rest, rows = h0 :: rest := by
        cases rows with
        | nil => exact absurd rfl hr0
        | cons h0 rest => exact ⟨h0, rest, rfl⟩
      obtain ⟨w0, k0, e0⟩ : ∃ w0 k0, rowW h0 = some (w0, k0) := by
        cases e : rowW h0 with
        | none => exact absurd e (hw h0 List.mem_cons_self)
        | some q => exact ⟨q.1, q.2, rfl⟩
      have es0 : shipOf h0 = (SX.S w0, (k0 : Int)) := by unfold shipOf; rw [e0]
      cases tr with
      | @cons v0 _ trs _ hv0 tr1 =>
      obtain ⟨tp, rfl, ht⟩ := hv0
      rw [es0] at ht
      refine ⟨.ref D, rfl, D, _, 0, .ref tp, rfl, rfl, sqL_of ets, atI_nat (j := 0) rfl, tp, _, rfl, ht, rfl, _, _, rfl, _, _, rfl, rfl, ?_⟩
      refine ⟨.ref D, rfl, 1, rfl, D, _, rfl, sqL_of ets, fun c nc => ?_⟩
      have ec : cutV (V.ref tp :: trs) (some 1) none = trs := cut_drop (V.ref tp :: trs) 1
      rw [ec]
      have s3 : Same H2 (upd H2 c (.lst trs)) := same_new nc
      have s03 := s02.trans s3
      have tr3 := PrAt.same tr1 s3
      generalize hH3 : upd H2 c (.lst trs) = H3 at s03 tr3
      have ec3 : H3 c = some (.lst trs) := by rw [← hH3]; exact upd_same
      -- the first word
      have kq : (Str.ofString "quay") = SX.S quayL := by decide +kernel
      have kr : (Str.ofString "round") = SX.S roundL := by decide +kernel
      have dk : ∀ l m : List Nat, (!decide (V.str (SX.S l) = V.str (SX.S m))) = !decide (l = m) := fun l m => by
        by_cases z : l = m
        · rw [z, decide_eq_true rfl, decide_eq_true rfl]
        · rw [decide_eq_false z, decide_eq_false fun q => z (SX.S_inj (V.str.inj q))]
      have tail : (∃ b, w0 = kindL b) → (tFor (iList K (tVar 4)) (gTup K 2 (gCons (gName 5) (gCons (gName 6) gNil))) (tIfS (tNot (tB (tCall (sp_is_name K a) [] E0 (tCons (tVar 5) tNil)))) (tRaise a.e_NoText E) tNext))
          { nx := fun σ H => tRet (tTup (tCons (tVar 2) (tCons (tVar 3) (tCons (tVar 4) tNil)))) { nx := fun _ H' => Q .non H', rt := Q } σ H, rt := Q }
          [some (.str (SX.S t)), some (.ref D), some (.str (SX.S w0)), some (.int (k0 : Nat)), some (.ref c), none, none, none] H3 := by
        rintro ⟨b, rfl⟩
        have eh : headOk h0 = true := by
          unfold headOk
          rw [e0]
          cases b <;> rfl
        refine ⟨.ref c, rfl, c, rfl, ⟨_, sqL_of ec3⟩, for_list (K := K) (a := c) (xs := trs) (fun i σ H' => H' = H3 ∧ (∀ r ∈ rest.take i, shipOk r = true) ∧ ∃ y z, σ = [some (.str (SX.S t)), some (.ref D), some (.str (SX.S (kindL b))), some (.int (k0 : Nat)), some (.ref c), y, z, none])
          ⟨rfl, fun r hr => (by cases hr), none, none, rfl⟩ (fun i σ H' _ h => h.1 ▸ sqL_of ec3) ?_ ?_⟩
        · rintro i v σ H' hv ⟨rfl, ho, y, z, rfl⟩
          obtain ⟨q, hq, tq, rfl, htq⟩ := pd_get tr3 hv
          rw [List.getElem?_map] at hq
          obtain ⟨r, hr, rfl⟩ : ∃ r, rest[i]? = some r ∧ q = shipOf r := by
            cases e : rest[i]? with
            | none => rw [e] at hq; cases hq
            | some r => rw [e] at hq; exact ⟨r, rfl, (Option.some.inj hq).symm⟩
          have hm := List.mem_of_getElem? hr
          obtain ⟨w, k, er⟩ : ∃ w k, rowW r = some (w, k) := by
            cases e : rowW r with
            | none => exact absurd e (hw r (List.mem_cons_of_mem _ hm))
            | some q => exact ⟨q.1, q.2, rfl⟩
          have es : shipOf r = (SX.S w, (k : Int)) := by unfold shipOf; rw [er]
          rw [es] at htq
          have eo : shipOk r = isNm (SX.S w) := by unfold shipOk; rw [er]
          have hwl : w.length ≤ 10000 := by
            obtain ⟨x', e', _, _⟩ := rowW_some er
            have h1 := spl_len [32] r 0 [] w (by rw [e']; simp)
            have h2 := hrl r (List.mem_cons_of_mem _ hm)
            simp only [List.length_nil] at h1
            omega
          refine ⟨tq, _, rfl, htq, rfl, _, _, rfl, _, _, rfl, rfl, ?_⟩
          refine ⟨.str (SX.S w), rfl, .str (SX.S w), _, rfl, .str _, fun t' e => ?_, isNm (SX.S w), rfl, ?_⟩
          · cases e
            rw [SX.S_len]
            exact ml (by omega)
          cases g : isNm (SX.S w) with
          | false =>
            refine iteT (bad ?_ _ s03)
            show (headOk h0 && rest.all shipOk) = false
            cases z : rest.all shipOk with
            | false => rw [Bool.and_false]
            | true =>
              rw [List.all_eq_true] at z
              rw [z r hm, g] at eo
              cases eo
          | true =>
            refine iteF ⟨rfl, fun r' hr' => ?_, _, _, rfl⟩
            rw [take_more hr] at hr'
            rcases List.mem_append.mp hr' with m | m
            · exact ho r' m
            · rw [List.mem_singleton.mp m, eo, g]
        · rintro σ H' ⟨rfl, ho, y, z, rfl⟩
          have hl2 : trs.length = rest.length := by
            rw [pd_len tr3, List.length_map]
          rw [hl2, List.take_length] at ho
          have ok : rowsOk (h0 :: rest) = true := by
            show (headOk h0 && rest.all shipOk) = true
            rw [eh, Bool.true_and, List.all_eq_true]
            exact ho
          rcases h with ⟨h, _⟩ | ⟨t', e', ht', q⟩
          · rw [show textV (.str (SX.S t)) = textOk t from rfl, eo, ok] at h
            cases h
          · have et : t = t' := SX.S_inj (V.str.inj e')
            subst et
            rw [hR] at q
            refine ⟨_, rfl, _, rfl, _, rfl, (by show 3 ≤ sizeLine; decide), fun p np => ?_⟩
            have s4 : Same H' (upd H' p (.tup [.str (SX.S (kindL b)), .int (k0 : Nat), .ref c])) := same_new np
            refine q p c trs _ (s03.free np) (s02.free nc) (s03.trans s4) ?_ (s4 _ _ ec3) (tr3.same s4)
            rw [upd_same]
            have e1 : kindS (kindOf (h0 :: rest)) = SX.S (kindL b) := by
              rw [kindS_L]
              congr 2
              show (match rowW h0 with | some (w, _) => decide (w = roundL) | none => false) = b
              rw [e0]
              cases b <;> rfl
            have e2 : sizeOf' (h0 :: rest) = k0 := by
              show (match rowW h0 with | some (_, k) => k | none => 0) = k0
              rw [e0]
            rw [e1, e2]
      refine ⟨_, rfl, rfl, _, rfl, ?_⟩
      show (if (!decide (V.str (SX.S w0) = V.str (Str.ofString "quay"))) = true then _ else _)
      rw [kq, dk]
      by_cases z1 : w0 = quayL
      · rw [decide_eq_true z1]
        exact iteF (iteF (tail ⟨false, z1⟩))
      rw [decide_eq_false z1]
      refine iteT ⟨_, rfl, rfl, _, rfl, ?_⟩
      show (if (!decide (V.str (SX.S w0) = V.str (Str.ofString "round"))) = true then _ else _)
      rw [kr, dk]
      by_cases z2 : w0 = roundL
      · rw [decide_eq_true z2]
        exact iteF (tail ⟨true, z2⟩)
      rw [decide_eq_false z2]
      refine iteT (bad ?_ _ s03)
      show (headOk h0 && rest.all shipOk) = false
      have : headOk h0 = false := by
        unfold headOk
        rw [e0]
        simp [z1, z2]
      rw [this, Bool.false_and]
  | _ => exact iteT (bad rfl H (Same.refl _))

/-! ### a text read: a quay, or a refusal -/
inductive Rk where
  | text | taken | wish | room
  deriving DecidableEq
def clsK (a : Ad) : Rk → Addr
  | .text => a.e_NoText
  | .taken => a.e_Taken
  | .wish => a.e_NoWish
  | .room => a.e_NoRoom
def wordK : Rk → Str
  | .text => Str.ofString "text"
  | .taken => Str.ofString "taken"
  | .wish => Str.ofString "wish"
  | .room => Str.ofString "room"
/-- ships that come one behind the other -/
def load (b : Bool) (n : Nat) : List Ship → List (Str × Int) → Except Rk (List Ship)
  | ss, [] => .ok ss
  | ss, p :: r => if p.1 ∈ ss.map (·.1) then .error .taken else if inB 1 n (.int p.2) = false then .error .wish else match ffq b n (occS ss) p.2 with
    | none => .error .room
    | some l => load b n (ss ++ [(p.1, p.2, l)]) r
def LoadIs (K : PySem.W.Frag) (a : Ad) (b : Bool) (n : Nat) (H : Hp) (Q : VK) (E : XK) : Except Rk (List Ship) → Prop
  | .error k => ∀ H', Same H H' → E (.ref (clsK a k)) none H'
  | .ok ss => ∀ (p d : Addr) (H' : Hp), H p = none → H d = none → Same H H' → QuayAt K (a.cls b) H' p d n ss → Q (.ref p) H'
def sp_read (K : PySem.W.Frag) (a : Ad) : Sp := fun vs H Q E => ∃ x, vs = [x] ∧ TxIn K H x ∧ ((textV x = false ∧ ∀ H', Same H H' → E (.ref a.e_NoText) none H') ∨
  ∃ t : List Nat, x = .str (SX.S t) ∧ textOk t = true ∧ (rowsOf t).length ≤ 501 ∧ LoadIs K a (kindOf (rowsOf t)) (sizeOf' (rowsOf t)) H Q E (load (kindOf (rowsOf t)) (sizeOf' (rowsOf t)) [] ((rowsOf t).tail.map shipOf)))
abbrev N_read : List Str := ["text", "kind", "berths", "ships", "quay", "name", "wish"]
def t_read (K : PySem.W.Frag) (a : Ad) (E : XK) : TS :=
  (tSeq (tAsg (tCall (sp_p_parts K a) [] E (tCons (tVar 0) tNil)) (gTup K 3 (gCons (gName 1) (gCons (gName 2) (gCons (gName 3) gNil)))))
    (tSeq (tAsg (tIf (tTest (tOp rEq (tVar 1) (tC (.str (Str.ofString "round"))))) (tMk a.c_Round (sp_M_init K a true) (fun _ => E) (tCons (tVar 2) tNil)) (tMk a.c_Quay (sp_M_init K a false) (fun _ => E) (tCons (tVar 2) tNil))) (gName 4))
    (tSeq (tFor (iList K (tVar 3)) (gTup K 2 (gCons (gName 5) (gCons (gName 6) gNil)))
    (tDrop (tMethB a.cls "come" (fun b => sp_M_come K a b) (fun _ => E) (tVar 4) (tCons (tVar 5) (tCons (tVar 6) tNil)))))
    (tRet (tVar 4)))))
theorem len_read {K : PySem.W.Frag} {a : Ad} {vs : List V} {H : Hp} {Q : VK} {E : XK} (h : sp_read K a vs H Q E) : vs.length = 1 := by
  obtain ⟨x, rfl, _⟩ := h
  rfl
theorem textOk_rows {t : List Nat} (h : textOk t = true) : rowsOk (rowsOf t) = true := by
  unfold textOk at h
  rw [Bool.and_eq_true] at h
  exact h.2
theorem rowsOk_size {rs : List (List Nat)} (h : rowsOk rs = true) : 1 ≤ sizeOf' rs ∧ sizeOf' rs ≤ 400 := by
  cases rs with
  | nil => cases h
  | cons r rest =>
    have h1 : (headOk r && rest.all shipOk) = true := h
    rw [Bool.and_eq_true] at h1
    obtain ⟨b, k, e⟩ := headOk_some h1.1
    show 1 ≤ (match rowW r with | some (_, k) => k | none => 0) ∧ (match rowW r with | some (_, k) => k | none => 0) ≤ 400
    rw [e]
    exact rowW_rg e
theorem rowsOk_names {rs : List (List Nat)} (h : rowsOk rs = true) : ∀ p ∈ rs.tail.map shipOf, isNm p.1 = true := by
  cases rs with
  | nil => cases h
  | cons r rest =>
    have h1 : (headOk r && rest.all shipOk) = true := h
    rw [Bool.and_eq_true, List.all_eq_true] at h1
    intro p hp
    obtain ⟨x, hx, rfl⟩ := List.mem_map.mp hp
    have := h1.2 x hx
    unfold shipOk at this
    unfold shipOf
    split at this
    · exact this
    · cases this
theorem isNm_len {t : Str} (h : isNm t = true) : t.length ≤ sizeLine := ml (by have := (isNm_sign h).1; omega)
theorem pu_read {K : PySem.W.Frag} {a : Ad} {vs : List V} {H : Hp} {Q : VK} {E : XK} (h : sp_read K a vs H Q E) : t_read K a E { nx := fun _ H' => Q .non H', rt := Q } (start N_read vs) H := by
  obtain ⟨x, rfl, tx, h⟩ := h
  refine ⟨x, rfl, x, rfl, tx, ?_⟩
  rcases h with h | ⟨t, rfl, ok, hlen, h⟩
  · exact .inl h
  refine .inr ⟨t, rfl, ok, fun p l rs H1 np nl s1 ep el pr => ?_⟩
  have ok2 := textOk_rows ok
  have hn := rowsOk_size ok2
  have hnm := rowsOk_names ok2
  have hsl : ((rowsOf t).tail.map shipOf).length ≤ 500 := by
    rw [List.length_map, List.length_tail]
    omega
  generalize (rowsOf t).tail.map shipOf = ships at *
  generalize kindOf (rowsOf t) = b at *
  generalize sizeOf' (rowsOf t) = n at *
  refine ⟨p, _, rfl, sqT_of ep, rfl, _, _, rfl, _, _, rfl, _, _, rfl, rfl, ?_⟩
  -- the quay is made
  have made : ∀ (q d : Addr) (H2 : Hp), H1 q = none → H1 d = none → Same H1 H2 → QuayAt K (a.cls b) H2 q d n [] →
      (tSeq (tFor (iList K (tVar 3)) (gTup K 2 (gCons (gName 5) (gCons (gName 6) gNil))) (tDrop (tMethB a.cls "come" (fun b => sp_M_come K a b) (fun _ => E) (tVar 4) (tCons (tVar 5) (tCons (tVar 6) tNil))))) (tRet (tVar 4)))
        { nx := fun _ H' => Q .non H', rt := Q } [some (.str (SX.S t)), some (.str (kindS b)), some (.int n), some (.ref l), some (.ref q), none, none] H2 := by
    intro q d H2 nq nd s2 S
    have el2 := s2 _ _ el
    have pr2 := pr.same s2
    have hld : l ≠ d := ne_of_none el nd
    refine ⟨.ref l, rfl, l, rfl, ⟨_, sqL_of el2⟩, for_list (K := K) (a := l) (xs := rs) (fun i σ H' => ∃ ss, load b n [] ships = load b n ss (ships.drop i) ∧ QuayAt K (a.cls b) H' q d n ss ∧ ss.length = i ∧ Same H H' ∧ (∀ c o, H2 c = some o → c ≠ d → H' c = some o) ∧
        ∃ y z, σ = [some (.str (SX.S t)), some (.str (kindS b)), some (.int n), some (.ref l), some (.ref q), y, z])
      ⟨[], rfl, S, rfl, s1.trans s2, fun c o e _ => e, none, none, rfl⟩ (fun i σ H' _ ⟨ss, _, _, _, _, k, _⟩ => sqL_of (k _ _ el2 hld)) ?_ ?_⟩
    · rintro i v σ H' hv ⟨ss, e1, S1, hss, sH, k, y, z, rfl⟩
      obtain ⟨sp, hsp, tq, rfl, htq⟩ := pd_get pr2 hv
      have hm := List.mem_of_getElem? hsp
      obtain ⟨kvs0, hd0, _⟩ := S.dc
      have htq1 := seqT_but hd0 k htq
      have hil := (List.getElem?_eq_some_iff.mp hsp).1
      have edrop : ships.drop i = sp :: ships.drop (i + 1) := by
        have := (List.getElem?_eq_some_iff.mp hsp).2
        rw [← this]
        exact List.drop_eq_getElem_cons hil
      rw [edrop] at e1
      have e2 : load b n ss (sp :: ships.drop (i + 1)) = if sp.1 ∈ ss.map (·.1) then .error .taken else if inB 1 n (.int sp.2) = false then .error .wish else match ffq b n (occS ss) sp.2 with
          | none => .error .room
          | some l => load b n (ss ++ [(sp.1, sp.2, l)]) (ships.drop (i + 1)) := rfl
      rw [e2] at e1
      obtain ⟨dx, hq⟩ := S1.ob
      have nm := hnm sp hm
      refine ⟨tq, _, rfl, htq1, rfl, _, _, rfl, _, _, rfl, rfl, ?_⟩
      refine ⟨_, rfl, b, q, dx, _, rfl, hq, by rfl, _, rfl, _, rfl, q, d, n, ss, .str sp.1, .int sp.2, rfl, S1, by omega, ⟨_, .int _⟩, ⟨_, .str _⟩, fun t' e => (by cases e; exact isNm_len nm), .inr ⟨sp.1, rfl, nm, ?_⟩⟩
      by_cases c1 : sp.1 ∈ ss.map (·.1)
      · rw [if_pos c1] at e1
        rw [e1] at h
        exact .inl ⟨c1, h _ sH⟩
      rw [if_neg c1] at e1
      refine .inr ⟨c1, ?_⟩
      cases c2 : inB 1 n (.int sp.2) with
      | false =>
        rw [c2, if_pos rfl] at e1
        rw [e1] at h
        exact .inl ⟨rfl, h _ sH⟩
      | true =>
        rw [c2, if_neg (by decide)] at e1
        obtain ⟨wi, ew, w1, w2⟩ := inB_int c2
        cases ew
        refine .inr ⟨sp.2, rfl, w1, w2, ?_⟩
        cases c3 : ffq b n (occS ss) sp.2 with
        | none =>
          rw [c3] at e1
          rw [e1] at h
          exact .inl ⟨rfl, fun H'' s'' => h _ (sH.trans s'')⟩
        | some lb =>
          rw [c3] at e1
          obtain ⟨g1, g2, _⟩ := ffq_rg c3 w1
          refine .inr ⟨lb, rfl, g1, g2, fun H'' k1 S2 => ⟨ss ++ [(sp.1, sp.2, lb)], e1, S2, by rw [List.length_append, hss]; rfl, fun c o e => ?_, fun c o e ne => k1 c o (k c o e ne) ne, _, _, rfl⟩⟩
          exact k1 c o (sH c o e) (ne_of_none (s1 c o e) nd)
    · rintro σ H' ⟨ss, e1, S1, hss, sH, k, y, z, rfl⟩
      have hrl : rs.length = ships.length := pd_len pr2
      rw [hrl, List.drop_length] at e1
      rw [e1] at h
      exact ⟨_, rfl, h q d H' (s1.free nq) (s1.free nd) sH S1⟩
  have mk : ∀ (H2 : Hp) (q d dx : Addr), H1 q = none → H1 dx = none → (upd (upd H1 dx (.own q)) q (.ins (a.cls b) dx [])) d = none → (∀ c o, (upd (upd H1 dx (.own q)) q (.ins (a.cls b) dx [])) c = some o → c ≠ q → H2 c = some o) →
      H1 d = none ∧ Same H1 H2 := fun H2 q d dx nq ndx nd k => by
    have s0 : Same H1 (upd (upd H1 dx (.own q)) q (.ins (a.cls b) dx [])) := (same_new ndx).store nq
    exact ⟨s0.free nd, fun c o e => k c o (s0 c o e) (ne_of_none e nq)⟩
  refine ⟨_, rfl, rfl, _, rfl, ?_⟩
  have dk : decide (V.str (kindS b) = V.str (Str.ofString "round")) = b := by
    cases b
    · refine decide_eq_false fun z => ?_
      exact absurd (V.str.inj z) (by decide +kernel)
    · exact decide_eq_true rfl
  show (if decide (V.str (kindS b) = V.str (Str.ofString "round")) = true then _ else _)
  rw [dk]
  cases b with
  | false =>
    refine iteF ⟨_, rfl, fun q dx nq ndx _ => ⟨q, dx, .int n, rfl, upd_same, ChkQ.ok hn.1 hn.2 fun d H2 nd k S => ⟨rfl, ?_⟩⟩⟩
    obtain ⟨nd1, s2⟩ := mk H2 q d dx nq ndx nd k
    exact made q d H2 nq nd1 s2 S
  | true =>
    refine iteT ⟨_, rfl, fun q dx nq ndx _ => ⟨q, dx, .int n, rfl, upd_same, ChkQ.ok hn.1 hn.2 fun d H2 nd k S => ⟨rfl, ?_⟩⟩⟩
    obtain ⟨nd1, s2⟩ := mk H2 q d dx nq ndx nd k
    exact made q d H2 nq nd1 s2 S

/-! ### a quay written -/
theorem lines_sum : ∀ rs : List (List Nat), ((rs.map fun r => SX.S (r ++ [10])).map (·.length)).sum = (lines rs).length
  | [] => rfl
  | r :: rs => by
    rw [lines_cons, List.length_append, ← lines_sum rs, List.map_cons, List.map_cons, List.sum_cons, SX.S_len]
theorem joinL_flat : ∀ rs : List (List Nat), TL.joinL [] rs = rs.flatten
  | [] => rfl
  | [p] => by simp [TL.joinL]
  | p :: q :: r => by
    have e2 : TL.joinL [] (p :: q :: r) = p ++ ([] ++ TL.joinL [] (q :: r)) := rfl
    rw [e2, joinL_flat (q :: r)]
    simp
theorem join_lines (rs : List (List Nat)) : Txt.join (Str.ofString "") (rs.map fun r => SX.S (r ++ [10])) = SX.S (lines rs) := by
  have e : (rs.map fun r => SX.S (r ++ [10])) = (rs.map (· ++ [10])).map SX.S := by rw [List.map_map]; rfl
  rw [e, show (Str.ofString "") = SX.S [] by decide +kernel, SX.join_S, joinL_flat]
  rfl
theorem rowsL_snoc {b : Bool} {n : Nat} {ks : List (Str × Int)} {k : Str × Int} : rowsL b n (ks ++ [k]) = rowsL b n ks ++ [rowL k.1.cps.toList k.2.toNat] := by simp [rowsL]
theorem str_int {w : Int} (h : 0 ≤ w) : (Str.ofString (toString w)) = SX.S (TL.numL w.toNat) := by
  have e : w = ((w.toNat : Nat) : Int) := by omega
  rw [← str_num, ← e]
theorem bl_S : (Str.ofString " ") = SX.S [32] := by decide +kernel
theorem nl_S : (Str.ofString "\n") = SX.S [10] := by decide +kernel
theorem em_S : Str.empty = SX.S [] := by decide +kernel
def sp_written (K : PySem.W.Frag) (a : Ad) : Sp := fun vs H Q _ => ∃ (b : Bool) (p d : Addr) (n : Nat) (ss : List Ship), vs = [.ref p] ∧ QuayAt K (a.cls b) H p d n ss ∧ NmOk n (keys ss) ∧ ∀ H', Same H H' → Q (.str (SX.S (textL b n (keys ss)))) H'
abbrev N_written : List Str := ["quay", "rows", "name", "wish", "_"]
def t_written (K : PySem.W.Frag) (a : Ad) : TS :=
  (tSeq (tAsg (tLst (tCons (tJoined [(tFmt (tMethB a.cls "kind" (fun b => sp_M_kind K a b) (fun _ => E0) (tVar 0) tNil)), (tC (.str (Str.ofString " "))), (tFmt (tMethB a.cls "size" (fun b => sp_M_size K a b) (fun _ => E0) (tVar 0) tNil)), (tC (.str (Str.ofString "\n")))]) tNil)) (gName 1))
    (tSeq (tFor (iList K (tMethB a.cls "all_ships" (fun b => sp_M_all_ships K a b) (fun _ => E0) (tVar 0) tNil)) (gTup K 3 (gCons (gName 2) (gCons (gName 3) (gCons (gName 4) gNil))))
    (tDrop (tBM K "list" rAppend (tVar 1) (tCons (tJoined [(tFmt (tVar 2)), (tC (.str (Str.ofString " "))), (tFmt (tVar 3)), (tC (.str (Str.ofString "\n")))]) tNil))))
    (tRet (tJoin K (tC (.str (Str.ofString ""))) (tVar 1)))))
theorem len_written {K : PySem.W.Frag} {a : Ad} {vs : List V} {H : Hp} {Q : VK} {E : XK} (h : sp_written K a vs H Q E) : vs.length = 1 := by
  obtain ⟨b, p, d, n, ss, rfl, _⟩ := h
  rfl
theorem small12 {t : Str} {r : List Nat} (e : t = SX.S r) (h : r.length ≤ 100) : t.length ≤ sizeLine := by
  rw [e, SX.S_len]
  exact ml (by omega)
theorem numL3 {w : Int} (h0 : 0 ≤ w) (h : w ≤ 400) : (TL.numL w.toNat).length ≤ 3 := numL_len4 (by omega)
theorem pu_written {K : PySem.W.Frag} {a : Ad} {vs : List V} {H : Hp} {Q : VK} {E : XK} (h : sp_written K a vs H Q E) : t_written K a { nx := fun _ H' => Q .non H', rt := Q } (start N_written vs) H := by
  obtain ⟨b, p, d, n, ss, rfl, S, ok, q⟩ := h
  obtain ⟨dx, hp⟩ := S.ob
  have hn := S.n1
  have h5 : (kindL b).length ≤ 5 := by cases b <;> decide
  have h3 := numL3 (w := (n : Int)) (by omega) (by omega)
  have en : (Str.ofString (toString (n : Int))) = SX.S (TL.numL n) := str_num n
  rw [Int.toNat_natCast] at h3
  have e1 : Str.empty ++ kindS b = SX.S (kindL b) := by rw [em_S, kindS_L, SX.S_cat]; rfl
  have e2 : SX.S (kindL b) ++ Str.ofString " " = SX.S (kindL b ++ [32]) := by rw [bl_S, SX.S_cat]
  have e3 : SX.S (kindL b ++ [32]) ++ Str.ofString (toString (n : Int)) = SX.S (rowL (kindL b) n) := by
    rw [en, SX.S_cat]
    unfold rowL
    rw [List.append_assoc]
    rfl
  have e4 : SX.S (rowL (kindL b) n) ++ Str.ofString "\n" = SX.S (rowL (kindL b) n ++ [10]) := by rw [nl_S, SX.S_cat]
  have l4 : (rowL (kindL b) n ++ [10]).length ≤ 100 := by
    unfold rowL
    simp only [List.length_append, List.length_cons, List.length_nil]
    omega
  have l3 : (rowL (kindL b) n).length ≤ 100 := by
    rw [List.length_append] at l4
    omega
  refine ⟨.ref p, rfl, b, p, dx, _, rfl, hp, by rfl, p, dx, _, rfl, hp, .inl ⟨kindS b, rfl, small12 (kindS_L b) (by omega), kindS b, rfl, ?_⟩⟩
  rw [e1]
  refine ⟨small12 rfl (by omega), Str.ofString " ", rfl, ?_⟩
  rw [e2]
  refine ⟨small12 rfl (by simp; omega), .ref p, rfl, b, p, dx, _, rfl, hp, by rfl, p, d, n, ss, rfl, S, .inr ⟨n, rfl, log_small (by simp; omega), Str.ofString (toString (n : Int)), rfl, ?_⟩⟩
  rw [e3]
  refine ⟨small12 rfl l3, Str.ofString "\n", rfl, ?_⟩
  rw [e4]
  refine ⟨small12 rfl l4, (by show 1 ≤ sizeLine; decide), fun l0 nl0 => ?_⟩
  have s0 : Same H (upd H l0 (.lst [.str (SX.S (rowL (kindL b) n ++ [10]))])) := same_new nl0
  have S0 := S.same s0
  obtain ⟨dx0, hp0⟩ := S0.ob
  refine ⟨_, rfl, b, p, dx0, _, rfl, hp0, by rfl, p, d, n, ss, rfl, S0, fun l H2 rs nl s2 el tr => ⟨l, rfl, ⟨_, sqL_of el⟩, ?_⟩⟩
  have e0 : H2 l0 = some (.lst [.str (SX.S (rowL (kindL b) n ++ [10]))]) := s2 _ _ upd_same
  have hne : l ≠ l0 := fun z => by rw [z] at nl; rw [upd_same] at nl; cases nl
  have hsl : ss.length ≤ 500 := S.ln
  refine for_list (K := K) (a := l) (xs := rs) (fun i σ H' => (∃ y z u, σ = [some (.ref p), some (.ref l0), y, z, u]) ∧ H' l0 = some (.lst (((rowsL b n (keys (ss.take i))).map fun r => SX.S (r ++ [10])).map V.str)) ∧ ∀ c o, H2 c = some o → c ≠ l0 → H' c = some o)
    ⟨⟨none, none, none, rfl⟩, e0, fun c o e _ => e⟩ (fun i σ H' _ h => sqL_of (h.2.2 _ _ el hne)) ?_ ?_
  · rintro i v σ H' hv ⟨⟨y, z, u, rfl⟩, e1, k1⟩
    obtain ⟨sp, hsp, tq, rfl, htq⟩ := pd_get tr hv
    have hm := List.mem_of_getElem? hsp
    have htq1 := seqT_nt (nt_lst e0) k1 htq
    have hk : (sp.1, sp.2.1) ∈ keys ss := List.mem_map_of_mem (f := fun s : Ship => (s.1, s.2.1)) hm
    have nm := ok.nm _ hk
    have rg := ok.rg _ hk
    dsimp only at nm rg
    have h8 := (isNm_sign nm).1
    have h8' : sp.1.cps.toList.length ≤ 8 := by
      have : sp.1.cps.toList.length = sp.1.length := by simp [Str.length]
      omega
    have h33 := numL3 (w := sp.2.1) (by omega) (by omega)
    have f1 : Str.empty ++ sp.1 = SX.S sp.1.cps.toList := by
      rw [em_S]
      have : sp.1 = SX.S sp.1.cps.toList := (SX.S_tl _).symm
      rw [this, SX.S_cat]
      rfl
    have f2 : SX.S sp.1.cps.toList ++ Str.ofString " " = SX.S (sp.1.cps.toList ++ [32]) := by rw [bl_S, SX.S_cat]
    have f3 : SX.S (sp.1.cps.toList ++ [32]) ++ Str.ofString (toString sp.2.1) = SX.S (rowL sp.1.cps.toList sp.2.1.toNat) := by
      rw [str_int (by omega), SX.S_cat]
      unfold rowL
      rw [List.append_assoc]
      rfl
    have f4 : SX.S (rowL sp.1.cps.toList sp.2.1.toNat) ++ Str.ofString "\n" = SX.S (rowL sp.1.cps.toList sp.2.1.toNat ++ [10]) := by rw [nl_S, SX.S_cat]
    have m4 : (rowL sp.1.cps.toList sp.2.1.toNat ++ [10]).length ≤ 100 := by
      unfold rowL
      simp only [List.length_append, List.length_cons, List.length_nil]
      omega
    have m3 : (rowL sp.1.cps.toList sp.2.1.toNat).length ≤ 100 := by
      rw [List.length_append] at m4
      omega
    refine ⟨tq, _, rfl, htq1, rfl, _, _, rfl, _, _, rfl, _, _, rfl, rfl, ?_⟩
    refine ⟨.ref l0, rfl, .inl ⟨rfl, _, sqL_of e1⟩, .str sp.1, rfl, .inl ⟨sp.1, rfl, isNm_len nm, sp.1, rfl, ?_⟩⟩
    rw [f1]
    refine ⟨small12 rfl (by omega), Str.ofString " ", rfl, ?_⟩
    rw [f2]
    refine ⟨small12 rfl (by simp only [List.length_append, List.length_cons, List.length_nil]; omega), .int sp.2.1, rfl, .inr ⟨sp.2.1, rfl, log_small (by omega), Str.ofString (toString sp.2.1), rfl, ?_⟩⟩
    rw [f3]
    refine ⟨small12 rfl m3, Str.ofString "\n", rfl, ?_⟩
    rw [f4]
    refine ⟨small12 rfl m4, l0, _, _, rfl, rfl, e1, ?_, ⟨_, _, _, rfl⟩, ?_, fun c o e ne => by rw [upd_ne ne]; exact k1 c o e ne⟩
    · rw [List.length_map, List.length_map]
      refine Nat.lt_of_le_of_lt (m := 501) ?_ (by decide)
      unfold rowsL keys
      rw [List.length_cons, List.length_map, List.length_map, List.length_take]
      omega
    · rw [upd_same, take_more hsp, keys_snoc, rowsL_snoc, List.map_append, List.map_append]
      rfl
  · rintro σ H' ⟨⟨y, z, u, rfl⟩, e1, k1⟩
    rw [pd_len tr, List.take_length] at e1
    refine ⟨⟨_, rfl⟩, .ref l0, rfl, Str.ofString "", l0, _, rfl, rfl, .inl (sqL_of e1), ?_, ?_⟩
    · have h1 := text_len (b := b) ok
      rw [lines_sum, show (Str.ofString "").length = 0 from rfl, Nat.mul_zero]
      unfold textL at h1
      omega
    · rw [join_lines]
      exact q H' fun c o e => by
        have ne : c ≠ l0 := ne_of_none e nl0
        exact k1 c o (s2 _ _ (s0 c o e)) ne

/-! ### the law's own writing of a quay -/
def sp_l_text (K : PySem.W.Frag) (a : Ad) : Sp := fun vs H Q _ => ∃ (b : Bool) (p d : Addr) (n : Nat) (ss : List Ship), vs = [.ref p] ∧ QuayAt K (a.cls b) H p d n ss ∧ NmOk n (keys ss) ∧ ∀ H', Same H H' → Q (.str (SX.S (textL b n (keys ss)))) H'
abbrev N_l_text : List Str := ["_law_quay", "_law_rows", "_law_name", "_law_wish", "_law_berth", "_law_row"]
def t_l_text (K : PySem.W.Frag) (a : Ad) : TS :=
  (tSeq (tAsg (tLst (tCons (tOp rAddStr (tOp rAddStr (tMethB a.cls "kind" (fun b => sp_M_kind K a b) (fun _ => E0) (tVar 0) tNil) (tC (.str (Str.ofString " ")))) (tCB rStrI (tCons (tMethB a.cls "size" (fun b => sp_M_size K a b) (fun _ => E0) (tVar 0) tNil) tNil))) tNil)) (gName 1))
    (tSeq (tFor (iList K (tMethB a.cls "all_ships" (fun b => sp_M_all_ships K a b) (fun _ => E0) (tVar 0) tNil)) (gTup K 3 (gCons (gName 2) (gCons (gName 3) (gCons (gName 4) gNil))))
    (tDrop (tBM K "list" rAppend (tVar 1) (tCons (tOp rAddStr (tOp rAddStr (tVar 2) (tC (.str (Str.ofString " ")))) (tCB rStrI (tCons (tVar 3) tNil))) tNil))))
    (tRet (tJoin K (tC (.str (Str.ofString ""))) (tLc (iList K (tVar 1)) (gName 5) tYes (tOp rAddStr (tVar 5) (tC (.str (Str.ofString "\n")))) [5])))))
theorem len_l_text {K : PySem.W.Frag} {a : Ad} {vs : List V} {H : Hp} {Q : VK} {E : XK} (h : sp_l_text K a vs H Q E) : vs.length = 1 := by
  obtain ⟨b, p, d, n, ss, rfl, _⟩ := h
  rfl
theorem lines_sum0 : ∀ rs : List (List Nat), (rs.map fun r => (SX.S r).length).sum = (rs.map (·.length)).sum
  | [] => rfl
  | r :: rs => by rw [List.map_cons, List.map_cons, List.sum_cons, List.sum_cons, lines_sum0 rs, SX.S_len]
theorem pu_l_text {K : PySem.W.Frag} {a : Ad} {vs : List V} {H : Hp} {Q : VK} {E : XK} (h : sp_l_text K a vs H Q E) : t_l_text K a { nx := fun _ H' => Q .non H', rt := Q } (start N_l_text vs) H := by
  obtain ⟨b, p, d, n, ss, rfl, S, ok, q⟩ := h
  obtain ⟨dx, hp⟩ := S.ob
  have hn := S.n1
  have h5 : (kindL b).length ≤ 5 := by cases b <;> decide
  have h3 := numL3 (w := (n : Int)) (by omega) (by omega)
  have en : (Str.ofString (toString (n : Int))) = SX.S (TL.numL n) := str_num n
  rw [Int.toNat_natCast] at h3
  have e3 : kindS b ++ Str.ofString " " ++ Str.ofString (toString (n : Int)) = SX.S (rowL (kindL b) n) := by
    rw [kindS_L, bl_S, en, SX.S_cat, SX.S_cat]
    unfold rowL
    rw [List.append_assoc]
    rfl
  have lk : (kindS b).length ≤ 5 := by rw [kindS_L, SX.S_len]; exact h5
  have lk2 : (kindS b ++ Str.ofString " ").length ≤ 6 := by
    rw [kindS_L, bl_S, SX.S_cat, SX.S_len, List.length_append]
    simp only [List.length_cons, List.length_nil]
    omega
  have ln : (Str.ofString (toString (n : Int))).length ≤ 3 := by rw [en, SX.S_len]; exact h3
  refine ⟨.ref p, rfl, b, p, dx, _, rfl, hp, by rfl, p, dx, _, rfl, hp, kindS b, Str.ofString " ", rfl, rfl, ml (by rw [show (Str.ofString " ").length = 1 from rfl]; omega), .ref p, rfl, b, p, dx, _, rfl, hp, by rfl, p, d, n, ss, rfl, S, n, rfl, log_small (by simp; omega), _, _, rfl, rfl, ml (by omega), ?_⟩
  rw [e3]
  refine ⟨(by show 1 ≤ sizeLine; decide), fun l0 nl0 => ?_⟩
  have s0 : Same H (upd H l0 (.lst [.str (SX.S (rowL (kindL b) n))])) := same_new nl0
  have S0 := S.same s0
  obtain ⟨dx0, hp0⟩ := S0.ob
  refine ⟨_, rfl, b, p, dx0, _, rfl, hp0, by rfl, p, d, n, ss, rfl, S0, fun l H2 rs nl s2 el tr => ⟨l, rfl, ⟨_, sqL_of el⟩, ?_⟩⟩
  have e0 : H2 l0 = some (.lst [.str (SX.S (rowL (kindL b) n))]) := s2 _ _ upd_same
  have hne : l ≠ l0 := fun z => by rw [z] at nl; rw [upd_same] at nl; cases nl
  have hsl : ss.length ≤ 500 := S.ln
  refine for_list (K := K) (a := l) (xs := rs) (fun i σ H' => (∃ y z u, σ = [some (.ref p), some (.ref l0), y, z, u, none]) ∧ H' l0 = some (.lst (((rowsL b n (keys (ss.take i))).map SX.S).map V.str)) ∧ ∀ c o, H2 c = some o → c ≠ l0 → H' c = some o)
    ⟨⟨none, none, none, rfl⟩, e0, fun c o e _ => e⟩ (fun i σ H' _ h => sqL_of (h.2.2 _ _ el hne)) ?_ ?_
  · rintro i v σ H' hv ⟨⟨y, z, u, rfl⟩, e1, k1⟩
    obtain ⟨sp, hsp, tq, rfl, htq⟩ := pd_get tr hv
    have hm := List.mem_of_getElem? hsp
    have htq1 := seqT_nt (nt_lst e0) k1 htq
    have hk : (sp.1, sp.2.1) ∈ keys ss := List.mem_map_of_mem (f := fun s : Ship => (s.1, s.2.1)) hm
    have nm := ok.nm _ hk
    have rg := ok.rg _ hk
    dsimp only at nm rg
    have h8 := (isNm_sign nm).1
    have f1 : sp.1 = SX.S sp.1.cps.toList := (SX.S_tl _).symm
    have h33 := numL3 (w := sp.2.1) (by omega) (by omega)
    have ew : (Str.ofString (toString sp.2.1)) = SX.S (TL.numL sp.2.1.toNat) := str_int (by omega)
    have f3 : sp.1 ++ Str.ofString " " ++ Str.ofString (toString sp.2.1) = SX.S (rowL sp.1.cps.toList sp.2.1.toNat) := by
      rw [ew, bl_S]
      conv => lhs; rw [f1]
      rw [SX.S_cat, SX.S_cat]
      unfold rowL
      rw [List.append_assoc]
      rfl
    have m2 : (sp.1 ++ Str.ofString " ").length ≤ 9 := by
      have h8' : sp.1.cps.toList.length = sp.1.length := by simp [Str.length]
      rw [bl_S]
      conv => lhs; rw [f1]
      rw [SX.S_cat, SX.S_len, List.length_append]
      simp only [List.length_cons, List.length_nil]
      omega
    have lw : (Str.ofString (toString sp.2.1)).length ≤ 3 := by rw [ew, SX.S_len]; exact h33
    refine ⟨tq, _, rfl, htq1, rfl, _, _, rfl, _, _, rfl, _, _, rfl, rfl, ?_⟩
    refine ⟨.ref l0, rfl, .inl ⟨rfl, _, sqL_of e1⟩, .str sp.1, rfl, sp.1, Str.ofString " ", rfl, rfl, ml (by rw [show (Str.ofString " ").length = 1 from rfl]; omega), .int sp.2.1, rfl, sp.2.1, rfl, log_small (by omega), _, _, rfl, rfl, ml (by omega), ?_⟩
    rw [f3]
    refine ⟨l0, _, _, rfl, rfl, e1, ?_, ⟨_, _, _, rfl⟩, ?_, fun c o e ne => by rw [upd_ne ne]; exact k1 c o e ne⟩
    · rw [List.length_map, List.length_map]
      refine Nat.lt_of_le_of_lt (m := 501) ?_ (by decide)
      unfold rowsL keys
      rw [List.length_cons, List.length_map, List.length_map, List.length_take]
      omega
    · rw [upd_same, take_more hsp, keys_snoc, rowsL_snoc, List.map_append, List.map_append]
      rfl
  · rintro σ H' ⟨⟨y, z, u, rfl⟩, e1, k1⟩
    rw [pd_len tr, List.take_length] at e1
    have sH : Same H H' := fun c o e => k1 c o (s2 _ _ (s0 c o e)) (ne_of_none e nl0)
    have hr12 := rows_len (b := b) ok
    have hrn : (rowsL b n (keys ss)).length ≤ 501 := by
      unfold rowsL keys
      rw [List.length_cons, List.length_map, List.length_map]
      omega
    have htl := text_len (b := b) ok
    unfold textL at q htl
    generalize rowsL b n (keys ss) = rows at *
    refine ⟨⟨_, rfl⟩, .ref l0, rfl, l0, rfl, ⟨_, sqL_of e1⟩, lc_pure (walk_list (K := K) (a := l0) (xs := (rows.map SX.S).map V.str)) (by rw [List.length_map, List.length_map]; exact small1000 (by omega)) rows (by simp) (fun _ => true) (fun r => .str (SX.S (r ++ [10]))) (fun H'' s' => s'.seq (sqL_of e1)) ?_ ?_⟩
    · intro i x v H3 H4 R hx s3 hy k
      obtain ⟨rfl, hv⟩ := hy
      rw [List.getElem?_map, List.getElem?_map, hx] at hv
      cases hv
      refine ⟨rfl, ?_⟩
      dsimp only [tYes]
      rw [if_pos rfl]
      have h12 := hr12 x (List.mem_of_getElem? hx)
      refine ⟨.str (SX.S x), rfl, SX.S x, Str.ofString "\n", rfl, rfl, ml (by rw [SX.S_len, show (Str.ofString "\n").length = 1 from rfl]; omega), ?_⟩
      rw [nl_S, SX.S_cat]
      exact k _ _ (Same.refl _) fun _ => rfl
    · intro D H3 nD s3 eD
      rw [List.filter_eq_self.mpr fun _ _ => rfl] at eD
      have e5 : (rows.map fun r => V.str (SX.S (r ++ [10]))) = (rows.map fun r => SX.S (r ++ [10])).map V.str := by rw [List.map_map]; rfl
      rw [e5] at eD
      refine ⟨Str.ofString "", D, _, rfl, rfl, .inl (sqL_of eD), ?_, ?_⟩
      · rw [lines_sum, show (Str.ofString "").length = 0 from rfl, Nat.mul_zero]
        omega
      · rw [join_lines]
        exact q H3 (sH.trans s3)

/-! ### the word of a refusal of a text -/
structure RefK (K : PySem.W.Frag) (a : Ad) (k : Rk) : Prop where
  ex : PySem.W.exmOne K (.ref (clsK a k)) (.ref a.e_BerthError) = some true
  c : ExcC K (clsK a k)
  n1 : PySem.W.kitOne K (.ref (clsK a k)) (.ref a.e_NoCount) = some false
  n2 : PySem.W.kitOne K (.ref (clsK a k)) (.ref a.e_NoOrder) = some false
  n3 : PySem.W.kitOne K (.ref (clsK a k)) (.ref a.e_NoQuay) = some false
  n4 : PySem.W.kitOne K (.ref (clsK a k)) (.ref a.e_NoName) = some false
  n5 : PySem.W.kitOne K (.ref (clsK a k)) (.ref a.e_NoTree) = some false
  n6 : PySem.W.kitOne K (.ref (clsK a k)) (.ref a.e_NoWishes) = some false
  n7 : PySem.W.kitOne K (.ref (clsK a k)) (.ref a.e_TooMany) = some false
  n8 : PySem.W.kitOne K (.ref (clsK a k)) (.ref a.e_NoShip) = some false
  o : ∀ k', PySem.W.kitOne K (.ref (clsK a k)) (.ref (clsK a k')) = some (decide (k' = k))
theorem kitF3 {K : PySem.W.Frag} {t c1 c2 c3 : Value} (h1 : PySem.W.kitOne K t c1 = some false) (h2 : PySem.W.kitOne K t c2 = some false) (h3 : PySem.W.kitOne K t c3 = some false) : PySem.W.kitAny K t [c1, c2, c3] = some false :=
  kitAny_cons h1 (fun _ => kitAny_cons h2 (fun _ => kitAny_cons h3 (fun _ => rfl) (fun z => by cases z)) (fun z => by cases z)) (fun z => by cases z)
theorem kitF2 {K : PySem.W.Frag} {t c1 c2 : Value} (h1 : PySem.W.kitOne K t c1 = some false) (h2 : PySem.W.kitOne K t c2 = some false) : PySem.W.kitAny K t [c1, c2] = some false :=
  kitAny_cons h1 (fun _ => kitAny_cons h2 (fun _ => rfl) (fun z => by cases z)) (fun z => by cases z)
def sp_l_words (K : PySem.W.Frag) (a : Ad) : Sp := fun vs H Q _ => ∃ (x : Addr) (k : Rk), vs = [.ref x] ∧ H x = some (ExK (.ref (clsK a k)) none x) ∧ ∀ H', Same H H' → Q (.str (wordK k)) H'
abbrev N_l_words : List Str := ["_law_e", "_law_some"]
def t_l_words (K : PySem.W.Frag) (a : Ad) : TS :=
  (tSeq (tIfS (tOr (tB (tCB (rIsiTE K) (tCons (tVar 0) (tCons (tTup (tCons (tC (.ref a.e_NoCount)) (tCons (tC (.ref a.e_NoOrder)) (tCons (tC (.ref a.e_NoQuay)) tNil)))) tNil)))) (tB (tCB (rIsiTE K) (tCons (tVar 0) (tCons (tTup (tCons (tC (.ref a.e_NoName)) (tCons (tC (.ref a.e_NoTree)) tNil))) tNil))))) (tRet (tC (.str (Str.ofString "other")))) tNext)
    (tSeq (tIfS (tB (tCB (rIsiTE K) (tCons (tVar 0) (tCons (tTup (tCons (tC (.ref a.e_NoWishes)) (tCons (tC (.ref a.e_TooMany)) (tCons (tC (.ref a.e_NoShip)) tNil)))) tNil)))) (tRet (tC (.str (Str.ofString "other")))) tNext)
    (tSeq (tAsg (tLst tNil) (gName 1))
    (tSeq (tIfS (tB (tCB (rIsiE K) (tCons (tVar 0) (tCons (tC (.ref a.e_NoText)) tNil)))) (tDrop (tBM K "list" rAppend (tVar 1) (tCons (tC (.str (Str.ofString "text"))) tNil))) tNext)
    (tSeq (tIfS (tB (tCB (rIsiE K) (tCons (tVar 0) (tCons (tC (.ref a.e_Taken)) tNil)))) (tDrop (tBM K "list" rAppend (tVar 1) (tCons (tC (.str (Str.ofString "taken"))) tNil))) tNext)
    (tSeq (tIfS (tB (tCB (rIsiE K) (tCons (tVar 0) (tCons (tC (.ref a.e_NoWish)) tNil)))) (tDrop (tBM K "list" rAppend (tVar 1) (tCons (tC (.str (Str.ofString "wish"))) tNil))) tNext)
    (tSeq (tIfS (tB (tCB (rIsiE K) (tCons (tVar 0) (tCons (tC (.ref a.e_NoRoom)) tNil)))) (tDrop (tBM K "list" rAppend (tVar 1) (tCons (tC (.str (Str.ofString "room"))) tNil))) tNext)
    (tRet (tJoin K (tC (.str (Str.ofString " "))) (tVar 1))))))))))
theorem len_l_words {K : PySem.W.Frag} {a : Ad} {vs : List V} {H : Hp} {Q : VK} {E : XK} (h : sp_l_words K a vs H Q E) : vs.length = 1 := by
  obtain ⟨x, k, rfl, _⟩ := h
  rfl
theorem word_step {K : PySem.W.Frag} {a : Ad} {k k' : Rk} {x l : Addr} {wd : Str} {ws : List Str} {rest : TS} {D : Ends} {H : Hp} (F : RefK K a k) (ex : H x = some (ExK (.ref (clsK a k)) none x)) (el : H l = some (.lst (ws.map V.str))) (hl : ws.length ≤ 10) (hx : x ≠ l)
    (kk : ∀ H', H' x = some (ExK (.ref (clsK a k)) none x) → H' l = some (.lst ((ws ++ if k' = k then [wd] else []).map V.str)) → (∀ c o, H c = some o → c ≠ l → H' c = some o) → rest D [some (.ref x), some (.ref l)] H') :
    (tSeq (tIfS (tB (tCB (rIsiE K) (tCons (tVar 0) (tCons (tC (.ref (clsK a k'))) tNil)))) (tDrop (tBM K "list" rAppend (tVar 1) (tCons (tC (.str wd)) tNil))) tNext) rest) D [some (.ref x), some (.ref l)] H := by
  refine ⟨.ref x, rfl, .ref x, _, _, _, decide (k' = k), rfl, .own _, .exc ex F.c, F.o k', _, rfl, ?_⟩
  by_cases z : k' = k
  · rw [decide_eq_true z]
    refine iteT ⟨.ref l, rfl, .inl ⟨rfl, _, sqL_of el⟩, l, _, _, rfl, rfl, el, ?_, ?_⟩
    · rw [List.length_map]
      exact small1000 (by omega)
    · refine kk _ (by rw [upd_ne hx]; exact ex) ?_ fun c o e ne => by rw [upd_ne ne]; exact e
      rw [upd_same, if_pos z, List.map_append]
      rfl
  · rw [decide_eq_false z]
    refine iteF (kk H ex ?_ fun c o e _ => e)
    rw [if_neg z, List.append_nil]
    exact el
theorem pu_l_words {K : PySem.W.Frag} {a : Ad} (F : ∀ k, RefK K a k) {vs : List V} {H : Hp} {Q : VK} {E : XK} (h : sp_l_words K a vs H Q E) : t_l_words K a { nx := fun _ H' => Q .non H', rt := Q } (start N_l_words vs) H := by
  obtain ⟨x, k, rfl, ex, q⟩ := h
  have G := F k
  refine ⟨_, rfl, (by show 3 ≤ sizeLine; decide), fun t1 n1 => ⟨.ref x, t1, _, _, _, false, rfl, upd_same, .cons (.own _) (.cons (.own _) (.cons (.own _) .nil)), .exc (same_new n1 _ _ ex) G.c, kitF3 G.n1 G.n2 G.n3, false, rfl, ?_⟩⟩
  have s1 := same_new n1 (o := .tup [V.ref a.e_NoCount, V.ref a.e_NoOrder, V.ref a.e_NoQuay])
  refine iteF ⟨_, rfl, (by show 2 ≤ sizeLine; decide), fun t2 n2 => ⟨.ref x, t2, _, _, _, false, rfl, upd_same, .cons (.own _) (.cons (.own _) .nil), .exc (same_new n2 _ _ (s1 _ _ ex)) G.c, kitF2 G.n4 G.n5, false, rfl, iteF ?_⟩⟩
  have s2 := s1.trans (same_new n2 (o := .tup [V.ref a.e_NoName, V.ref a.e_NoTree]))
  refine ⟨_, rfl, (by show 3 ≤ sizeLine; decide), fun t3 n3 => ⟨.ref x, t3, _, _, _, false, rfl, upd_same, .cons (.own _) (.cons (.own _) (.cons (.own _) .nil)), .exc (same_new n3 _ _ (s2 _ _ ex)) G.c, kitF3 G.n6 G.n7 G.n8, false, rfl, iteF ?_⟩⟩
  have s3 := s2.trans (same_new n3 (o := .tup [V.ref a.e_NoWishes, V.ref a.e_TooMany, V.ref a.e_NoShip]))
  refine ⟨Nat.zero_le _, fun l nl => ?_⟩
  have s4 := s3.trans (same_new nl (o := .lst []))
  have ex4 := s4 _ _ ex
  have hxl : x ≠ l := ne_of_none (s3 _ _ ex) nl
  have nl0 : H l = none := s3.free nl
  refine word_step (k' := .text) (ws := []) G ex4 upd_same (by decide) hxl fun H1 e1 l1 k1 => ?_
  refine word_step (k' := .taken) G e1 l1 (by cases k <;> decide) hxl fun H2 e2 l2 k2 => ?_
  refine word_step (k' := .wish) G e2 l2 (by cases k <;> decide) hxl fun H3 e3 l3 k3 => ?_
  refine word_step (k' := .room) G e3 l3 (by cases k <;> decide) hxl fun H4 e4 l4 k4 => ?_
  have sf : Same H H4 := fun c o e => by
    have ne : c ≠ l := ne_of_none e nl0
    exact k4 c o (k3 c o (k2 c o (k1 c o (s4 c o e) ne) ne) ne) ne
  cases k <;> refine ⟨⟨_, rfl⟩, .ref l, rfl, Str.ofString " ", l, _, rfl, rfl, .inl (sqL_of l4), by decide +kernel, ?_⟩ <;> refine Eq.mp (congrArg (fun z => Q (.str z) H4) ?_) (q _ sf) <;> decide +kernel
/-- a refusal's way out: its word -/
def WordE (a : Ad) (Q : VK) : XK := fun cls d H' => d = none ∧ ∃ k, cls = .ref (clsK a k) ∧ ∀ H'', Same H' H'' → Q (.str (wordK k)) H''
def sp_l_read (K : PySem.W.Frag) (a : Ad) : Sp := fun vs H Q _ => sp_read K a vs H Q (WordE a Q)
abbrev N_l_read : List Str := ["_law_text_here", "_law_found", "_law_caught", "_law_e"]
def t_l_read (K : PySem.W.Frag) (a : Ad) : TS :=
  (tSeq (tAsg (tC .non) (gName 1))
    (tSeq (tAsg (tC .non) (gName 2))
    (tSeq (tTryKeep K a.e_BerthError 3 2 fun W => (tAsg (tCallS (sp_read K a) (WE W) (tCons (tVar 0) tNil)) (gName 1)))
    (tRet (tIf (tB (tIsN (tVar 2))) (tVar 1) (tCall (sp_l_words K a) [] E0 (tCons (tVar 2) tNil)))))))
theorem len_l_read {K : PySem.W.Frag} {a : Ad} {vs : List V} {H : Hp} {Q : VK} {E : XK} (h : sp_l_read K a vs H Q E) : vs.length = 1 := len_read h
theorem read_mono {K : PySem.W.Frag} {a : Ad} {vs : List V} {H : Hp} {Q Q' : VK} {E E' : XK} (h : sp_read K a vs H Q E) (q : ∀ v H', Q v H' → Q' v H') (e : ∀ cls d H', E cls d H' → E' cls d H') : sp_read K a vs H Q' E' := by
  obtain ⟨x, rfl, tx, h⟩ := h
  refine ⟨x, rfl, tx, ?_⟩
  rcases h with ⟨h1, h2⟩ | ⟨t, e1, h1, h2, h3⟩
  · exact .inl ⟨h1, fun H' s => e _ _ _ (h2 H' s)⟩
  · refine .inr ⟨t, e1, h1, h2, ?_⟩
    revert h3
    cases load (kindOf (rowsOf t)) (sizeOf' (rowsOf t)) [] ((rowsOf t).tail.map shipOf) with
    | error k => exact fun h3 H' s => e _ _ _ (h3 H' s)
    | ok ss => exact fun h3 p d H' np nd s S => q _ _ (h3 p d H' np nd s S)
theorem pu_l_read {K : PySem.W.Frag} {a : Ad} (F : ∀ k, RefK K a k) {vs : List V} {H : Hp} {Q : VK} {E : XK} (h : sp_l_read K a vs H Q E) : t_l_read K a { nx := fun _ H' => Q .non H', rt := Q } (start N_l_read vs) H := by
  have hl := len_l_read (E := E) h
  obtain ⟨x, rfl⟩ : ∃ x, vs = [x] := by
    match vs, hl with
    | [x], _ => exact ⟨x, rfl⟩
  have out : ∀ (k : Rk) (H' : Hp) (c : Addr), (∀ H'', Same H' H'' → Q (.str (wordK k)) H'') → H' c = none →
      (tRet (tIf (tB (tIsN (tVar 2))) (tVar 1) (tCall (sp_l_words K a) [] E0 (tCons (tVar 2) tNil)))) { nx := fun _ H' => Q .non H', rt := Q } [some x, some .non, some (.ref c), none] (upd H' c (ExK (.ref (clsK a k)) none c)) := fun k H' c q nc =>
    ⟨.ref c, rfl, false, rfl, iteF ⟨.ref c, rfl, c, k, rfl, upd_same, fun H'' s => q H'' ((same_new nc).trans s)⟩⟩
  have fin : ∀ v H', Q v H' → (tRet (tIf (tB (tIsN (tVar 2))) (tVar 1) (tCall (sp_l_words K a) [] E0 (tCons (tVar 2) tNil)))) { nx := fun _ H' => Q .non H', rt := Q } [some x, some v, some .non, none] H' := fun v H' q => ⟨.non, rfl, true, rfl, iteT ⟨_, rfl, q⟩⟩
  refine ⟨_, rfl, read_mono h (fun v H' q => fin v H' q) ?_⟩
  rintro cls d H' ⟨rfl, k, rfl, q⟩
  exact ⟨(F k).ex, fun c nc => out k H' c q nc⟩

/-! ### the quay that the law draws -/
theorem QuayAt.nt2 {K : PySem.W.Frag} {C : Addr} {H H' : Hp} {p d c0 : Addr} {n : Nat} {ss : List Ship} (h : QuayAt K C H p d n ss) (nt : NT H c0) (k : ∀ c o, H c = some o → c ≠ c0 → H' c = some o) (hp : p ≠ c0) (hd : d ≠ c0) : QuayAt K C H' p d n ss := by
  obtain ⟨⟨dx, h1⟩, ⟨kvs, h2, h3⟩, h4, h5, h6, h7⟩ := h
  exact ⟨⟨dx, k _ _ h1 hp⟩, ⟨kvs, k _ _ h2 hd, h3.nt nt k⟩, h4, h5, h6, h7⟩
theorem cut_first (xs : List V) (k : Nat) : cutV xs none (some (k : Int)) = xs.take k := by
  unfold cutV
  rw [HT.sIx_nat, HT.sIx_none, List.drop_zero, Nat.sub_zero]
  by_cases h : k ≤ xs.length
  · rw [Nat.min_eq_left h]
  · rw [Nat.min_eq_right (by omega), List.take_of_length_le (Nat.le_refl _), List.take_of_length_le (by omega)]
theorem pickV {xs : List V} {r : Int} (h0 : 0 ≤ r) (h1 : r < xs.length) : ∃ x ∈ xs, atI xs r = some x := ⟨xs[r.toNat]'(by omega), List.getElem_mem _, at_of (j := r.toNat) (by omega) (List.getElem?_eq_getElem (by omega))⟩
def nm9 : List V := [.str (Str.ofString "a"), .str (Str.ofString "b"), .str (Str.ofString "ab"), .str (Str.ofString "ba"), .str (Str.ofString "aa"), .str (Str.ofString "aab"), .str (Str.ofString "abcdefgh"), .str (Str.ofString "c"), .str (Str.ofString "cab")]
theorem nm9_ok : ∀ x ∈ nm9, ∃ t, x = .str t ∧ isNm t = true := by
  have h : nm9.all nameV = true := by decide +kernel
  rw [List.all_eq_true] at h
  exact fun x hx => nameV_true (h x hx)
theorem q400 : (0 : Int) < 400 := by decide
theorem q12 : (0 : Int) < 12 := by decide
theorem q9 : (0 : Int) < 9 := by decide
theorem q2 : (0 : Int) < 2 := by decide
theorem q4 : (0 : Int) < 4 := by decide
theorem e3 {r : Int} : CDiv r 3 := ⟨by decide, by decide⟩
theorem e9 {r : Int} : CDiv r 9 := ⟨by decide, by decide⟩
theorem e12 {r : Int} : CDiv r 12 := ⟨by decide, by decide⟩
theorem e18 {r : Int} : CDiv r 18 := ⟨by decide, by decide⟩
theorem qst : (0 : Int) < 2147483646 := by decide
theorem dp_strs {K : PySem.W.Frag} {H : Hp} : ∀ ns : List Str, DpAll K H (ns.map V.str) (ns.map PyData.str)
  | [] => .nil
  | n :: r => .cons (.str n) (dp_strs r)
theorem ho_strs {K : PySem.W.Frag} {H : Hp} {p : Addr} {ns : List Str} (h : SqL K H p (ns.map V.str)) : Dp K H (.ref p) (PySem.W.Datum.toD ns) := .lst h (dp_strs ns)
/-- a ship finds a berth where one behind its wish is free, or any on a round quay -/
theorem finds {b : Bool} {n : Nat} {ss : List Ship} {w x : Int} (h1 : 1 ≤ w) (h2 : w ≤ n) (hx : x ∈ freeS n ss) (hb : w ≤ x ∨ b = true) : ∃ l, ffq b n (occS ss) w = some l := by
  unfold freeS at hx
  obtain ⟨hx, hf⟩ := List.mem_filter.mp hx
  obtain ⟨x1, x2⟩ := mem_allB.mp hx
  rw [ffq_way h1 h2]
  have hm : x ∈ wayL b n w := by
    unfold wayL rngL
    rw [List.mem_append]
    by_cases hw : w ≤ x
    · exact .inl (List.mem_map.mpr ⟨(x - w).toNat, List.mem_range.mpr (by omega), by omega⟩)
    · have hb : b = true := hb.resolve_left hw
      rw [if_pos hb]
      exact .inr (List.mem_map.mpr ⟨(x - 1).toNat, List.mem_range.mpr (by omega), by omega⟩)
  cases e : (wayL b n w).find? fun x => !occS ss x with
  | some l => exact ⟨l, rfl⟩
  | none =>
    rw [List.find?_eq_none] at e
    exact absurd hf (e x hm)
def sp_l_drawn (K : PySem.W.Frag) (a : Ad) : Sp := fun vs H Q _ => ∃ (s : Addr) (ns : List Int), vs = [.ref s] ∧ SqL K H s (ns.map V.int) ∧ ns.length ≤ 63 ∧
  ∀ (b : Bool) (n : Nat) (p d : Addr) (ss : List Ship) (H' : Hp), Same H H' → QuayAt K (a.cls b) H' p d n ss → Laid b n ss → NmOk n (keys ss) → Q (.ref p) H'
abbrev N_l_drawn : List Str := ["_law_script", "_law_state", "_law_first", "_law_berths", "_law_quay", "_law_cell", "_law_mix_here", "_law_name", "_law_there", "_law_wish", "_law_free", "_law_able", "_law_one", "_law_berth"]
def t_l_drawn (K : PySem.W.Frag) (a : Ad) : TS :=
  (tSeq (tAsg (tLst (tCons (tOp rAddI (tC (.int 1)) (tOp rModI (tCall (sp_l_cell_at K) [] E0 (tCons (tVar 0) (tCons (tC (.int 0)) tNil))) (tC (.int 2147483646)))) tNil)) (gName 1))
    (tSeq (tAsg (tCall (sp_l_cell_at K) [] E0 (tCons (tVar 0) (tCons (tC (.int 0)) tNil))) (gName 2))
    (tSeq (tAsg (tOp (rIxL K) (tLst (tCons (tOp rAddI (tC (.int 1)) (tOp rModI (tVar 2) (tC (.int 12)))) (tCons (tOp rAddI (tC (.int 1)) (tOp rModI (tOp rDivI (tVar 2) (tC (.int 12))) (tC (.int 400)))) tNil))) (tOp rDivI (tOp rModI (tCall (sp_l_mix K) [] E0 (tCons (tVar 1) (tCons (tC (.int 0)) tNil))) (tC (.int 4))) (tC (.int 3)))) (gName 3))
    (tSeq (tAsg (tMk a.c_Quay (sp_M_init K a false) (fun _ => E0) (tCons (tVar 3) tNil)) (gName 4))
    (tSeq (tIfS (tTest (tOp rEq (tOp rModI (tCall (sp_l_mix K) [] E0 (tCons (tVar 1) (tCons (tC (.int 1)) tNil))) (tC (.int 2))) (tC (.int 1)))) (tAsg (tMk a.c_Round (sp_M_init K a true) (fun _ => E0) (tCons (tVar 3) tNil)) (gName 4)) tNext)
    (tSeq (tFor (iList K (tSl (rSlL K) (tVar 0) tNoPart (tPart (tC (.int 60))))) (gName 5)
    (tSeq (tAsg (tCall (sp_l_mix K) [] E0 (tCons (tVar 1) (tCons (tVar 5) tNil))) (gName 6))
    (tSeq (tAsg (tOp (rIxL K) (tLst (tCons (tC (.str (Str.ofString "a"))) (tCons (tC (.str (Str.ofString "b"))) (tCons (tC (.str (Str.ofString "ab"))) (tCons (tC (.str (Str.ofString "ba"))) (tCons (tC (.str (Str.ofString "aa"))) (tCons (tC (.str (Str.ofString "aab"))) (tCons (tC (.str (Str.ofString "abcdefgh"))) (tCons (tC (.str (Str.ofString "c"))) (tCons (tC (.str (Str.ofString "cab"))) tNil)))))))))) (tOp rModI (tVar 6) (tC (.int 9)))) (gName 7))
    (tSeq (tAsg (tLc (iList K (tMethB a.cls "all_ships" (fun b => sp_M_all_ships K a b) (fun _ => E0) (tVar 4) tNil)) (gTup K 3 (gCons (gName 12) (gCons (gName 9) (gCons (gName 13) gNil)))) (tTest (tOp rEq (tVar 12) (tVar 7))) (tVar 12) [12, 9, 13]) (gName 8))
    (tSeq (tIfS (tAnd (tTest (tOp (rNeT K) (tVar 8) (tLst tNil))) (tTest (tOp rEq (tOp rModI (tOp rDivI (tVar 6) (tC (.int 9))) (tC (.int 2))) (tC (.int 1))))) (tDrop (tMethB a.cls "leave" (fun b => sp_M_leave K a b) (fun _ => E0) (tVar 4) (tCons (tVar 7) tNil))) tNext)
    (tSeq (tAsg (tOp rAddI (tC (.int 1)) (tOp rModI (tOp rDivI (tVar 6) (tC (.int 18))) (tVar 3))) (gName 9))
    (tSeq (tAsg (tMethB a.cls "free_ones" (fun b => sp_M_free_ones K a b) (fun _ => E0) (tVar 4) tNil) (gName 10))
    (tSeq (tAsg (tLc (iList K (tVar 10)) (gName 13) (tOr (tTest (tOp rGeI (tVar 13) (tVar 9))) (tTest (tOp rEq (tMethB a.cls "kind" (fun b => sp_M_kind K a b) (fun _ => E0) (tVar 4) tNil) (tC (.str (Str.ofString "round")))))) (tVar 13) [13]) (gName 11))
    (tIfS (tAnd (tTest (tOp (rEqT K) (tVar 8) (tLst tNil))) (tTest (tOp (rNeT K) (tVar 11) (tLst tNil)))) (tDrop (tMethB a.cls "come" (fun b => sp_M_come K a b) (fun _ => E0) (tVar 4) (tCons (tVar 7) (tCons (tVar 9) tNil)))) tNext)))))))))
    (tRet (tVar 4))))))))
theorem len_l_drawn {K : PySem.W.Frag} {a : Ad} {vs : List V} {H : Hp} {Q : VK} {E : XK} (h : sp_l_drawn K a vs H Q E) : vs.length = 1 := by
  obtain ⟨s, ns, rfl, _⟩ := h
  rfl
/-- a new quay of either kind, by the state of the mixing -/
theorem mk13 {K : PySem.W.Frag} {a : Ad} {n : Nat} {stl : Addr} {st : Int} {y0 y2 y5 y6 y7 y8 y9 y10 y11 y12 y13 : Option V} {rest : TS} {D : Ends} {H : Hp} (h1 : 1 ≤ n) (h2 : n ≤ 400) (est : H stl = some (.lst [.int st])) (s0 : 0 ≤ st) (s1 : st < 2147483647)
    (k : ∀ (b : Bool) (p d : Addr) (H2 : Hp) (st' : Int), H p = none → H d = none → (∀ c o, H c = some o → c ≠ stl → H2 c = some o) → H2 stl = some (.lst [.int st']) → 0 ≤ st' → st' < 2147483647 → QuayAt K (a.cls b) H2 p d n [] →
      rest D [y0, some (.ref stl), y2, some (.int n), some (.ref p), y5, y6, y7, y8, y9, y10, y11, y12, y13] H2) :
    (tSeq (tAsg (tMk a.c_Quay (sp_M_init K a false) (fun _ => E0) (tCons (tVar 3) tNil)) (gName 4))
    (tSeq (tIfS (tTest (tOp rEq (tOp rModI (tCall (sp_l_mix K) [] E0 (tCons (tVar 1) (tCons (tC (.int 1)) tNil))) (tC (.int 2))) (tC (.int 1)))) (tAsg (tMk a.c_Round (sp_M_init K a true) (fun _ => E0) (tCons (tVar 3) tNil)) (gName 4)) tNext) rest)) D
      [y0, some (.ref stl), y2, some (.int n), none, y5, y6, y7, y8, y9, y10, y11, y12, y13] H := by
  refine ⟨_, rfl, fun x dx nx ndx nex => ⟨x, dx, .int n, rfl, upd_same, ChkQ.ok h1 h2 fun d H1 nd k1 S => ⟨rfl, ?_⟩⟩⟩
  have s0' : Same H (upd (upd H dx (.own x)) x (.ins a.c_Quay dx [])) := (same_new ndx).store nx
  have sH1 : Same H H1 := fun c o e => k1 c o (s0' c o e) (ne_of_none e nx)
  have nd0 : H d = none := s0'.free nd
  have est1 := sH1 _ _ est
  refine ⟨_, rfl, stl, st, 1, rfl, est1, s0, s1, fun st' r a1 a2 a3 a4 => ⟨_, 2, rfl, rfl, q2, rfl, _, rfl, ?_⟩⟩
  have kst : ∀ c o, H c = some o → c ≠ stl → (upd H1 stl (.lst [.int st'])) c = some o := fun c o e ne => by rw [upd_ne ne]; exact sH1 c o e
  have xst : x ≠ stl := fun z => by rw [z, est] at nx; cases nx
  have dst : d ≠ stl := fun z => by rw [z, est] at nd0; cases nd0
  refine ite2 (fun _ => ?_) (fun _ => ?_)
  · refine ⟨_, rfl, fun x2 dx2 nx2 ndx2 nex2 => ⟨x2, dx2, .int n, rfl, upd_same, ChkQ.ok h1 h2 fun d2 H3 nd2 k2 S2 => ⟨rfl, ?_⟩⟩⟩
    have s2' : Same (upd H1 stl (.lst [.int st'])) (upd (upd (upd H1 stl (.lst [.int st'])) dx2 (.own x2)) x2 (.ins a.c_Round dx2 [])) := (same_new ndx2).store nx2
    have sH3 : Same (upd H1 stl (.lst [.int st'])) H3 := fun c o e => k2 c o (s2' c o e) (ne_of_none e nx2)
    have back : ∀ {c : Addr}, (upd H1 stl (.lst [.int st'])) c = none → H c = none := fun {c} e => by
      cases q : H c with
      | none => rfl
      | some o =>
        by_cases z : c = stl
        · rw [z, upd_same] at e; cases e
        · rw [kst c o q z] at e; cases e
    exact k true x2 d2 H3 st' (back nx2) (back (s2'.free nd2)) (fun c o e ne => sH3 _ _ (kst c o e ne)) (sH3 _ _ upd_same) a1 a2 S2
  · exact k false x d _ st' nx nd0 kst upd_same a1 a2 (S.nt2 (nt_lst est1) (fun c o e ne => by rw [upd_ne ne]; exact e) xst dst)
/-- what holds while ships come and leave -/
structure DrI (K : PySem.W.Frag) (a : Ad) (b : Bool) (n : Nat) (p d stl lc : Addr) (sl : List V) (H Hc : Hp) (ss : List Ship) (st : Int) : Prop where
  sH : Same H Hc
  el : Hc lc = some (.lst sl)
  S : QuayAt K (a.cls b) Hc p d n ss
  L : Laid b n ss
  nm : ∀ s ∈ ss, isNm s.1 = true
  est : Hc stl = some (.lst [.int st])
  s0 : 0 ≤ st
  s1 : st < 2147483647
theorem DrI.same {K : PySem.W.Frag} {a : Ad} {b : Bool} {n : Nat} {p d stl lc : Addr} {sl : List V} {H Hc Hc' : Hp} {ss : List Ship} {st : Int} (h : DrI K a b n p d stl lc sl H Hc ss st) (s : Same Hc Hc') : DrI K a b n p d stl lc sl H Hc' ss st :=
  ⟨h.sH.trans s, s _ _ h.el, h.S.same s, h.L, h.nm, s _ _ h.est, h.s0, h.s1⟩
theorem DrI.mix {K : PySem.W.Frag} {a : Ad} {b : Bool} {n : Nat} {p d stl lc : Addr} {sl : List V} {H Hc : Hp} {ss : List Ship} {st st' : Int} (h : DrI K a b n p d stl lc sl H Hc ss st) (ns : H stl = none) (ls : lc ≠ stl) (a1 : 0 ≤ st') (a2 : st' < 2147483647) :
    DrI K a b n p d stl lc sl H (upd Hc stl (.lst [.int st'])) ss st' := by
  obtain ⟨dx, hp⟩ := h.S.ob
  obtain ⟨kv, hd, _⟩ := h.S.dc
  have e1 := h.est
  refine ⟨h.sH.store ns, by rw [upd_ne ls]; exact h.el, h.S.nt2 (nt_lst h.est) (fun c o e ne => by rw [upd_ne ne]; exact e) (fun z => ?_) (fun z => ?_), h.L, h.nm, upd_same, a1, a2⟩
  · rw [z, e1] at hp; cases hp
  · rw [z, e1] at hd; cases hd
theorem DrI.dc {K : PySem.W.Frag} {a : Ad} {b : Bool} {n : Nat} {p d stl lc : Addr} {sl : List V} {H Hc Hc' : Hp} {ss ss' : List Ship} {st : Int} (h : DrI K a b n p d stl lc sl H Hc ss st) (nd : H d = none) (k : ∀ c o, Hc c = some o → c ≠ d → Hc' c = some o) (S' : QuayAt K (a.cls b) Hc' p d n ss')
    (L' : Laid b n ss') (nm : ∀ s ∈ ss', isNm s.1 = true) : DrI K a b n p d stl lc sl H Hc' ss' st := by
  obtain ⟨kv, hd, _⟩ := h.S.dc
  refine ⟨fun c o e => k c o (h.sH c o e) (ne_of_none e nd), k _ _ h.el (fun z => ?_), S', L', nm, k _ _ h.est (fun z => ?_), h.s0, h.s1⟩
  · have := h.el
    rw [z, hd] at this; cases this
  · have := h.est
    rw [z, hd] at this; cases this
/-- a ship comes, where none of its name is there and a berth is free for it -/
theorem drawn_tail {K : PySem.W.Frag} {a : Ad} {b : Bool} {n : Nat} {p d stl lc l8 : Addr} {sl : List V} {H Hc : Hp} {ss : List Ship} {st r : Int} {t : Str} {nmL : List Str} {y0 y1 y2 y5 y9 y10 y11 y12 y13 : Option V} {D : Ends}
    (I : DrI K a b n p d stl lc sl H Hc ss st) (hd0 : H d = none) (hlen : ss.length ≤ 100) (gt : isNm t = true) (a7 : 0 ≤ r) (e8 : Hc l8 = some (.lst (nmL.map V.str))) (hnm : nmL = [] → t ∉ ss.map (·.1))
    (k : ∀ (ss' : List Ship) (H' : Hp) (z9 z10 z11 : Option V), DrI K a b n p d stl lc sl H H' ss' st → ss'.length ≤ ss.length + 1 → D.nx [y0, y1, y2, some (.int n), some (.ref p), y5, some (.int r), some (.str t), some (.ref l8), z9, z10, z11, y12, y13] H') :
    (tSeq (tAsg (tOp rAddI (tC (.int 1)) (tOp rModI (tOp rDivI (tVar 6) (tC (.int 18))) (tVar 3))) (gName 9))
    (tSeq (tAsg (tMethB a.cls "free_ones" (fun b => sp_M_free_ones K a b) (fun _ => E0) (tVar 4) tNil) (gName 10))
    (tSeq (tAsg (tLc (iList K (tVar 10)) (gName 13) (tOr (tTest (tOp rGeI (tVar 13) (tVar 9))) (tTest (tOp rEq (tMethB a.cls "kind" (fun b => sp_M_kind K a b) (fun _ => E0) (tVar 4) tNil) (tC (.str (Str.ofString "round")))))) (tVar 13) [13]) (gName 11))
    (tIfS (tAnd (tTest (tOp (rEqT K) (tVar 8) (tLst tNil))) (tTest (tOp (rNeT K) (tVar 11) (tLst tNil)))) (tDrop (tMethB a.cls "come" (fun b => sp_M_come K a b) (fun _ => E0) (tVar 4) (tCons (tVar 7) (tCons (tVar 9) tNil)))) tNext)))) D
      [y0, y1, y2, some (.int n), some (.ref p), y5, some (.int r), some (.str t), some (.ref l8), y9, y10, y11, y12, y13] Hc := by
  have hn := I.S.n1
  obtain ⟨dx, hp⟩ := I.S.ob
  have w1 := Int.emod_nonneg (r / 18) (show (n : Int) ≠ 0 by omega)
  have w2 := Int.emod_lt_of_pos (r / 18) (show (0 : Int) < n by omega)
  refine ⟨_, rfl, r, 18, rfl, rfl, e18, _, rfl, _, n, rfl, rfl, (by show (0 : Int) < n; omega), 1, _, rfl, rfl, ?_⟩
  show gName 9 (V.int (1 + r / 18 % (n : Int))) _ _ _
  generalize hw : 1 + r / 18 % (n : Int) = w
  have w3 : 1 ≤ w := by omega
  have w4 : w ≤ n := by omega
  refine ⟨_, rfl, b, p, dx, _, rfl, hp, by rfl, p, d, n, ss, rfl, I.S, fun lf H2 nlf s2 elf => ?_⟩
  have I2 := I.same s2
  obtain ⟨dx2, hp2⟩ := I2.S.ob
  have hfl : (freeS n ss).length ≤ 400 := by
    unfold freeS
    refine Nat.le_trans (List.length_filter_le _ _) ?_
    simp [allB]
    omega
  refine ⟨_, rfl, lf, rfl, ⟨_, sqL_of elf⟩, lc_pure (walk_list (K := K) (a := lf) (xs := (freeS n ss).map V.int)) (by rw [List.length_map]; exact small1000 (by omega)) (freeS n ss) (by rw [List.length_map]) (fun x => decide (w ≤ x) || b) V.int (fun H' s' => s'.seq (sqL_of elf)) ?_ ?_⟩
  · intro j x v Hx Hy R hx sx hy kk
    obtain ⟨rfl, hv⟩ := hy
    rw [List.getElem?_map, hx] at hv
    cases hv
    have k1 := kk (.int x) _ (Same.refl _) fun _ => rfl
    refine ⟨rfl, .int x, rfl, .int w, rfl, x, w, rfl, rfl, _, rfl, ?_⟩
    by_cases z : w ≤ x
    · rw [decide_eq_true z] at k1 ⊢
      exact iteT (iteT ⟨_, rfl, k1⟩)
    · rw [decide_eq_false z, Bool.false_or] at k1
      rw [decide_eq_false z]
      refine iteF ⟨_, rfl, b, p, dx2, _, rfl, sx _ _ hp2, by rfl, p, dx2, _, rfl, sx _ _ hp2, rfl, _, rfl, ?_⟩
      have dk : decide (V.str (kindS b) = V.str (Str.ofString "round")) = b := by
        cases b
        · refine decide_eq_false fun z => ?_
          exact absurd (V.str.inj z) (by decide +kernel)
        · exact decide_eq_true rfl
      show (if decide (V.str (kindS b) = V.str (Str.ofString "round")) = true then _ else _)
      rw [dk]
      cases b with
      | true => exact iteT ⟨_, rfl, k1⟩
      | false =>
        have k1 := kk .non _ (Same.refl _) fun z' => by rw [decide_eq_false z] at z'; cases z'
        rw [decide_eq_false z] at k1
        exact iteF k1
  · intro la H3 nla s3 ela
    have I3 := I2.same s3
    have e83 : H3 l8 = some (.lst (nmL.map V.str)) := s3 _ _ (s2 _ _ e8)
    -- is one of that name there
    refine ⟨_, rfl, Nat.zero_le _, fun l9 nl9 => ?_⟩
    have s4 : Same H3 (upd H3 l9 (.lst [])) := same_new nl9
    refine eqT_of (a := nmL) (b := ([] : List Str)) (ho_strs (sqL_of (s4 _ _ e83))) (ho_strs (ns := []) (sqL_of upd_same)) (by decide) ?_
    refine ⟨_, rfl, ?_⟩
    have I4 := I3.same s4
    have stop : ∀ H', DrI K a b n p d stl lc sl H H' ss st → D.nx [y0, y1, y2, some (.int n), some (.ref p), y5, some (.int r), some (.str t), some (.ref l8), some (.int w), some (.ref lf), some (.ref la), y12, y13] H' := fun H' I' => k ss H' _ _ _ I' (Nat.le_succ _)
    by_cases z8 : nmL = []
    rotate_left
    · rw [decide_eq_false z8]
      exact iteF (iteF (stop _ I4))
    rw [decide_eq_true z8]
    refine iteT ⟨_, rfl, Nat.zero_le _, fun l10 nl10 => ?_⟩
    have s5 : Same (upd H3 l9 (.lst [])) (upd (upd H3 l9 (.lst [])) l10 (.lst [])) := same_new nl10
    have I5 := I4.same s5
    refine neT_of (a := (freeS n ss).filter fun x => decide (w ≤ x) || b) (b := ([] : List Int)) (ho_ints (sqL_of (s5 _ _ (s4 _ _ ela)))) (ho_ints (ns := []) (sqL_of upd_same)) (by decide) ?_
    refine ⟨_, rfl, ?_⟩
    by_cases zf : ((freeS n ss).filter fun x => decide (w ≤ x) || b) = []
    · rw [decide_eq_false (fun z => z zf)]
      exact iteF (stop _ I5)
    rw [decide_eq_true zf]
    obtain ⟨x, hx⟩ := List.exists_mem_of_ne_nil _ zf
    obtain ⟨hx1, hx2⟩ := List.mem_filter.mp hx
    rw [Bool.or_eq_true, decide_eq_true_eq] at hx2
    obtain ⟨lb, ff⟩ := finds w3 w4 hx1 hx2
    obtain ⟨g1, g2, _⟩ := ffq_rg ff w3
    obtain ⟨dx5, hp5⟩ := I5.S.ob
    refine iteT ⟨_, rfl, b, p, dx5, _, rfl, hp5, by rfl, _, rfl, _, rfl, p, d, n, ss, .str t, .int w, rfl, I5.S, by omega, ⟨_, .int _⟩, ⟨_, .str _⟩, fun t' e => (by cases e; exact isNm_len gt), .inr ⟨t, rfl, gt, .inr ⟨hnm z8, .inr ⟨w, rfl, w3, w4, .inr ⟨lb, ff, g1, g2, fun H' k1 S' => ?_⟩⟩⟩⟩⟩
    refine k (ss ++ [(t, w, lb)]) H' _ _ _ (I5.dc hd0 k1 S' (laid_snoc.mpr ⟨I.L, ff⟩) fun s hs => ?_) (by rw [List.length_append]; exact Nat.le_refl _)
    rcases List.mem_append.mp hs with m | m
    · exact I.nm s m
    · rw [List.mem_singleton.mp m]
      exact gt
theorem pu_l_drawn {K : PySem.W.Frag} {a : Ad} {vs : List V} {H : Hp} {Q : VK} {E : XK} (h : sp_l_drawn K a vs H Q E) : t_l_drawn K a { nx := fun _ H' => Q .non H', rt := Q } (start N_l_drawn vs) H := by
  obtain ⟨sa, ns, rfl, hs, hl, q⟩ := h
  have c1 := Int.emod_nonneg (cellAt ns 0) (show (2147483646 : Int) ≠ 0 by decide)
  have c2 := Int.emod_lt_of_pos (cellAt ns 0) qst
  refine ⟨.ref sa, rfl, sa, ns, _, rfl, hs, by decide, _, 2147483646, rfl, rfl, qst, 1, _, rfl, rfl, l1000 (by show 1 ≤ 1000; decide), fun stl nst => ?_⟩
  have s1 : Same H (upd H stl (.lst [.int (1 + cellAt ns 0 % 2147483646)])) := same_new nst
  have est : (upd H stl (.lst [.int (1 + cellAt ns 0 % 2147483646)])) stl = some (.lst [.int (1 + cellAt ns 0 % 2147483646)]) := upd_same
  generalize (upd H stl (.lst [.int (1 + cellAt ns 0 % 2147483646)])) = H1 at *
  have hs1 := s1.seq hs
  refine ⟨.ref sa, rfl, sa, ns, _, rfl, hs1, by decide, ?_⟩
  generalize hf : cellAt ns 0 = f at *
  have f1 := Int.emod_nonneg f (show (12 : Int) ≠ 0 by decide)
  have f2 := Int.emod_lt_of_pos f q12
  have f3 := Int.emod_nonneg (f / 12) (show (400 : Int) ≠ 0 by decide)
  have f4 := Int.emod_lt_of_pos (f / 12) q400
  refine ⟨_, rfl, f, 12, rfl, rfl, q12, 1, _, rfl, rfl, _, rfl, f, 12, rfl, rfl, e12, _, 400, rfl, rfl, q400, 1, _, rfl, rfl, (by show 2 ≤ sizeLine; decide), fun lb nlb => ?_⟩
  have s2 : Same H1 (upd H1 lb (.lst [.int (1 + f % 12), .int (1 + f / 12 % 400)])) := same_new nlb
  have elb : (upd H1 lb (.lst [.int (1 + f % 12), .int (1 + f / 12 % 400)])) lb = some (.lst [.int (1 + f % 12), .int (1 + f / 12 % 400)]) := upd_same
  generalize (upd H1 lb (.lst [.int (1 + f % 12), .int (1 + f / 12 % 400)])) = H2 at *
  have est2 := s2 _ _ est
  have lbs : lb ≠ stl := fun z => by rw [z, est] at nlb; cases nlb
  refine ⟨_, rfl, stl, _, 0, rfl, est2, by omega, by omega, fun st r a1 a2 a3 a4 => ?_⟩
  have b1 := Int.emod_nonneg r (show (4 : Int) ≠ 0 by decide)
  have b2 := Int.emod_lt_of_pos r q4
  obtain ⟨v, hv, ev⟩ := pickV (xs := [V.int (1 + f % 12), .int (1 + f / 12 % 400)]) (r := r % 4 / 3) (by omega) (by show r % 4 / 3 < 2; omega)
  obtain ⟨n, rfl, n1, n2⟩ : ∃ n : Nat, v = .int n ∧ 1 ≤ n ∧ n ≤ 400 := by
    rcases List.mem_cons.mp hv with e | hv
    · exact ⟨(1 + f % 12).toNat, by rw [e]; congr 1; omega, by omega, by omega⟩
    · exact ⟨(1 + f / 12 % 400).toNat, by rw [List.mem_singleton.mp hv]; congr 1; omega, by omega, by omega⟩
  refine ⟨_, 4, rfl, rfl, q4, _, 3, rfl, rfl, e3, lb, _, _, _, rfl, rfl, sqL_of (by rw [upd_ne lbs]; exact elb), ev, ?_⟩
  have sH3 : Same H (upd H2 stl (.lst [.int st])) := (s1.trans s2).store nst
  refine mk13 n1 n2 upd_same a1 a2 fun b p d H4 st4 np nd k4 est4 g1 g2 S4 => ?_
  have sH4 : Same H H4 := fun c o e => k4 c o (sH3 c o e) (ne_of_none e nst)
  have nd0 : H d = none := sH3.free nd
  refine ⟨_, rfl, 60, rfl, sa, _, rfl, sH4.seq hs, fun lc nlc => ?_⟩
  have ecut : cutV (ns.map V.int) none (some 60) = (ns.map V.int).take 60 := cut_first _ 60
  rw [ecut]
  have lcs : lc ≠ stl := fun z => by rw [z, est4] at nlc; cases nlc
  have D0 : DrI K a b n p d stl lc ((ns.map V.int).take 60) H (upd H4 lc (.lst ((ns.map V.int).take 60))) [] st4 :=
    ⟨sH4.trans (same_new nlc), upd_same, S4.same (same_new nlc), laid_nil, fun s hs => (by cases hs), same_new nlc _ _ est4, g1, g2⟩
  generalize (upd H4 lc (.lst ((ns.map V.int).take 60))) = H5 at D0
  refine ⟨lc, rfl, ⟨_, sqL_of D0.el⟩, for_list (K := K) (a := lc) (xs := (ns.map V.int).take 60) (fun i σ H' => ∃ ss st, DrI K a b n p d stl lc ((ns.map V.int).take 60) H H' ss st ∧ ss.length ≤ i ∧
      ∃ y5 y6 y7 y8 y9 y10 y11 y12 y13, σ = [some (.ref sa), some (.ref stl), some (.int f), some (.int n), some (.ref p), y5, y6, y7, y8, y9, y10, y11, y12, y13])
    ⟨[], st4, D0, Nat.le_refl _, none, none, none, none, none, none, none, none, none, rfl⟩ (fun i σ H' _ ⟨_, _, h, _⟩ => sqL_of h.el) ?_ ?_⟩
  · rintro i v σ H6 hv ⟨ss, st6, I6, hlen, y5, y6, y7, y8, y9, y10, y11, y12, y13, rfl⟩
    have hi63 : i < 63 := by
      have e := (List.getElem?_eq_some_iff.mp hv).1
      rw [List.length_take, List.length_map] at e
      omega
    obtain ⟨c, rfl⟩ : ∃ c, v = .int c := by
      have hm := List.mem_of_mem_take (List.mem_of_getElem? hv)
      obtain ⟨z, _, e⟩ := List.mem_map.mp hm
      exact ⟨z, e.symm⟩
    -- the mixing
    refine ⟨_, rfl, _, rfl, stl, st6, c, rfl, I6.est, I6.s0, I6.s1, fun st7 r a5 a6 a7 a8 => ?_⟩
    have I7 := I6.mix nst lcs a5 a6
    generalize (upd H6 stl (.lst [.int st7])) = H7 at I7
    -- the name
    refine ⟨(by show 9 ≤ sizeLine; decide), fun lnm nlnm => ⟨_, rfl, r, 9, rfl, rfl, q9, ?_⟩⟩
    obtain ⟨x, hx, ex⟩ := pickV (xs := nm9) (r := r % 9) (Int.emod_nonneg _ (by decide)) (Int.emod_lt_of_pos _ q9)
    obtain ⟨t, rfl, gt⟩ := nm9_ok x hx
    refine ⟨lnm, nm9, r % 9, _, rfl, rfl, sqL_of upd_same, ex, ?_⟩
    have I8 := I7.same (same_new nlnm (o := .lst nm9))
    change gName 7 (V.str t) _ (upd H7 lnm (.lst nm9)) _
    generalize upd H7 lnm (.lst nm9) = H8 at I8 ⊢
    obtain ⟨dx8, hp8⟩ := I8.S.ob
    have hln := I8.S.ln
    refine ⟨_, rfl, b, p, dx8, _, rfl, hp8, by rfl, p, d, n, ss, rfl, I8.S, fun l H9 rs nl9 s9 el9 tr => ⟨l, rfl, ⟨_, sqL_of el9⟩, lc_pure (walk_list (K := K) (a := l) (xs := rs)) (by rw [pd_len tr]; exact small1000 (by omega)) ss (pd_len tr).symm (fun s => decide (s.1 = t)) (fun s => .str s.1) (fun H' s' => s'.seq (sqL_of el9)) ?_ ?_⟩⟩
    · intro j s v Hx Hy R hs2 sx hy kk
      obtain ⟨rfl, hv2⟩ := hy
      obtain ⟨s', hs', tq, rfl, htq⟩ := pd_get tr hv2
      rw [hs2] at hs'
      cases hs'
      have k1 := kk (.str s.1) _ (Same.refl _) fun _ => rfl
      refine ⟨tq, _, rfl, sx.seqT htq, rfl, _, _, rfl, _, _, rfl, _, _, rfl, rfl, rfl, _, rfl, _, rfl, rfl, _, rfl, ?_⟩
      have dk : decide (V.str s.1 = V.str t) = decide (s.1 = t) := by
        by_cases z : s.1 = t
        · rw [z, decide_eq_true rfl, decide_eq_true rfl]
        · rw [decide_eq_false z, decide_eq_false fun q => z (V.str.inj q)]
      show (if decide (V.str s.1 = V.str t) = true then _ else _)
      rw [dk]
      by_cases z : s.1 = t
      · rw [decide_eq_true z] at k1 ⊢
        exact iteT ⟨_, rfl, k1⟩
      · have k2 := kk .non _ (Same.refl _) fun z' => by rw [decide_eq_false z] at z'; cases z'
        rw [decide_eq_false z] at k2 ⊢
        exact iteF k2
    · intro l8 H10 nl8 s10 el8
      have I10 := (I8.same s9).same s10
      have e8 : H10 l8 = some (.lst (((ss.filter fun s => decide (s.1 = t)).map (·.1)).map V.str)) := by
        rw [el8, List.map_map]
        rfl
      have nm8 : (ss.filter fun s => decide (s.1 = t)).map (·.1) = [] → t ∉ ss.map (·.1) := fun z hm => by
        obtain ⟨s, hs3, e⟩ := List.mem_map.mp hm
        have : s ∈ ss.filter fun s => decide (s.1 = t) := List.mem_filter.mpr ⟨hs3, decide_eq_true e⟩
        rw [List.map_eq_nil_iff] at z
        rw [z] at this
        cases this
      generalize hL : (ss.filter fun s => decide (s.1 = t)).map (·.1) = nmL at e8 nm8
      have fin : ∀ (ss2 ss' : List Ship) (H' : Hp) (z9 z10 z11 : Option V), ss2.length ≤ ss.length → DrI K a b n p d stl lc ((ns.map V.int).take 60) H H' ss' st7 → ss'.length ≤ ss2.length + 1 →
          ∃ (ss : List Ship) (st : Int), DrI K a b n p d stl lc ((ns.map V.int).take 60) H H' ss st ∧ ss.length ≤ i + 1 ∧ ∃ w5 w6 w7 w8 w9 w10 w11 w12 w13, [some (.ref sa), some (.ref stl), some (.int f), some (.int n), some (.ref p), some (.int c), some (.int r), some (.str t), some (.ref l8), z9, z10, z11, y12, y13] = [some (.ref sa), some (.ref stl), some (.int f), some (.int n), some (.ref p), w5, w6, w7, w8, w9, w10, w11, w12, w13] := fun ss2 ss' H' z9 z10 z11 h1 I' h2 =>
        ⟨ss', st7, I', by omega, _, _, _, _, _, _, _, _, _, rfl⟩
      refine ⟨_, rfl, Nat.zero_le _, fun l11 nl11 => ?_⟩
      have s11 : Same H10 (upd H10 l11 (.lst [])) := same_new nl11
      have I11 := I10.same s11
      refine neT_of (a := nmL) (b := ([] : List Str)) (ho_strs (sqL_of (s11 _ _ e8))) (ho_strs (ns := []) (sqL_of upd_same)) (by decide) ?_
      refine ⟨_, rfl, ?_⟩
      by_cases z8 : nmL = []
      · rw [decide_eq_false (fun z => z z8)]
        exact iteF (iteF (drawn_tail I11 nd0 (by omega) gt a7 (s11 _ _ e8) nm8 fun ss' H' z9 z10 z11 I' h2 => fin ss ss' H' z9 z10 z11 (Nat.le_refl _) I' h2))
      rw [decide_eq_true z8]
      refine iteT ⟨_, rfl, r, 9, rfl, rfl, e9, _, 2, rfl, rfl, q2, rfl, _, rfl, ite2 (fun _ => ?_) (fun _ => ?_)⟩
      · obtain ⟨dx11, hp11⟩ := I11.S.ob
        have hm : t ∈ ss.map (·.1) := by
          rw [← hL] at z8
          obtain ⟨y, hy⟩ := List.exists_mem_of_ne_nil _ z8
          obtain ⟨s, hs3, e⟩ := List.mem_map.mp hy
          obtain ⟨hs4, hs5⟩ := List.mem_filter.mp hs3
          exact List.mem_map.mpr ⟨s, hs4, of_decide_eq_true hs5⟩
        obtain ⟨ss2, L2', hk, _, _⟩ := relaid (t := t) ss I11.L I11.S.nd (fun s hs => ⟨(I11.S.rg s hs).1, (I11.S.rg s hs).2.1⟩)
        refine ⟨_, rfl, b, p, dx11, _, rfl, hp11, by rfl, _, rfl, p, d, n, ss, .str t, rfl, I11.S, ⟨_, .str _⟩, fun t' e => (by cases e; exact isNm_len gt), .inr ⟨t, rfl, gt, .inr ⟨hm, ss2, L2', hk, fun l12 H12 rs12 nl12 k12 S12 el12 tr12 => ?_⟩⟩⟩
        have hl2 : ss2.length ≤ ss.length := by
          have := keys_len hk
          have : (others t ss).length ≤ ss.length := List.length_filter_le _ _
          omega
        have I12 := I11.dc nd0 k12 S12 L2' fun s hs => by
          have hk1 : (s.1, s.2.1) ∈ keys ss2 := List.mem_map_of_mem (f := fun s : Ship => (s.1, s.2.1)) hs
          rw [hk] at hk1
          obtain ⟨o, ho, e⟩ := List.mem_map.mp hk1
          have := I11.nm o (List.mem_filter.mp ho).1
          rw [show o.1 = s.1 from (Prod.mk.inj e).1] at this
          exact this
        obtain ⟨kv11, hd11, _⟩ := I11.S.dc
        have e812 : H12 l8 = some (.lst (nmL.map V.str)) := k12 _ _ (s11 _ _ e8) fun z => by
          have := s11 _ _ e8
          rw [z, hd11] at this
          cases this
        exact drawn_tail I12 nd0 (by omega) gt a7 e812 (fun z => absurd z z8) fun ss' H' z9 z10 z11 I' h2 => fin ss2 ss' H' z9 z10 z11 hl2 I' h2
      · exact drawn_tail I11 nd0 (by omega) gt a7 (s11 _ _ e8) nm8 fun ss' H' z9 z10 z11 I' h2 => fin ss ss' H' z9 z10 z11 (Nat.le_refl _) I' h2
  · rintro σ H6 ⟨ss, st6, I6, hlen, y5, y6, y7, y8, y9, y10, y11, y12, y13, rfl⟩
    refine ⟨_, rfl, q b n p d ss H6 I6.sH I6.S I6.L ⟨fun k hk => ?_, fun k hk => ?_, I6.S.n1, by rw [show (keys ss).length = ss.length by simp [keys]]; exact I6.S.ln⟩⟩
    · obtain ⟨s, hs, rfl⟩ := List.mem_map.mp hk
      exact I6.nm s hs
    · obtain ⟨s, hs, rfl⟩ := List.mem_map.mp hk
      have := I6.S.rg s hs
      exact ⟨this.1, this.2.1⟩

/-! ### a text of another form -/
theorem joinL_last : ∀ {rs : List (List Nat)}, rs ≠ [] → (∀ p ∈ rs, 10 ∉ p ∧ p ≠ []) → TL.joinL [10] rs ≠ [] ∧ (TL.joinL [10] rs).getLast? ≠ some 10
  | [], h, _ => absurd rfl h
  | [p], _, h => by
    obtain ⟨h1, h2⟩ := h p (List.mem_singleton.mpr rfl)
    refine ⟨h2, fun z => h1 ?_⟩
    exact List.mem_of_getLast? z
  | p :: q :: r, _, h => by
    obtain ⟨i1, i2⟩ := joinL_last (rs := q :: r) (by simp) fun x hx => h x (List.mem_cons_of_mem _ hx)
    have e2 : TL.joinL [10] (p :: q :: r) = p ++ ([10] ++ TL.joinL [10] (q :: r)) := rfl
    rw [e2]
    refine ⟨by simp, ?_⟩
    rw [List.getLast?_append, List.getLast?_append]
    cases e : (TL.joinL [10] (q :: r)).getLast? with
    | none => exact absurd (List.getLast?_eq_none_iff.mp e) i1
    | some c =>
      rw [e] at i2
      exact i2
theorem joinL_len {m : Nat} {rs : List (List Nat)} (hr : rs ≠ []) (h : ∀ p ∈ rs, p.length ≤ m) : (TL.joinL [10] rs).length + 1 ≤ rs.length * (m + 1) := by
  have e := congrArg List.length (lines_join hr)
  have := lines_len h
  rw [List.length_append] at e
  simp only [List.length_cons, List.length_nil] at e
  omega
def heads11 : List (List Nat) := [[113, 117, 97, 121, 32, 48], [114, 111, 117, 110, 100, 32, 52, 48, 49], [113, 117, 97, 121], [100, 111, 99, 107, 32, 53], [113, 117, 97, 121, 32, 48, 53], [113, 117, 97, 121, 32, 43, 53], [114, 111, 117, 110, 100, 32, 53, 32, 53], [81, 117, 97, 121, 32, 53], [32, 113, 117, 97, 121, 32, 53], [113, 117, 97, 121, 32, 53, 32], []]
def ships14 : List (List Nat) := [[65, 32, 49], [97], [97, 32, 48], [97, 32, 48, 49], [97, 32, 52, 48, 49], [97, 32, 120], [97, 32, 49, 32, 49], [], [97, 98, 99, 100, 101, 102, 103, 104, 105, 32, 49], [97, 32, 32, 49], [32, 97, 32, 49], [97, 32, 45, 49], [49, 32, 97], [97, 49, 32, 49]]
theorem heads_bad : ∀ x ∈ heads11, headOk x = false ∧ 10 ∉ x ∧ x.length ≤ 12 := by
  have h : heads11.all (fun x => !headOk x && (!decide (10 ∈ x) && decide (x.length ≤ 12))) = true := by decide +kernel
  rw [List.all_eq_true] at h
  intro x hx
  have := h x hx
  simpa [Bool.and_eq_true] using this
theorem ships_bad : ∀ x ∈ ships14, shipOk x = false ∧ 10 ∉ x ∧ x.length ≤ 12 := by
  have h : ships14.all (fun x => !shipOk x && (!decide (10 ∈ x) && decide (x.length ≤ 12))) = true := by decide +kernel
  rw [List.all_eq_true] at h
  intro x hx
  have := h x hx
  simpa [Bool.and_eq_true] using this
theorem bad_head {x : List Nat} {rest : List (List Nat)} (hx : headOk x = false) (h10 : 10 ∉ x) (h : ∀ p ∈ rest, 10 ∉ p) : textOk (lines (x :: rest)) = false := by
  rw [textOk_lines (by simp) (fun p hp => by rcases List.mem_cons.mp hp with e | e; exact e ▸ h10; exact h p e)]
  show (headOk x && rest.all shipOk) = false
  rw [hx, Bool.false_and]
theorem bad_ship {h0 x : List Nat} {rest : List (List Nat)} (hm : x ∈ rest) (hx : shipOk x = false) (h : ∀ p ∈ h0 :: rest, 10 ∉ p) : textOk (lines (h0 :: rest)) = false := by
  rw [textOk_lines (by simp) h]
  show (headOk h0 && rest.all shipOk) = false
  have : rest.all shipOk = false := by
    cases z : rest.all shipOk with
    | false => rfl
    | true =>
      rw [List.all_eq_true] at z
      rw [z x hm] at hx
      cases hx
  rw [this, Bool.and_false]
theorem bad_end {t : List Nat} (h : t.getLast? ≠ some 10) : textOk t = false := by
  unfold textOk
  rw [decide_eq_false h, Bool.false_and]
theorem row_ne {w : List Nat} {k : Nat} : rowL w k ≠ [] := by
  unfold rowL
  simp
theorem rows_ne {b : Bool} {n : Nat} {ks : List (Str × Int)} : ∀ p ∈ rowsL b n ks, p ≠ [] := by
  intro p hp
  rcases List.mem_cons.mp hp with e | hp
  · rw [e]; exact row_ne
  · obtain ⟨q, _, rfl⟩ := List.mem_map.mp hp
    exact row_ne
theorem cut_neg (xs : List V) : cutV xs none (some (-1)) = xs.dropLast := by
  unfold cutV
  rw [HT.sIx_none, List.drop_zero, Nat.sub_zero, List.dropLast_eq_take]
  congr 1
  show (if ((-1 : Int)) < 0 then ((-1 : Int) + (xs.length : Int)).toNat else min (-1 : Int).toNat xs.length) = xs.length - 1
  rw [if_pos (by decide)]
  omega
theorem sum_joinL : ∀ {rs : List (List Nat)}, ((rs.map SX.S).map (·.length)).sum + (rs.map SX.S).length * (Str.ofString "\n").length = (lines rs).length
  | [] => rfl
  | r :: rs => by
    have ih := sum_joinL (rs := rs)
    have e1 : (Str.ofString "\n").length = 1 := rfl
    rw [e1, Nat.mul_one] at ih ⊢
    rw [lines_cons, List.length_append, ← ih]
    simp only [List.map_cons, List.sum_cons, List.length_cons, SX.S_len, List.length_append, List.length_nil]
    omega
theorem join_nl (rs : List (List Nat)) : Txt.join (Str.ofString "\n") (rs.map SX.S) = SX.S (TL.joinL [10] rs) := by
  rw [nl_S, SX.join_S]
theorem q11 : (0 : Int) < 11 := by decide
theorem q14 : (0 : Int) < 14 := by decide
theorem e50 {r : Int} : CDiv r 50 := ⟨by decide, by decide⟩
theorem e100 {r : Int} : CDiv r 100 := ⟨by decide, by decide⟩
theorem e1400 {r : Int} : CDiv r 1400 := ⟨by decide, by decide⟩
theorem heads_V : [V.str (Str.ofString "quay 0"), .str (Str.ofString "round 401"), .str (Str.ofString "quay"), .str (Str.ofString "dock 5"), .str (Str.ofString "quay 05"), .str (Str.ofString "quay +5"), .str (Str.ofString "round 5 5"), .str (Str.ofString "Quay 5"), .str (Str.ofString " quay 5")] ++ [V.str (Str.ofString "quay 5 "), .str (Str.ofString "")] = (heads11.map SX.S).map V.str := by decide +kernel
theorem ships_V : [V.str (Str.ofString "A 1"), .str (Str.ofString "a"), .str (Str.ofString "a 0"), .str (Str.ofString "a 01"), .str (Str.ofString "a 401"), .str (Str.ofString "a x"), .str (Str.ofString "a 1 1"), .str (Str.ofString ""), .str (Str.ofString "abcdefghi 1"), .str (Str.ofString "a  1"), .str (Str.ofString " a 1"), .str (Str.ofString "a -1")] ++ [V.str (Str.ofString "1 a"), .str (Str.ofString "a1 1")] = (ships14.map SX.S).map V.str := by decide +kernel
theorem pickL {rs : List (List Nat)} {r : Int} (h0 : 0 ≤ r) (h1 : r < rs.length) : ∃ x ∈ rs, atI ((rs.map SX.S).map V.str) r = some (.str (SX.S x)) :=
  ⟨rs[r.toNat]'(by omega), List.getElem_mem _, at_of (j := r.toNat) (by omega) (by rw [List.getElem?_map, List.getElem?_map, List.getElem?_eq_getElem (by omega)]; rfl)⟩
def sp_l_odd_text (K : PySem.W.Frag) (a : Ad) : Sp := fun vs H Q _ => ∃ (b : Bool) (p d : Addr) (n : Nat) (ss : List Ship) (c : Int), vs = [.str (SX.S (textL b n (keys ss))), .ref p, .int c] ∧ QuayAt K (a.cls b) H p d n ss ∧ NmOk n (keys ss) ∧ 0 ≤ c ∧ c < 1000000000 ∧
  ∀ (t : List Nat) (H' : Hp), Same H H' → textOk t = false → t.length ≤ 10000 → Q (.str (SX.S t)) H'
abbrev N_l_odd_text : List Str := ["_law_text_here", "_law_quay", "_law_cell", "_law_rows", "_law_at", "_law_many", "_law_some", "_law_more"]
def t_l_odd_text (K : PySem.W.Frag) (a : Ad) : TS :=
  (tSeq (tAsg (tSl (rSlL K) (tSplit (tVar 0) (tC (.str (Str.ofString "\n")))) tNoPart (tPart (tUn (rU fun i => .int (-i)) (tC (.int 1))))) (gName 3))
    (tSeq (tAsg (tOp rModI (tVar 2) (tCB (rLenSq K) (tCons (tVar 3) tNil))) (gName 4))
    (tSeq (tAsg (tCB rStrI (tCons (tMethB a.cls "size" (fun b => sp_M_size K a b) (fun _ => E0) (tVar 1) tNil) tNil)) (gName 5))
    (tSeq (tAsg (tLst (tCons (tC (.str (Str.ofString "quay 0"))) (tCons (tC (.str (Str.ofString "round 401"))) (tCons (tC (.str (Str.ofString "quay"))) (tCons (tC (.str (Str.ofString "dock 5"))) (tCons (tC (.str (Str.ofString "quay 05"))) (tCons (tC (.str (Str.ofString "quay +5"))) (tCons (tC (.str (Str.ofString "round 5 5"))) (tCons (tC (.str (Str.ofString "Quay 5"))) (tCons (tC (.str (Str.ofString " quay 5"))) tNil)))))))))) (gName 6))
    (tSeq (tAsg (tOp rCat (tVar 6) (tLst (tCons (tC (.str (Str.ofString "quay 5 "))) (tCons (tC (.str (Str.ofString ""))) tNil)))) (gName 6))
    (tSeq (tIfS (tTest (tOp rEq (tOp rModI (tOp rDivI (tVar 2) (tC (.int 50))) (tC (.int 2))) (tC (.int 0)))) (tSeq (tAsg (tOp (rIxL K) (tVar 6) (tOp rModI (tOp rDivI (tVar 2) (tC (.int 100))) (tC (.int 11)))) (gSub (tVar 3) (tC (.int 0)) rSetL))
    (tRet (tOp rAddStr (tJoin K (tC (.str (Str.ofString "\n"))) (tVar 3)) (tC (.str (Str.ofString "\n")))))) tNext)
    (tSeq (tAsg (tLst (tCons (tC (.str (Str.ofString "A 1"))) (tCons (tC (.str (Str.ofString "a"))) (tCons (tC (.str (Str.ofString "a 0"))) (tCons (tC (.str (Str.ofString "a 01"))) (tCons (tC (.str (Str.ofString "a 401"))) (tCons (tC (.str (Str.ofString "a x"))) (tCons (tC (.str (Str.ofString "a 1 1"))) (tCons (tC (.str (Str.ofString ""))) (tCons (tC (.str (Str.ofString "abcdefghi 1"))) (tCons (tC (.str (Str.ofString "a  1"))) (tCons (tC (.str (Str.ofString " a 1"))) (tCons (tC (.str (Str.ofString "a -1"))) tNil))))))))))))) (gName 7))
    (tSeq (tAsg (tOp rCat (tVar 7) (tLst (tCons (tC (.str (Str.ofString "1 a"))) (tCons (tC (.str (Str.ofString "a1 1"))) tNil)))) (gName 7))
    (tSeq (tDrop (tBM K "list" rInsert (tVar 3) (tCons (tOp rAddI (tVar 4) (tC (.int 1))) (tCons (tOp (rIxL K) (tVar 7) (tOp rModI (tOp rDivI (tVar 2) (tC (.int 100))) (tC (.int 14)))) tNil))))
    (tRet (tOp (rIxL K) (tLst (tCons (tOp rAddStr (tJoin K (tC (.str (Str.ofString "\n"))) (tVar 3)) (tC (.str (Str.ofString "\n")))) (tCons (tJoin K (tC (.str (Str.ofString "\n"))) (tSl (rSlL K) (tVar 3) tNoPart (tPart (tOp rAddI (tVar 4) (tC (.int 1)))))) tNil))) (tCB rInt1 (tCons (tOp rEq (tOp rModI (tOp rDivI (tVar 2) (tC (.int 1400))) (tC (.int 9))) (tC (.int 1))) tNil)))))))))))))
theorem len_l_odd_text {K : PySem.W.Frag} {a : Ad} {vs : List V} {H : Hp} {Q : VK} {E : XK} (h : sp_l_odd_text K a vs H Q E) : vs.length = 3 := by
  obtain ⟨b, p, d, n, ss, c, rfl, _⟩ := h
  rfl
theorem pu_l_odd_text {K : PySem.W.Frag} {a : Ad} {vs : List V} {H : Hp} {Q : VK} {E : XK} (h : sp_l_odd_text K a vs H Q E) : t_l_odd_text K a { nx := fun _ H' => Q .non H', rt := Q } (start N_l_odd_text vs) H := by
  obtain ⟨b, p, d, n, ss, c, rfl, S, ok, c0, c9, q⟩ := h
  have htl := text_len (b := b) ok
  have hno := rows_no (b := b) ok
  have hne := rows_ne (b := b) (n := n) (ks := keys ss)
  have h12 := rows_len (b := b) ok
  have hln := ok.ln
  have hn := S.n1
  refine ⟨_, rfl, ⟨_, rfl⟩, SX.S (textL b n (keys ss)), Str.ofString "\n", rfl, rfl, by decide +kernel, by rw [SX.S_len]; exact ml2 (by omega), fun l0 nl0 => ?_⟩
  have esp : Txt.split (SX.S (textL b n (keys ss))) (Str.ofString "\n") = (rowsL b n (keys ss) ++ [[]]).map SX.S := by
    rw [split_nl]
    unfold textL
    rw [spl_all hno]
  rw [esp]
  have hrn : (rowsL b n (keys ss)).length = (keys ss).length + 1 := by simp [rowsL]
  obtain ⟨h0, rest, er⟩ : ∃ h0 rest, rowsL b n (keys ss) = h0 :: rest := ⟨_, _, rfl⟩
  generalize rowsL b n (keys ss) = rows at *
  have s0 : Same H (upd H l0 (.lst (((rows ++ [[]]).map SX.S).map V.str))) := same_new nl0
  refine ⟨1, rfl, -1, rfl, l0, _, rfl, sqL_of upd_same, fun l1 nl1 => ?_⟩
  have ec : cutV (((rows ++ [[]]).map SX.S).map V.str) none (some (-1)) = (rows.map SX.S).map V.str := by
    rw [cut_neg, List.map_append, List.map_append]
    exact List.dropLast_concat
  rw [ec]
  have s1 : Same H (upd (upd H l0 (.lst (((rows ++ [[]]).map SX.S).map V.str))) l1 (.lst ((rows.map SX.S).map V.str))) := s0.trans (same_new nl1)
  have nl1H : H l1 = none := s0.free nl1
  have e1 : (upd (upd H l0 (.lst (((rows ++ [[]]).map SX.S).map V.str))) l1 (.lst ((rows.map SX.S).map V.str))) l1 = some (.lst ((rows.map SX.S).map V.str)) := upd_same
  generalize (upd (upd H l0 (.lst (((rows ++ [[]]).map SX.S).map V.str))) l1 (.lst ((rows.map SX.S).map V.str))) = H1 at s1 e1 ⊢
  have hrl : (((rows.map SX.S).map V.str).length : Int) = (rows.length : Int) := by rw [List.length_map, List.length_map]
  have m1 := Int.emod_nonneg c (show ((rows.length : Nat) : Int) ≠ 0 by omega)
  have m2 := Int.emod_lt_of_pos c (show (0 : Int) < (rows.length : Nat) by omega)
  refine ⟨_, rfl, .ref l1, rfl, l1, _, rfl, .inl (sqL_of e1), ?_⟩
  rw [hrl]
  refine ⟨c, _, rfl, rfl, (by show (0 : Int) < (rows.length : Nat); omega), ?_⟩
  show gName 4 (V.int (c % (rows.length : Nat))) _ _ _
  obtain ⟨at', ea⟩ : ∃ k : Nat, c % (rows.length : Nat) = (k : Int) := ⟨(c % (rows.length : Nat)).toNat, by omega⟩
  rw [ea] at m2 ⊢
  have hat : at' < rows.length := by omega
  have S1 := S.same s1
  obtain ⟨dx1, hp1⟩ := S1.ob
  refine ⟨.ref p, rfl, b, p, dx1, _, rfl, hp1, by rfl, p, d, n, ss, rfl, S1, n, rfl, log_small (by simp; omega), ?_⟩
  refine ⟨(by show 9 ≤ sizeLine; decide), fun l6 nl6 => ?_⟩
  refine ⟨_, rfl, (by show 2 ≤ sizeLine; decide), fun lx nlx => ⟨l6, lx, _, _, rfl, rfl, same_new nlx _ _ upd_same, upd_same, (by show 11 ≤ sizeLine; decide), fun l7 nl7 => ?_⟩⟩
  rw [heads_V]
  have s7 := ((same_new nl6).trans (same_new nlx)).trans (same_new nl7 (o := .lst ((heads11.map SX.S).map V.str)))
  generalize hH7 : upd (upd (upd H1 l6 _) lx _) l7 (.lst ((heads11.map SX.S).map V.str)) = H7 at s7 ⊢
  have e7 : H7 l7 = some (.lst ((heads11.map SX.S).map V.str)) := by rw [← hH7]; exact upd_same
  clear hH7
  have e17 := s7 _ _ e1
  have s17 := s1.trans s7
  refine ⟨_, rfl, c, 50, rfl, rfl, e50, _, 2, rfl, rfl, q2, rfl, _, rfl, ite2 (fun _ => ?_) (fun _ => ?_)⟩
  · obtain ⟨x, hx, ex⟩ := pickL (rs := heads11) (r := c / 100 % 11) (Int.emod_nonneg _ (by decide)) (Int.emod_lt_of_pos _ q11)
    obtain ⟨hb, h10, hxl⟩ := heads_bad x hx
    refine ⟨_, rfl, _, rfl, c, 100, rfl, rfl, e100, _, 11, rfl, rfl, q11, l7, _, _, _, rfl, rfl, sqL_of e7, ex, _, rfl, l1, _, 0, 0, rfl, rfl, e17, ?_, ?_⟩
    · unfold ixN
      rw [if_pos (by decide), List.length_map, List.length_map, if_pos (by omega)]
      rfl
    subst er
    have eset : (((h0 :: rest).map SX.S).map V.str).set 0 (V.str (SX.S x)) = ((x :: rest).map SX.S).map V.str := rfl
    rw [eset]
    have hno' : ∀ p ∈ rest, 10 ∉ p := fun p hp => hno p (List.mem_cons_of_mem _ hp)
    have hl' : ∀ p ∈ x :: rest, p.length ≤ 12 := fun p hp => by
      rcases List.mem_cons.mp hp with e | e
      · rw [e]; exact hxl
      · exact h12 p (List.mem_cons_of_mem _ e)
    have hll := lines_len hl'
    rw [List.length_cons] at hll hrn
    refine ⟨⟨_, rfl⟩, .ref l1, rfl, Str.ofString "\n", l1, _, rfl, rfl, .inl (sqL_of upd_same), ?_, ?_⟩
    · rw [sum_joinL]
      omega
    rw [join_nl]
    have hj := lines_join (rs := x :: rest) (by simp)
    have hjl := congrArg List.length hj
    rw [List.length_append] at hjl
    simp only [List.length_cons, List.length_nil] at hjl
    refine ⟨_, _, rfl, rfl, ml (by rw [SX.S_len, show (Str.ofString "\n").length = 1 from rfl]; omega), ?_⟩
    rw [nl_S, SX.S_cat, ← hj]
    exact q _ _ (s17.store nl1H) (bad_head hb h10 hno') (by omega)
  -- a row put between
  refine ⟨(by show 12 ≤ sizeLine; decide), fun l8 nl8 => ?_⟩
  refine ⟨_, rfl, (by show 2 ≤ sizeLine; decide), fun ly nly => ⟨l8, ly, _, _, rfl, rfl, same_new nly _ _ upd_same, upd_same, (by show 14 ≤ sizeLine; decide), fun l9 nl9 => ?_⟩⟩
  rw [ships_V]
  have s9 := ((same_new nl8).trans (same_new nly)).trans (same_new nl9 (o := .lst ((ships14.map SX.S).map V.str)))
  generalize hH9 : upd (upd (upd H7 l8 _) ly _) l9 (.lst ((ships14.map SX.S).map V.str)) = H9 at s9 ⊢
  have e9 : H9 l9 = some (.lst ((ships14.map SX.S).map V.str)) := by rw [← hH9]; exact upd_same
  clear hH9
  have e19 := s9 _ _ e17
  have s19 := s17.trans s9
  obtain ⟨x, hx, ex⟩ := pickL (rs := ships14) (r := c / 100 % 14) (Int.emod_nonneg _ (by decide)) (Int.emod_lt_of_pos _ q14)
  obtain ⟨hb, h10, hxl⟩ := ships_bad x hx
  refine ⟨_, rfl, .inl ⟨rfl, _, sqL_of e19⟩, _, rfl, at', 1, rfl, rfl, _, rfl, _, rfl, c, 100, rfl, rfl, e100, _, 14, rfl, rfl, q14, l9, _, _, _, rfl, rfl, sqL_of e9, ex, l1, _, _, _, rfl, rfl, e19, ?_, ?_, ?_, ?_⟩
  · rw [List.length_map, List.length_map]
    exact small1000 (by omega)
  · show (0 : Int) ≤ (at' : Int) + 1
    omega
  · show (at' : Int) + 1 < 2 ^ 63
    have : (at' : Int) < 501 := by omega
    have : (2 : Int) ^ 63 = 9223372036854775808 := by decide
    omega
  have et : ((at' : Int) + 1).toNat = at' + 1 := by omega
  have eins : (((rows.map SX.S).map V.str).take ((at' : Int) + 1).toNat ++ [V.str (SX.S x)] ++ ((rows.map SX.S).map V.str).drop ((at' : Int) + 1).toNat) = ((rows.take (at' + 1) ++ [x] ++ rows.drop (at' + 1)).map SX.S).map V.str := by
    rw [et]
    simp [List.map_append, List.map_take, List.map_drop]
  rw [eins]
  have s110 : Same H (upd H9 l1 (.lst (((rows.take (at' + 1) ++ [x] ++ rows.drop (at' + 1)).map SX.S).map V.str))) := s19.store nl1H
  have e10 : (upd H9 l1 (.lst (((rows.take (at' + 1) ++ [x] ++ rows.drop (at' + 1)).map SX.S).map V.str))) l1 = some (.lst (((rows.take (at' + 1) ++ [x] ++ rows.drop (at' + 1)).map SX.S).map V.str)) := upd_same
  generalize (upd H9 l1 (.lst (((rows.take (at' + 1) ++ [x] ++ rows.drop (at' + 1)).map SX.S).map V.str))) = H10 at s110 e10 ⊢
  have hmem : ∀ p ∈ rows.take (at' + 1) ++ [x] ++ rows.drop (at' + 1), p ∈ rows ∨ p = x := fun p hp => by
    simp only [List.mem_append, List.mem_singleton] at hp
    rcases hp with (hp | hp) | hp
    · exact .inl (List.mem_of_mem_take hp)
    · exact .inr hp
    · exact .inl (List.mem_of_mem_drop hp)
  have hno2 : ∀ p ∈ rows.take (at' + 1) ++ [x] ++ rows.drop (at' + 1), 10 ∉ p := fun p hp => by
    rcases hmem p hp with e | e
    · exact hno p e
    · rw [e]; exact h10
  have hl2 : ∀ p ∈ rows.take (at' + 1) ++ [x] ++ rows.drop (at' + 1), p.length ≤ 12 := fun p hp => by
    rcases hmem p hp with e | e
    · exact h12 p e
    · rw [e]; exact hxl
  have enr : rows.take (at' + 1) ++ [x] ++ rows.drop (at' + 1) = h0 :: (rest.take at' ++ [x] ++ rest.drop at') := by
    rw [er]
    rfl
  have hnrl : (rows.take (at' + 1) ++ [x] ++ rows.drop (at' + 1)).length = rows.length + 1 := by
    simp only [List.length_append, List.length_take, List.length_drop, List.length_cons, List.length_nil]
    omega
  have ecut : cutV (((rows.take (at' + 1) ++ [x] ++ rows.drop (at' + 1)).map SX.S).map V.str) none (some ((at' : Int) + 1)) = ((rows.take (at' + 1)).map SX.S).map V.str := by
    have h := cut_first (((rows.take (at' + 1) ++ [x] ++ rows.drop (at' + 1)).map SX.S).map V.str) (at' + 1)
    rw [show (((at' + 1 : Nat) : Int)) = (at' : Int) + 1 by omega] at h
    rw [h, ← List.map_take, ← List.map_take, List.append_assoc, List.take_left' (by rw [List.length_take]; omega)]
  have bad1 : textOk (lines (rows.take (at' + 1) ++ [x] ++ rows.drop (at' + 1))) = false := by
    rw [enr] at hno2 ⊢
    exact bad_ship (x := x) (by simp) hb hno2
  have hll := lines_len hl2
  generalize hNR : rows.take (at' + 1) ++ [x] ++ rows.drop (at' + 1) = nr at *
  rw [hnrl] at hll
  have hnr0 : nr ≠ [] := fun z => by rw [z] at hnrl; simp at hnrl
  have hj := lines_join hnr0
  have hjl := congrArg List.length hj
  rw [List.length_append] at hjl
  simp only [List.length_cons, List.length_nil] at hjl
  have htk : ∀ p ∈ rows.take (at' + 1), 10 ∉ p ∧ p ≠ [] := fun p hp => ⟨hno p (List.mem_of_mem_take hp), hne p (List.mem_of_mem_take hp)⟩
  have htk0 : rows.take (at' + 1) ≠ [] := by rw [er]; simp
  have htl2 := lines_len (fun p hp => h12 p (List.mem_of_mem_take hp) : ∀ p ∈ rows.take (at' + 1), p.length ≤ 12)
  have htl3 : (rows.take (at' + 1)).length ≤ 501 := by rw [List.length_take]; omega
  have hj2 := lines_join htk0
  have hjl2 := congrArg List.length hj2
  rw [List.length_append] at hjl2
  simp only [List.length_cons, List.length_nil] at hjl2
  have bad2 := bad_end (joinL_last htk0 htk).2
  refine ⟨⟨_, rfl⟩, .ref l1, rfl, Str.ofString "\n", l1, _, rfl, rfl, .inl (sqL_of e10), ?_, ?_⟩
  · rw [sum_joinL]
    omega
  rw [join_nl]
  refine ⟨_, _, rfl, rfl, ml (by rw [SX.S_len, show (Str.ofString "\n").length = 1 from rfl]; omega), ?_⟩
  refine ⟨⟨_, rfl⟩, .ref l1, rfl, _, rfl, at', 1, rfl, rfl, _, rfl, l1, _, rfl, sqL_of e10, fun lz nlz => ?_⟩
  have elz : (upd H10 lz (.lst (cutV ((nr.map SX.S).map V.str) none (some ((at' : Int) + 1))))) lz = some (.lst (((rows.take (at' + 1)).map SX.S).map V.str)) := by rw [upd_same, ecut]
  have s11 : Same H10 (upd H10 lz (.lst (cutV ((nr.map SX.S).map V.str) none (some ((at' : Int) + 1))))) := same_new nlz
  change (fun y H2 => _) (V.ref lz) (upd H10 lz (.lst (cutV ((nr.map SX.S).map V.str) none (some ((at' : Int) + 1)))))
  generalize (upd H10 lz (.lst (cutV ((nr.map SX.S).map V.str) none (some ((at' : Int) + 1))))) = H11 at elz s11 ⊢
  refine ⟨Str.ofString "\n", lz, _, rfl, rfl, .inl (sqL_of elz), ?_, ?_⟩
  · rw [sum_joinL]
    omega
  rw [join_nl]
  refine ⟨(by show 2 ≤ sizeLine; decide), fun lr nlr => ?_⟩
  have s12 := (s110.trans s11).trans (same_new nlr (o := .lst [V.str (SX.S (TL.joinL [10] nr) ++ Str.ofString "\n"), .str (SX.S (TL.joinL [10] (rows.take (at' + 1))))]))
  refine ⟨_, rfl, c, 1400, rfl, rfl, e1400, _, 9, rfl, rfl, q9, rfl, .inr ⟨_, rfl, ?_⟩⟩
  by_cases z : (c / 1400 % 9 = 1)
  · refine ⟨lr, _, 1, _, rfl, ?_, sqL_of upd_same, atI_nat (j := 1) rfl, ?_⟩
    · show V.int (if decide (V.int (c / 1400 % 9) = V.int 1) = true then 1 else 0) = V.int 1
      rw [if_pos (decide_eq_true (congrArg V.int z))]
    · exact q _ _ s12 bad2 (by omega)
  · refine ⟨lr, _, 0, _, rfl, ?_, sqL_of upd_same, atI_nat (j := 0) rfl, ?_⟩
    · show V.int (if decide (V.int (c / 1400 % 9) = V.int 1) = true then 1 else 0) = V.int 0
      rw [if_neg (fun y => z (V.int.inj (of_decide_eq_true y)))]
    · have e := q (lines nr) _ s12 bad1 (by omega)
      rw [hj, ← SX.S_cat, ← nl_S] at e
      exact e

/-! ### triples as data -/
structure Tri where
  nm : Str
  x : Int
  y : Int
  deriving DecidableEq
instance : PySem.W.Datum Tri where
  toD t := .tuple [.str t.nm, .int t.x, .int t.y]
  plain t := rfl
  eqv a b := by
    obtain ⟨a1, a2, a3⟩ := a
    obtain ⟨b1, b2, b3⟩ := b
    have h1 : (PyData.str a1).eqv (.str b1) = decide (a1 = b1) := PySem.W.Datum.eqv a1 b1
    have h2 : (PyData.int a2).eqv (.int b2) = decide (a2 = b2) := PySem.W.Datum.eqv a2 b2
    have h3 : (PyData.int a3).eqv (.int b3) = decide (a3 = b3) := PySem.W.Datum.eqv a3 b3
    show ((PyData.str a1).eqv (.str b1) && ((PyData.int a2).eqv (.int b2) && ((PyData.int a3).eqv (.int b3) && true))) = _
    rw [h1, h2, h3, Bool.and_true, ← Bool.decide_and, ← Bool.decide_and]
    congr 1
    rw [eq_iff_iff, Tri.mk.injEq]
  depth := 1
  depth_le t := Nat.le_of_eq rfl
def triL (ss : List Ship) : List Tri := ss.map fun s => ⟨s.1, s.2.1, s.2.2⟩
theorem ho_tri {K : PySem.W.Frag} {H : Hp} {l : Addr} {rs : List V} {ss : List Ship} (el : SqL K H l rs) (h : TrAt K H rs ss) : Dp K H (.ref l) (PySem.W.Datum.toD (triL ss)) := by
  have : DpAll K H rs ((triL ss).map PySem.W.Datum.toD) := by
    clear el
    unfold triL
    induction h with
    | nil => exact .nil
    | cons a _ ih =>
      obtain ⟨t, rfl, ht⟩ := a
      exact .cons (.tup ht (.cons (.str _) (.cons (.int _) (.cons (.int _) .nil)))) ih
  exact .lst el this

/-! ### the law: texts of quays -/
theorem load_laid {b : Bool} {n : Nat} : ∀ (rest ss0 : List Ship), Laid b n (ss0 ++ rest) → ((ss0 ++ rest).map (·.1)).Nodup → (∀ s ∈ rest, 1 ≤ s.2.1 ∧ s.2.1 ≤ n) → load b n ss0 (keys rest) = .ok (ss0 ++ rest)
  | [], ss0, _, _, _ => by rw [List.append_nil]; rfl
  | s :: r, ss0, L, nd, rg => by
    have e : ss0 ++ s :: r = (ss0 ++ [s]) ++ r := by simp
    have h1 : s.1 ∉ ss0.map (·.1) := fun hm => by
      rw [List.map_append, List.nodup_append] at nd
      exact nd.2.2 s.1 hm s.1 (by simp) rfl
    have h2 : inB 1 n (.int s.2.1) = true := by
      have := rg s List.mem_cons_self
      simp [inB]
      omega
    have h3 : ffq b n (occS ss0) s.2.1 = some s.2.2 := by
      have := L ss0.length s (by simp)
      rwa [List.take_left] at this
    show (if s.1 ∈ ss0.map (·.1) then Except.error Rk.taken else if inB 1 n (.int s.2.1) = false then .error .wish else match ffq b n (occS ss0) s.2.1 with
      | none => .error .room
      | some l => load b n (ss0 ++ [(s.1, s.2.1, l)]) (keys r)) = _
    rw [if_neg h1, if_neg (by rw [h2]; decide), h3]
    have ih := load_laid r (ss0 ++ [s]) (by rw [← e]; exact L) (by rw [← e]; exact nd) fun x hx => rg x (List.mem_cons_of_mem _ hx)
    rw [e]
    exact ih
def isErr (k : Rk) : Except Rk (List Ship) → Bool
  | .error k' => decide (k' = k)
  | .ok _ => false
def isOkL (ss : List Ship) : Except Rk (List Ship) → Bool
  | .ok ss' => decide (ss' = ss)
  | .error _ => false
theorem isErr_eq {k : Rk} {x : Except Rk (List Ship)} (h : isErr k x = true) : x = .error k := by
  cases x with
  | error k' => exact congrArg Except.error (of_decide_eq_true h)
  | ok _ => cases h
theorem isOkL_eq {ss : List Ship} {x : Except Rk (List Ship)} (h : isOkL ss x = true) : x = .ok ss := by
  cases x with
  | ok ss' => exact congrArg Except.ok (of_decide_eq_true h)
  | error _ => cases h
def lineL : List Nat := [113, 117, 97, 121, 32, 50, 10, 97, 32, 50, 10]
def dueL : List (List Nat × Rk) := [([98, 32, 50, 10], .room), ([97, 32, 49, 10], .taken), ([98, 32, 51, 10], .wish), ([98, 32, 50, 10, 65, 32, 49, 10], .text), ([97, 32, 51, 10], .taken)]
def dueOk (q : List Nat × Rk) : Bool :=
  decide (q.1.length ≤ 20) && ((decide (q.2 = .text) && !textOk (lineL ++ q.1)) || (textOk (lineL ++ q.1) && (decide ((rowsOf (lineL ++ q.1)).length ≤ 501) && isErr q.2 (load (kindOf (rowsOf (lineL ++ q.1))) (sizeOf' (rowsOf (lineL ++ q.1))) [] ((rowsOf (lineL ++ q.1)).tail.map shipOf)))))
theorem due_all : ∀ q ∈ dueL, dueOk q = true := by
  have h : dueL.all dueOk = true := by decide +kernel
  rw [List.all_eq_true] at h
  exact h
theorem line_S : (Str.ofString "quay 2\na 2\n") = SX.S lineL := by decide +kernel
theorem due_V : [V.str (Str.ofString "b 2\n"), .str (Str.ofString "a 1\n"), .str (Str.ofString "b 3\n"), .str (Str.ofString "b 2\nA 1\n"), .str (Str.ofString "a 3\n")] = dueL.map fun q => V.str (SX.S q.1) := by decide +kernel
theorem due_W : [V.str (Str.ofString "room"), .str (Str.ofString "taken"), .str (Str.ofString "wish"), .str (Str.ofString "text"), .str (Str.ofString "taken")] = (dueL.map fun q => wordK q.2).map V.str := by decide +kernel
def lastL : List Nat := [114, 111, 117, 110, 100, 32, 50, 10, 97, 32, 50, 10, 98, 32, 50, 10]
def lastS : List Ship := [(SX.S [97], 2, 2), (SX.S [98], 2, 1)]
theorem last_S : (Str.ofString "round 2\na 2\nb 2\n") = SX.S lastL := by decide +kernel
theorem last_ok : textOk lastL = true ∧ (rowsOf lastL).length ≤ 501 ∧ kindOf (rowsOf lastL) = true ∧ sizeOf' (rowsOf lastL) = 2 ∧ isOkL lastS (load true 2 [] ((rowsOf lastL).tail.map shipOf)) = true := by
  refine ⟨by decide +kernel, by decide +kernel, by decide +kernel, by decide +kernel, by decide +kernel⟩
/-- a thing that is no text of a quay, read -/
theorem read_odd {K : PySem.W.Frag} {a : Ad} {x : V} {H : Hp} {Q : VK} {E : XK} (tx : TxIn K H x) (h : textV x = false) (q : ∀ H', Same H H' → Q (.str (Str.ofString "text")) H') : sp_l_read K a [x] H Q E :=
  ⟨x, rfl, tx, .inl ⟨h, fun H' s => ⟨rfl, .text, rfl, fun H'' s2 => q H'' (s.trans s2)⟩⟩⟩
theorem kit_ss {K : PySem.W.Frag} : PySem.W.kitOne K (.type "str") (.type "str") = some true := kit_ty (by decide +kernel)
theorem kit_self {K : PySem.W.Frag} {C : Addr} : PySem.W.kitOne K (.ref C) (.ref C) = some true := by
  unfold PySem.W.kitOne
  rw [if_pos (beq_self_eq_true _)]
theorem kit_cls {K : PySem.W.Frag} {C D : Addr} {b : Bool} (ne : D ≠ C ∨ b = true) (hc : (PySem.W.clsIn K C).isSome = true) (ht : PySem.W.typeIn K (.ref C) = some (.type "type")) (h : PySem.W.subIn K (.ref D) (.ref C) = some b) : PySem.W.kitOne K (.ref D) (.ref C) = some b := by
  unfold PySem.W.kitOne
  by_cases e : (Value.ref D == Value.ref C) = true
  · rw [if_pos e]
    have e2 : D = C := Value.ref.inj (beq_iff_eq.mp e)
    rcases ne with z | z
    · exact absurd e2 z
    · rw [z]
  · rw [if_neg e]
    have e2 : ((PySem.W.clsIn K C).isSome && PySem.W.typeIn K (.ref C) == some (.type "type")) = true := by rw [hc, ht] <;> rfl
    show (if ((PySem.W.clsIn K C).isSome && PySem.W.typeIn K (.ref C) == some (.type "type")) = true then PySem.W.subIn K (.ref D) (.ref C) else none) = some b
    rw [if_pos e2]
    exact h
theorem kk_of {K : PySem.W.Frag} {a : Ad} (c1 : (PySem.W.clsIn K a.c_Quay).isSome = true) (c2 : (PySem.W.clsIn K a.c_Round).isSome = true) (t1 : PySem.W.typeIn K (.ref a.c_Quay) = some (.type "type")) (t2 : PySem.W.typeIn K (.ref a.c_Round) = some (.type "type"))
    (qr : PySem.W.subIn K (.ref a.c_Quay) (.ref a.c_Round) = some false) (rq : PySem.W.subIn K (.ref a.c_Round) (.ref a.c_Quay) = some true) : ∀ b b2, PySem.W.kitOne K (.ref (a.cls b)) (.ref (a.cls b2)) = some (b || !b2) := by
  have ne : a.c_Quay ≠ a.c_Round := fun z => by
    rw [z] at qr rq
    rw [qr] at rq
    cases rq
  intro b b2
  cases b <;> cases b2
  · exact kit_self
  · exact kit_cls (.inl ne) c2 t2 qr
  · exact kit_cls (.inr rfl) c1 t1 rq
  · exact kit_self
theorem q109 : (0 : Int) < 1000000000 := by decide
def sp_law (K : PySem.W.Frag) : Sp := fun vs H Q _ => ∃ (s : Addr) (ns : List Int), vs = [.ref s] ∧ SqL K H s (ns.map V.int) ∧ ns.length ≤ 63 ∧ ∀ H', Q (.bl true) H'
abbrev N_law : List Str := ["_law_script", "_law_quay", "_law_text_here", "_law_again", "_law_kinds", "_law_cell", "_law_thing", "_law_line", "_law_due", "_law_more"]
def t_law (K : PySem.W.Frag) (a : Ad) : TS :=
  (tSeq (tAsg (tCall (sp_l_drawn K a) [] E0 (tCons (tVar 0) tNil)) (gName 1))
    (tSeq (tAsg (tCall (sp_written K a) [] E0 (tCons (tVar 1) tNil)) (gName 2))
    (tSeq (tIfS (tOr (tNot (tB (tCB (rIsi K) (tCons (tVar 2) (tCons (tC (.ty "str")) tNil))))) (tTest (tOp rNe (tVar 2) (tCall (sp_l_text K a) [] E0 (tCons (tVar 1) tNil))))) (tRet (tC (.bl false))) tNext)
    (tSeq (tAsg (tCall (sp_read K a) [] E0 (tCons (tVar 2) tNil)) (gName 3))
    (tSeq (tAsg (tLst (tCons (tCB (rIsi K) (tCons (tVar 3) (tCons (tC (.ref a.c_Round)) tNil))) (tCons (tCB (rIsi K) (tCons (tVar 1) (tCons (tC (.ref a.c_Round)) tNil))) tNil))) (gName 4))
    (tSeq (tIfS (tOr (tNot (tB (tCB (rIsi K) (tCons (tVar 3) (tCons (tC (.ref a.c_Quay)) tNil))))) (tOr (tTest (tOp rNe (tOp (rIxL K) (tVar 4) (tC (.int 0))) (tOp (rIxL K) (tVar 4) (tC (.int 1))))) (tTest (tOp (rNeT K) (tMethB a.cls "all_ships" (fun b => sp_M_all_ships K a b) (fun _ => E0) (tVar 3) tNil) (tMethB a.cls "all_ships" (fun b => sp_M_all_ships K a b) (fun _ => E0) (tVar 1) tNil))))) (tRet (tC (.bl false))) tNext)
    (tSeq (tIfS (tOr (tTest (tOp rNe (tMethB a.cls "size" (fun b => sp_M_size K a b) (fun _ => E0) (tVar 3) tNil) (tMethB a.cls "size" (fun b => sp_M_size K a b) (fun _ => E0) (tVar 1) tNil))) (tOr (tTest (tOp (rNeT K) (tMethB a.cls "free_ones" (fun b => sp_M_free_ones K a b) (fun _ => E0) (tVar 3) tNil) (tMethB a.cls "free_ones" (fun b => sp_M_free_ones K a b) (fun _ => E0) (tVar 1) tNil))) (tTest (tOp rNe (tCall (sp_written K a) [] E0 (tCons (tVar 3) tNil)) (tVar 2))))) (tRet (tC (.bl false))) tNext)
    (tSeq (tFor (iList K (tOp rCat (tLst (tCons (tC (.int 7)) tNil)) (tSl (rSlL K) (tVar 0) tNoPart (tPart (tC (.int 20)))))) (gName 5)
    (tIfS (tTest (tOp rNe (tCall (sp_l_read K a) [] E0 (tCons (tCall (sp_l_odd_text K a) [] E0 (tCons (tVar 2) (tCons (tVar 1) (tCons (tOp rModI (tVar 5) (tOp rPowI (tC (.int 10)) (tC (.int 9)))) tNil)))) tNil)) (tC (.str (Str.ofString "text"))))) (tRet (tC (.bl false))) tNext))
    (tSeq (tFor (iList K (tLst (tCons (tC .non) (tCons (tC (.int 5)) (tCons (tC (.str (Str.ofString ""))) (tCons (tC (.str (Str.ofString "quay 5"))) (tCons (tLst (tCons (tVar 2) tNil)) (tCons (tC (.str (Str.ofString "\n"))) (tCons (tOp rAddStr (tVar 2) (tC (.str (Str.ofString "\n")))) (tCons (tOp rAddStr (tC (.str (Str.ofString "\n"))) (tVar 2)) (tCons (tSl rSlS (tVar 2) tNoPart (tPart (tUn (rU fun i => .int (-i)) (tC (.int 1))))) tNil))))))))))) (gName 6)
    (tIfS (tTest (tOp rNe (tCall (sp_l_read K a) [] E0 (tCons (tVar 6) tNil)) (tC (.str (Str.ofString "text"))))) (tRet (tC (.bl false))) tNext))
    (tSeq (tAsg (tC (.str (Str.ofString "quay 2\na 2\n"))) (gName 7))
    (tSeq (tAsg (tLc (iList K (tLst (tCons (tC (.str (Str.ofString "b 2\n"))) (tCons (tC (.str (Str.ofString "a 1\n"))) (tCons (tC (.str (Str.ofString "b 3\n"))) (tCons (tC (.str (Str.ofString "b 2\nA 1\n"))) (tCons (tC (.str (Str.ofString "a 3\n"))) tNil))))))) (gName 9) tYes (tCall (sp_l_read K a) [] E0 (tCons (tOp rAddStr (tVar 7) (tVar 9)) tNil)) [9]) (gName 8))
    (tSeq (tIfS (tTest (tOp (rNeT K) (tVar 8) (tLst (tCons (tC (.str (Str.ofString "room"))) (tCons (tC (.str (Str.ofString "taken"))) (tCons (tC (.str (Str.ofString "wish"))) (tCons (tC (.str (Str.ofString "text"))) (tCons (tC (.str (Str.ofString "taken"))) tNil)))))))) (tRet (tC (.bl false))) tNext)
    (tRet (tOp (rEqT K) (tMethB a.cls "all_ships" (fun b => sp_M_all_ships K a b) (fun _ => E0) (tCall (sp_read K a) [] E0 (tCons (tC (.str (Str.ofString "round 2\na 2\nb 2\n"))) tNil)) tNil) (tLst (tCons (tTup (tCons (tC (.str (Str.ofString "a"))) (tCons (tC (.int 2)) (tCons (tC (.int 2)) tNil)))) (tCons (tTup (tCons (tC (.str (Str.ofString "b"))) (tCons (tC (.int 2)) (tCons (tC (.int 1)) tNil)))) tNil)))))))))))))))))
theorem len_law {K : PySem.W.Frag} {vs : List V} {H : Hp} {Q : VK} {E : XK} (h : sp_law K vs H Q E) : vs.length = 1 := by
  obtain ⟨s, ns, rfl, _⟩ := h
  rfl
theorem pu_law {K : PySem.W.Frag} {a : Ad} (kd : ∀ b, C8.InsC K (a.cls b)) (kk : ∀ b b2, PySem.W.kitOne K (.ref (a.cls b)) (.ref (a.cls b2)) = some (b || !b2)) {vs : List V} {H : Hp} {Q : VK} {E : XK} (h : sp_law K vs H Q E) : t_law K a { nx := fun _ H' => Q .non H', rt := Q } (start N_law vs) H := by
  obtain ⟨sa, ns, rfl, hs, hl, q⟩ := h
  refine ⟨.ref sa, rfl, sa, ns, rfl, hs, hl, fun b n p d ss H1 s1 S1 L ok => ?_⟩
  have tyq : ∀ {H' : Hp} {p d : Addr}, QuayAt K (a.cls b) H' p d n ss → TyX K H' (.ref p) (.ref (a.cls b)) := fun {H' p d} S => by
    obtain ⟨dx, hp⟩ := S.ob
    exact .base (.ins hp (kd b).cl (kd b).ha (kd b).hn (kd b).htk (kd b).hm)
  have htl := text_len (b := b) ok
  have hrw := text_rows (b := b) ok
  have hgood := text_good (b := b) ok
  obtain ⟨t1, t2, t3⟩ := text_tells (b := b) ok
  have hno := rows_no (b := b) ok
  have hne := rows_ne (b := b) (n := n) (ks := keys ss)
  have hks : (keys ss).length ≤ 500 := ok.ln
  have hS : (SX.S (textL b n (keys ss))).length ≤ 7000 := by rw [SX.S_len]; exact htl
  -- the text
  refine ⟨.ref p, rfl, b, p, d, n, ss, rfl, S1, ok, fun H2 s2 => ?_⟩
  have S2 := S1.same s2
  refine ⟨_, rfl, _, _, _, _, true, rfl, .ty _, .base (.str _), kit_ss, true, rfl, iteF ⟨_, rfl, .ref p, rfl, b, p, d, n, ss, rfl, S2, ok, fun H3 s3 => ⟨rfl, _, rfl, ?_⟩⟩⟩
  have S3 := S2.same s3
  have dT : ∀ v : V, (!decide (v = v)) = false := fun v => by rw [decide_eq_true rfl]; rfl
  show (if (!decide (V.str (SX.S (textL b n (keys ss))) = V.str (SX.S (textL b n (keys ss))))) = true then _ else _)
  rw [dT]
  refine iteF ?_
  -- read again
  have txT : TxIn K H3 (.str (SX.S (textL b n (keys ss)))) := ⟨⟨_, .str _⟩, fun t e => by cases e; omega⟩
  refine ⟨_, rfl, _, rfl, txT, .inr ⟨textL b n (keys ss), rfl, hgood, ?_, ?_⟩⟩
  · show (TL.spl [10] 0 [] (textL b n (keys ss)).dropLast).length ≤ 501
    rw [hrw]
    simp only [rowsL, List.length_cons, List.length_map]
    omega
  have erows : rowsOf (textL b n (keys ss)) = rowsL b n (keys ss) := hrw
  rw [erows, t1, t2, t3, load_laid ss [] L S1.nd fun s hs => ⟨(S1.rg s hs).1, (S1.rg s hs).2.1⟩, List.nil_append]
  intro p2 d2 H4 np2 nd2 s4 S4
  have S34 := S3.same s4
  have hkR : PySem.W.kitOne K (.ref (a.cls b)) (.ref a.c_Round) = some b := by
    have h := kk b true
    rw [show (b || !true) = b by cases b <;> rfl] at h
    exact h
  have hkQ : PySem.W.kitOne K (.ref (a.cls b)) (.ref a.c_Quay) = some true := by
    have h := kk b false
    rw [show (b || !false) = true by cases b <;> rfl] at h
    exact h
  refine ⟨_, rfl, _, _, _, _, b, rfl, .own _, tyq S4, hkR, _, rfl, _, _, _, _, b, rfl, .own _, tyq S34, hkR, (by show 2 ≤ sizeLine; decide), fun lk nlk => ?_⟩
  have s5 : Same H4 (upd H4 lk (.lst [.bl b, .bl b])) := same_new nlk
  have ek : (upd H4 lk (.lst [.bl b, .bl b])) lk = some (.lst [.bl b, .bl b]) := upd_same
  have S5 := S4.same s5
  have S35 := S34.same s5
  generalize upd H4 lk (.lst [.bl b, .bl b]) = H5 at s5 ek S5 S35 ⊢
  obtain ⟨dx5, hp5⟩ := S5.ob
  obtain ⟨dx35, hp35⟩ := S35.ob
  refine ⟨_, rfl, _, _, _, _, true, rfl, .own _, tyq S5, hkQ, true, rfl, iteF ⟨.ref lk, rfl, lk, _, 0, _, rfl, rfl, sqL_of ek, atI_nat (j := 0) rfl, .ref lk, rfl, lk, _, 1, _, rfl, rfl, sqL_of ek, atI_nat (j := 1) rfl, rfl, _, rfl, ?_⟩⟩
  show (if (!decide (V.bl b = V.bl b)) = true then _ else _)
  rw [dT]
  refine iteF ⟨_, rfl, b, p2, dx5, _, rfl, hp5, by rfl, p2, d2, n, ss, rfl, S5, fun la H6 rsa nla s6 ela tra => ?_⟩
  obtain ⟨dx6, hp6⟩ := (S35.same s6).ob
  refine ⟨_, rfl, b, p, dx6, _, rfl, hp6, by rfl, p, d, n, ss, rfl, S35.same s6, fun lb H7 rsb nlb s7 elb trb => ?_⟩
  refine neT_of (ho_tri (sqL_of (s7 _ _ ela)) (tra.same s7)) (ho_tri (sqL_of elb) trb) (by decide) ?_
  rw [decide_eq_false (fun z => z rfl)]
  refine ⟨false, rfl, iteF ?_⟩
  have s57 := s6.trans s7
  have S7 := S5.same s57
  have S37 := S35.same s57
  obtain ⟨dx7, hp7⟩ := S7.ob
  obtain ⟨dx37, hp37⟩ := S37.ob
  -- as many berths, the same free ones, the same text
  refine ⟨_, rfl, b, p2, dx7, _, rfl, hp7, by rfl, p2, d2, n, ss, rfl, S7, _, rfl, b, p, dx37, _, rfl, hp37, by rfl, p, d, n, ss, rfl, S37, rfl, _, rfl, ?_⟩
  show (if (!decide (V.int (n : Nat) = V.int (n : Nat))) = true then _ else _)
  rw [dT]
  refine iteF ⟨_, rfl, b, p2, dx7, _, rfl, hp7, by rfl, p2, d2, n, ss, rfl, S7, fun lf H8 nlf s8 elf => ?_⟩
  obtain ⟨dx8, hp8⟩ := (S37.same s8).ob
  refine ⟨_, rfl, b, p, dx8, _, rfl, hp8, by rfl, p, d, n, ss, rfl, S37.same s8, fun lg H9 nlg s9 elg => ?_⟩
  refine neT_of (ho_ints (sqL_of (s9 _ _ elf))) (ho_ints (sqL_of elg)) (by decide) ?_
  rw [decide_eq_false (fun z => z rfl)]
  refine ⟨false, rfl, iteF ⟨_, rfl, b, p2, d2, n, ss, rfl, (S7.same s8).same s9, ok, fun H10 s10 => ⟨_, rfl, rfl, _, rfl, ?_⟩⟩⟩
  show (if (!decide (V.str (SX.S (textL b n (keys ss))) = V.str (SX.S (textL b n (keys ss))))) = true then _ else _)
  rw [dT]
  refine iteF ?_
  have s710 := (s8.trans s9).trans s10
  have S10 := S37.same s710
  have hs10 : SqL K H10 sa (ns.map V.int) := ((((s1.trans (s2.trans s3)).trans s4).trans s5).trans (s57.trans s710)).seq hs
  clear S7 S37 hp7 hp37 S5 S35 hp5 hp35 S4 S34
  -- texts of another form
  refine ⟨(by show 1 ≤ sizeLine; decide), fun l7 nl7 => ⟨_, rfl, 20, rfl, sa, _, rfl, (same_new nl7).seq hs10, fun ls nls => ⟨l7, ls, _, _, rfl, rfl, same_new nls _ _ upd_same, upd_same, ?_, fun lc nlc => ⟨lc, rfl, ⟨_, sqL_of upd_same⟩, ?_⟩⟩⟩⟩
  · have : cutV (ns.map V.int) none (some 20) = (ns.map V.int).take 20 := cut_first _ 20
    rw [this, List.length_take]
    refine ml ?_
    simp only [List.length_cons, List.length_nil]
    omega
  have ecut : cutV (ns.map V.int) none (some 20) = (ns.map V.int).take 20 := cut_first _ 20
  rw [ecut]
  have s11 : Same H10 (upd (upd (upd H10 l7 (.lst [.int 7])) ls (.lst ((ns.map V.int).take 20))) lc (.lst ([.int 7] ++ (ns.map V.int).take 20))) := by
    rw [← ecut]
    exact ((same_new nl7).trans (same_new nls)).trans (by rw [ecut]; exact same_new (by rw [← ecut]; exact nlc))
  have elc : (upd (upd (upd H10 l7 (.lst [.int 7])) ls (.lst ((ns.map V.int).take 20))) lc (.lst ([.int 7] ++ (ns.map V.int).take 20))) lc = some (.lst ([.int 7] ++ (ns.map V.int).take 20)) := upd_same
  generalize (upd (upd (upd H10 l7 (.lst [.int 7])) ls (.lst ((ns.map V.int).take 20))) lc (.lst ([.int 7] ++ (ns.map V.int).take 20))) = H11 at s11 elc ⊢
  have S11 := S10.same s11
  refine for_list (K := K) (a := lc) (xs := [V.int 7] ++ (ns.map V.int).take 20) (fun i σ H' => Same H11 H' ∧ ∃ y5, σ = [some (.ref sa), some (.ref p), some (.str (SX.S (textL b n (keys ss)))), some (.ref p2), some (.ref lk), y5, none, none, none, none])
    ⟨Same.refl _, none, rfl⟩ (fun i σ H' _ h => sqL_of (h.1 _ _ elc)) ?_ ?_
  · rintro i v σ H12 hv ⟨s12, y5, rfl⟩
    obtain ⟨c, rfl⟩ : ∃ c, v = .int c := by
      rcases List.mem_append.mp (List.mem_of_getElem? hv) with m | m
      · exact ⟨7, List.mem_singleton.mp m⟩
      · obtain ⟨z, _, e⟩ := List.mem_map.mp (List.mem_of_mem_take m)
        exact ⟨z, e.symm⟩
    have c0 := Int.emod_nonneg c (show (1000000000 : Int) ≠ 0 by decide)
    have c9 := Int.emod_lt_of_pos c q109
    refine ⟨_, rfl, _, rfl, _, rfl, 10, 9, rfl, rfl, ⟨by decide, by decide, by decide⟩, c, 1000000000, rfl, rfl, q109, b, p, d, n, ss, c % 1000000000, rfl, S11.same s12, ok, c0, c9, fun t' H13 s13 hb ht => ?_⟩
    refine read_odd (E := E0) ⟨⟨_, .str _⟩, fun t e => by cases e; rw [SX.S_len]; exact ht⟩ hb fun H14 s14 => ⟨rfl, _, rfl, ?_⟩
    show (if (!decide (V.str (Str.ofString "text") = V.str (Str.ofString "text"))) = true then _ else _)
    rw [dT]
    exact iteF ⟨(s12.trans s13).trans s14, _, rfl⟩
  rintro σ H12 ⟨s12, y5, rfl⟩
  have S12 := S11.same s12
  -- other things
  generalize hrows : rowsL b n (keys ss) = rows at *
  have hr0 : rows ≠ [] := by rw [← hrows]; simp [rowsL]
  have eT : textL b n (keys ss) = lines rows := by rw [← hrows]; rfl
  rw [eT] at hS htl ⊢
  have hj := lines_join hr0
  have o1 : textV (.str (SX.S (lines rows ++ [10]))) = false := by
    show textOk (lines rows ++ [10]) = false
    obtain ⟨h0, rest, er⟩ : ∃ h0 rest, rows = h0 :: rest := ⟨_, _, hrows.symm⟩
    have e : lines rows ++ [10] = lines (h0 :: (rest ++ [[]])) := by
      rw [er, ← List.cons_append, lines_snoc]
      rfl
    rw [e]
    refine bad_ship (x := []) (by simp) (by decide +kernel) fun p hp => ?_
    rw [← List.cons_append, ← er] at hp
    rcases List.mem_append.mp hp with m | m
    · exact hno p m
    · rw [List.mem_singleton.mp m]
      simp
  have o2 : textV (.str (SX.S (10 :: lines rows))) = false := by
    show textOk (10 :: lines rows) = false
    have e : 10 :: lines rows = lines ([] :: rows) := by
      rw [lines_cons]
      rfl
    rw [e]
    exact bad_head (by decide +kernel) (by simp) hno
  have o3 : textV (.str (SX.S (lines rows).dropLast)) = false := by
    show textOk (lines rows).dropLast = false
    rw [hj, List.dropLast_concat]
    exact bad_end (joinL_last hr0 fun p hp => ⟨hno p hp, hne p hp⟩).2
  have e1 : SX.S (lines rows) ++ Str.ofString "\n" = SX.S (lines rows ++ [10]) := by rw [nl_S, SX.S_cat]
  have e2 : Str.ofString "\n" ++ SX.S (lines rows) = SX.S (10 :: lines rows) := by rw [nl_S, SX.S_cat]; rfl
  have e3 := cut_last (lines rows)
  have hz : ∀ k : Nat, k ≤ 7000 → k ≤ sizeLine := fun k h => ml (by omega)
  have hz1 : (SX.S (lines rows)).length + (Str.ofString "\n").length ≤ sizeLine := ml (by rw [show (Str.ofString "\n").length = 1 from rfl]; omega)
  have hz2 : (Str.ofString "\n").length + (SX.S (lines rows)).length ≤ sizeLine := ml (by rw [show (Str.ofString "\n").length = 1 from rfl]; omega)
  refine ⟨_, rfl, (by show 1 ≤ sizeLine; decide), fun li nli => ⟨_, rfl, _, _, rfl, rfl, hz1, _, rfl, _, _, rfl, rfl, hz2, _, rfl, 1, rfl, -1, rfl, _, rfl, hz _ hS, (by show 9 ≤ sizeLine; decide), fun lt nlt => ⟨lt, rfl, ⟨_, sqL_of upd_same⟩, ?_⟩⟩⟩
  have s13 : Same H12 (upd H12 li (.lst [.str (SX.S (lines rows))])) := same_new nli
  have eli : (upd H12 li (.lst [.str (SX.S (lines rows))])) li = some (.lst [.str (SX.S (lines rows))]) := upd_same
  generalize (upd H12 li (.lst [.str (SX.S (lines rows))])) = H13 at s13 eli nlt ⊢
  rw [e1, e2, e3]
  generalize hL9 : ([V.non, .int 5, .str (Str.ofString ""), .str (Str.ofString "quay 5"), .ref li, .str (Str.ofString "\n"), .str (SX.S (lines rows ++ [10])), .str (SX.S (10 :: lines rows)), .str (SX.S (lines rows).dropLast)] : List V) = L9
  have s14 : Same H13 (upd H13 lt (.lst L9)) := same_new nlt
  have elt : (upd H13 lt (.lst L9)) lt = some (.lst L9) := upd_same
  have eli4 := s14 _ _ eli
  generalize upd H13 lt (.lst L9) = H14 at s14 elt eli4 ⊢
  have all9 : ∀ v ∈ L9, ∀ H', Same H14 H' → TxIn K H' v ∧ textV v = false := by
    rw [← hL9]
    intro v hv H' s'
    simp only [List.mem_cons, List.not_mem_nil, or_false] at hv
    have str : ∀ t : List Nat, t.length ≤ 10000 → TxIn K H' (.str (SX.S t)) := fun t ht => ⟨⟨_, .str _⟩, fun z e => by cases e; rw [SX.S_len]; exact ht⟩
    have lit : ∀ z : Str, z.length ≤ 10000 → TxIn K H' (.str z) := fun z ht => ⟨⟨_, .str _⟩, fun z' e => by cases e; exact ht⟩
    rcases hv with rfl | rfl | rfl | rfl | rfl | rfl | rfl | rfl | rfl
    · exact ⟨⟨⟨_, .non⟩, fun z e => by cases e⟩, rfl⟩
    · exact ⟨⟨⟨_, .int 5⟩, fun z e => by cases e⟩, rfl⟩
    · exact ⟨lit _ (by decide +kernel), by decide +kernel⟩
    · exact ⟨lit _ (by decide +kernel), by decide +kernel⟩
    · exact ⟨⟨⟨_, .lst (sqL_of (s' _ _ eli4))⟩, fun z e => by cases e⟩, rfl⟩
    · exact ⟨lit _ (by decide +kernel), by decide +kernel⟩
    · exact ⟨str _ (by simp; omega), o1⟩
    · exact ⟨str _ (by simp; omega), o2⟩
    · exact ⟨str _ (by rw [List.length_dropLast]; omega), o3⟩
  refine for_list (K := K) (a := lt) (xs := L9) (fun i σ H' => Same H14 H' ∧ ∃ y5 y6, σ = [some (.ref sa), some (.ref p), some (.str (SX.S (lines rows))), some (.ref p2), some (.ref lk), y5, y6, none, none, none])
    ⟨Same.refl _, y5, none, rfl⟩ (fun i σ H' _ h => sqL_of (h.1 _ _ elt)) ?_ ?_
  · rintro i v σ H15 hv ⟨s15, y5, y6, rfl⟩
    obtain ⟨tx, ht⟩ := all9 v (List.mem_of_getElem? hv) H15 s15
    refine ⟨_, rfl, read_odd (E := E0) tx ht fun H16 s16 => ⟨rfl, _, rfl, ?_⟩⟩
    show (if (!decide (V.str (Str.ofString "text") = V.str (Str.ofString "text"))) = true then _ else _)
    rw [dT]
    exact iteF ⟨s15.trans s16, _, _, rfl⟩
  rintro σ H15 ⟨s15, y5, y6, rfl⟩
  -- what refuses a ship
  refine ⟨(by show 5 ≤ sizeLine; decide), fun ld nld => ⟨ld, rfl, ⟨_, sqL_of upd_same⟩, ?_⟩⟩
  rw [due_V]
  rw [line_S]
  have s16 : Same H15 (upd H15 ld (.lst (dueL.map fun q => V.str (SX.S q.1)))) := same_new nld
  have eld : (upd H15 ld (.lst (dueL.map fun q => V.str (SX.S q.1)))) ld = some (.lst (dueL.map fun q => V.str (SX.S q.1))) := upd_same
  generalize upd H15 ld (.lst (dueL.map fun q => V.str (SX.S q.1))) = H16 at s16 eld ⊢
  refine lc_pure (walk_list (K := K) (a := ld) (xs := dueL.map fun q => V.str (SX.S q.1))) (by decide) dueL (by rw [List.length_map]) (fun _ => true) (fun q => .str (wordK q.2)) (fun H' s' => s'.seq (sqL_of eld)) ?_ ?_
  · intro i x v H17 H18 R hx s17 hy k
    obtain ⟨rfl, hv⟩ := hy
    rw [List.getElem?_map, hx] at hv
    cases hv
    have dq := due_all x (List.mem_of_getElem? hx)
    unfold dueOk at dq
    simp only [Bool.and_eq_true, Bool.or_eq_true, decide_eq_true_eq, Bool.not_eq_true'] at dq
    obtain ⟨dl, dq⟩ := dq
    have hll : (lineL ++ x.1).length ≤ 10000 := by
      rw [List.length_append]
      have : lineL.length = 11 := rfl
      omega
    have k1 := fun H'' (s : Same H18 H'') => k (V.str (wordK x.2)) H'' s fun _ => rfl
    refine ⟨rfl, ?_⟩
    dsimp only [tYes]
    rw [if_pos rfl]
    refine ⟨.str (SX.S lineL), rfl, .str (SX.S x.1), rfl, SX.S lineL, SX.S x.1, rfl, rfl, ml (by rw [SX.S_len, SX.S_len]; have : lineL.length = 11 := rfl; omega), ?_⟩
    rw [SX.S_cat]
    have tx : TxIn K H18 (.str (SX.S (lineL ++ x.1))) := ⟨⟨_, .str _⟩, fun t e => by cases e; rw [SX.S_len]; exact hll⟩
    rcases dq with ⟨d1, d2⟩ | ⟨d1, d2, d3⟩
    · refine read_odd (E := E0) tx d2 fun H' s' => ?_
      have := k1 H' s'
      rw [d1] at this
      exact this
    · refine ⟨_, rfl, tx, .inr ⟨_, rfl, d1, d2, ?_⟩⟩
      rw [isErr_eq d3]
      exact fun H' s' => ⟨rfl, x.2, rfl, fun H'' s'' => k1 H'' (s'.trans s'')⟩
  intro lw H17 nlw s17 elw
  rw [List.filter_eq_self.mpr fun _ _ => rfl] at elw
  have elw2 : H17 lw = some (.lst ((dueL.map fun q => wordK q.2).map V.str)) := by rw [elw, List.map_map]; rfl
  refine ⟨_, rfl, (by show 5 ≤ sizeLine; decide), fun lx nlx => ?_⟩
  refine neT_of (a := dueL.map fun q => wordK q.2) (b := dueL.map fun q => wordK q.2) (ho_strs (sqL_of (same_new nlx _ _ elw2))) (ho_strs (sqL_of (by rw [upd_same, due_W]))) (by decide) ?_
  rw [decide_eq_false (fun z => z rfl)]
  refine ⟨false, rfl, iteF ?_⟩
  generalize upd H17 lx _ = H18
  -- the last text
  obtain ⟨r1, r2, r3, r4, r5⟩ := last_ok
  refine ⟨_, rfl, ⟨⟨_, .str _⟩, fun t e => by cases e; decide +kernel⟩, .inr ⟨lastL, congrArg V.str last_S, r1, r2, ?_⟩⟩
  rw [r3, r4, isOkL_eq r5]
  intro p3 d3 H19 np3 nd3 s19 S19
  obtain ⟨dx19, hp19⟩ := S19.ob
  refine ⟨true, p3, dx19, _, rfl, hp19, by rfl, p3, d3, 2, lastS, rfl, S19, fun la H20 rs nla s20 ela tra => ?_⟩
  refine ⟨(by show 3 ≤ sizeLine; decide), fun ta nta => ⟨(by show 3 ≤ sizeLine; decide), fun tb ntb => ⟨(by show 2 ≤ sizeLine; decide), fun lz nlz => ?_⟩⟩⟩
  have ea : (Str.ofString "a") = SX.S [97] := by decide +kernel
  have eb : (Str.ofString "b") = SX.S [98] := by decide +kernel
  have z1 : Same H20 (upd H20 ta (.tup [.str (Str.ofString "a"), .int 2, .int 2])) := same_new nta
  have z2 : Same (upd H20 ta (.tup [.str (Str.ofString "a"), .int 2, .int 2])) (upd (upd H20 ta (.tup [.str (Str.ofString "a"), .int 2, .int 2])) tb (.tup [.str (Str.ofString "b"), .int 2, .int 1])) := same_new ntb
  have z3 : Same (upd (upd H20 ta (.tup [.str (Str.ofString "a"), .int 2, .int 2])) tb (.tup [.str (Str.ofString "b"), .int 2, .int 1])) (upd (upd (upd H20 ta (.tup [.str (Str.ofString "a"), .int 2, .int 2])) tb (.tup [.str (Str.ofString "b"), .int 2, .int 1])) lz (.lst [.ref ta, .ref tb])) := same_new nlz
  have za : SqT K (upd (upd (upd H20 ta (.tup [.str (Str.ofString "a"), .int 2, .int 2])) tb (.tup [.str (Str.ofString "b"), .int 2, .int 1])) lz (.lst [.ref ta, .ref tb])) ta [.str (SX.S [97]), .int 2, .int 2] := by
    rw [← ea]
    exact sqT_of (z3 _ _ (z2 _ _ upd_same))
  have zb : SqT K (upd (upd (upd H20 ta (.tup [.str (Str.ofString "a"), .int 2, .int 2])) tb (.tup [.str (Str.ofString "b"), .int 2, .int 1])) lz (.lst [.ref ta, .ref tb])) tb [.str (SX.S [98]), .int 2, .int 1] := by
    rw [← eb]
    exact sqT_of (z3 _ _ upd_same)
  have trz : TrAt K (upd (upd (upd H20 ta (.tup [.str (Str.ofString "a"), .int 2, .int 2])) tb (.tup [.str (Str.ofString "b"), .int 2, .int 1])) lz (.lst [.ref ta, .ref tb])) [.ref ta, .ref tb] lastS :=
    .cons ⟨ta, rfl, za⟩ (.cons ⟨tb, rfl, zb⟩ .nil)
  have z123 := (z1.trans z2).trans z3
  refine eqT_of (ho_tri (sqL_of (z123 _ _ ela)) (tra.same z123)) (ho_tri (sqL_of upd_same) trz) (by decide) ?_
  rw [decide_eq_true rfl]
  exact q _

section
variable {P : Program} {w : World} {K : PySem.W.Frag} {mg : Str → Option Value} {base : Heap} {a : Ad}
def topS (i : Nat) : Stmt := PySem.Challenge.pw_berthrow_k13_books.main.body.getD i (.Pass ⟨0, 0, 0, 0⟩)
structure Txt (K : PySem.W.Frag) (mg : Str → Option Value) (a : Ad) : Prop where
  t_0 : True
  b_int : mg "int" = none
  b_isinstance : mg "isinstance" = none
  b_len : mg "len" = none
  b_range : mg "range" = none
  b_str : mg "str" = none
  b_type : mg "type" = none
  c_MOST : ∃ u, mg "MOST" = some u ∧ RelV (.int 400) u
  c_LONGEST : ∃ u, mg "LONGEST" = some u ∧ RelV (.int 8) u
  e_BerthError : ExF K mg "BerthError" a.e_BerthError
  e_NoCount : ExF K mg "NoCount" a.e_NoCount
  e_NoName : ExF K mg "NoName" a.e_NoName
  e_NoOrder : ExF K mg "NoOrder" a.e_NoOrder
  e_NoQuay : ExF K mg "NoQuay" a.e_NoQuay
  e_NoRoom : ExF K mg "NoRoom" a.e_NoRoom
  e_NoShip : ExF K mg "NoShip" a.e_NoShip
  e_NoText : ExF K mg "NoText" a.e_NoText
  e_NoTree : ExF K mg "NoTree" a.e_NoTree
  e_NoWish : ExF K mg "NoWish" a.e_NoWish
  e_NoWishes : ExF K mg "NoWishes" a.e_NoWishes
  e_Taken : ExF K mg "Taken" a.e_Taken
  e_TooMany : ExF K mg "TooMany" a.e_TooMany
  g_BerthError : ExG K a.e_BerthError
  g_NoCount : ExG K a.e_NoCount
  g_NoOrder : ExG K a.e_NoOrder
  g_NoQuay : ExG K a.e_NoQuay
  g_NoName : ExG K a.e_NoName
  g_NoTree : ExG K a.e_NoTree
  g_NoWishes : ExG K a.e_NoWishes
  g_TooMany : ExG K a.e_TooMany
  g_NoShip : ExG K a.e_NoShip
  g_NoText : ExG K a.e_NoText
  g_Taken : ExG K a.e_Taken
  g_NoWish : ExG K a.e_NoWish
  g_NoRoom : ExG K a.e_NoRoom
  s_NoText_BerthError : PySem.W.subIn K (.ref a.e_NoText) (.ref a.e_BerthError) = some true
  s_NoText_NoCount : PySem.W.subIn K (.ref a.e_NoText) (.ref a.e_NoCount) = some false
  s_NoText_NoOrder : PySem.W.subIn K (.ref a.e_NoText) (.ref a.e_NoOrder) = some false
  s_NoText_NoQuay : PySem.W.subIn K (.ref a.e_NoText) (.ref a.e_NoQuay) = some false
  s_NoText_NoName : PySem.W.subIn K (.ref a.e_NoText) (.ref a.e_NoName) = some false
  s_NoText_NoTree : PySem.W.subIn K (.ref a.e_NoText) (.ref a.e_NoTree) = some false
  s_NoText_NoWishes : PySem.W.subIn K (.ref a.e_NoText) (.ref a.e_NoWishes) = some false
  s_NoText_TooMany : PySem.W.subIn K (.ref a.e_NoText) (.ref a.e_TooMany) = some false
  s_NoText_NoShip : PySem.W.subIn K (.ref a.e_NoText) (.ref a.e_NoShip) = some false
  s_NoText_NoText : PySem.W.subIn K (.ref a.e_NoText) (.ref a.e_NoText) = some true
  s_NoText_Taken : PySem.W.subIn K (.ref a.e_NoText) (.ref a.e_Taken) = some false
  s_NoText_NoWish : PySem.W.subIn K (.ref a.e_NoText) (.ref a.e_NoWish) = some false
  s_NoText_NoRoom : PySem.W.subIn K (.ref a.e_NoText) (.ref a.e_NoRoom) = some false
  s_Taken_BerthError : PySem.W.subIn K (.ref a.e_Taken) (.ref a.e_BerthError) = some true
  s_Taken_NoCount : PySem.W.subIn K (.ref a.e_Taken) (.ref a.e_NoCount) = some false
  s_Taken_NoOrder : PySem.W.subIn K (.ref a.e_Taken) (.ref a.e_NoOrder) = some false
  s_Taken_NoQuay : PySem.W.subIn K (.ref a.e_Taken) (.ref a.e_NoQuay) = some false
  s_Taken_NoName : PySem.W.subIn K (.ref a.e_Taken) (.ref a.e_NoName) = some false
  s_Taken_NoTree : PySem.W.subIn K (.ref a.e_Taken) (.ref a.e_NoTree) = some false
  s_Taken_NoWishes : PySem.W.subIn K (.ref a.e_Taken) (.ref a.e_NoWishes) = some false
  s_Taken_TooMany : PySem.W.subIn K (.ref a.e_Taken) (.ref a.e_TooMany) = some false
  s_Taken_NoShip : PySem.W.subIn K (.ref a.e_Taken) (.ref a.e_NoShip) = some false
  s_Taken_NoText : PySem.W.subIn K (.ref a.e_Taken) (.ref a.e_NoText) = some false
  s_Taken_Taken : PySem.W.subIn K (.ref a.e_Taken) (.ref a.e_Taken) = some true
  s_Taken_NoWish : PySem.W.subIn K (.ref a.e_Taken) (.ref a.e_NoWish) = some false
  s_Taken_NoRoom : PySem.W.subIn K (.ref a.e_Taken) (.ref a.e_NoRoom) = some false
  s_NoWish_BerthError : PySem.W.subIn K (.ref a.e_NoWish) (.ref a.e_BerthError) = some true
  s_NoWish_NoCount : PySem.W.subIn K (.ref a.e_NoWish) (.ref a.e_NoCount) = some false
  s_NoWish_NoOrder : PySem.W.subIn K (.ref a.e_NoWish) (.ref a.e_NoOrder) = some false
  s_NoWish_NoQuay : PySem.W.subIn K (.ref a.e_NoWish) (.ref a.e_NoQuay) = some false
  s_NoWish_NoName : PySem.W.subIn K (.ref a.e_NoWish) (.ref a.e_NoName) = some false
  s_NoWish_NoTree : PySem.W.subIn K (.ref a.e_NoWish) (.ref a.e_NoTree) = some false
  s_NoWish_NoWishes : PySem.W.subIn K (.ref a.e_NoWish) (.ref a.e_NoWishes) = some false
  s_NoWish_TooMany : PySem.W.subIn K (.ref a.e_NoWish) (.ref a.e_TooMany) = some false
  s_NoWish_NoShip : PySem.W.subIn K (.ref a.e_NoWish) (.ref a.e_NoShip) = some false
  s_NoWish_NoText : PySem.W.subIn K (.ref a.e_NoWish) (.ref a.e_NoText) = some false
  s_NoWish_Taken : PySem.W.subIn K (.ref a.e_NoWish) (.ref a.e_Taken) = some false
  s_NoWish_NoWish : PySem.W.subIn K (.ref a.e_NoWish) (.ref a.e_NoWish) = some true
  s_NoWish_NoRoom : PySem.W.subIn K (.ref a.e_NoWish) (.ref a.e_NoRoom) = some false
  s_NoRoom_BerthError : PySem.W.subIn K (.ref a.e_NoRoom) (.ref a.e_BerthError) = some true
  s_NoRoom_NoCount : PySem.W.subIn K (.ref a.e_NoRoom) (.ref a.e_NoCount) = some false
  s_NoRoom_NoOrder : PySem.W.subIn K (.ref a.e_NoRoom) (.ref a.e_NoOrder) = some false
  s_NoRoom_NoQuay : PySem.W.subIn K (.ref a.e_NoRoom) (.ref a.e_NoQuay) = some false
  s_NoRoom_NoName : PySem.W.subIn K (.ref a.e_NoRoom) (.ref a.e_NoName) = some false
  s_NoRoom_NoTree : PySem.W.subIn K (.ref a.e_NoRoom) (.ref a.e_NoTree) = some false
  s_NoRoom_NoWishes : PySem.W.subIn K (.ref a.e_NoRoom) (.ref a.e_NoWishes) = some false
  s_NoRoom_TooMany : PySem.W.subIn K (.ref a.e_NoRoom) (.ref a.e_TooMany) = some false
  s_NoRoom_NoShip : PySem.W.subIn K (.ref a.e_NoRoom) (.ref a.e_NoShip) = some false
  s_NoRoom_NoText : PySem.W.subIn K (.ref a.e_NoRoom) (.ref a.e_NoText) = some false
  s_NoRoom_Taken : PySem.W.subIn K (.ref a.e_NoRoom) (.ref a.e_Taken) = some false
  s_NoRoom_NoWish : PySem.W.subIn K (.ref a.e_NoRoom) (.ref a.e_NoWish) = some false
  s_NoRoom_NoRoom : PySem.W.subIn K (.ref a.e_NoRoom) (.ref a.e_NoRoom) = some true
  cl : ∀ b, ClsT K a b
  mk_Quay : Mk K a.c_Quay a.f_Q_init
  m_Quay : mg "Quay" = some (.ref a.c_Quay)
  mk_Round : Mk K a.c_Round a.f_R_init
  m_Round : mg "Round" = some (.ref a.c_Round)
  cf_Quay : ClsF K a.c_Quay "__init__" a.f_Q_init
  kd : ∀ b, C8.InsC K (a.cls b)
  kk : ∀ b b2, PySem.W.kitOne K (.ref (a.cls b)) (.ref (a.cls b2)) = some (b || !b2)
abbrev s_is_number : Stmt := topS 17
theorem sc_is_number : FnScope N_is_number ["thing"] (defScope s_is_number) := ⟨rfl, rfl, rfl, by decide +kernel, rfl, by decide +kernel, by decide +kernel⟩
theorem ok_is_number (D : DF K mg "is_number" s_is_number ["thing"] a.f_is_number) (T : Txt K mg a) : Cb P w K mg base CX0 1 "is_number" a.f_is_number ["thing"] (sp_is_number K a) := by
  obtain ⟨⟨fd, F, bb⟩, gg⟩ := D
  refine ⟨⟨fd, F.ok sc_is_number (fun vs H Q E h => len_is_number h) (fun cdv A outer s H vs Q E hr h => ⟨t_is_number K a, ?_, pu_is_number h⟩), bb⟩, gg, F.kp⟩
  exact (pss_one (ps_ret (pe_cmpR op_isTyB (pe_callTy call_type1 (by rfl) T.b_type (by decide +kernel) (pa_cons (pv 0) pa_nil)) (pe_bltn (by rfl) T.b_int (by decide +kernel) rfl) (nomark _))))

abbrev s_is_from_to : Stmt := topS 18
theorem sc_is_from_to : FnScope N_is_from_to ["low", "high", "thing"] (defScope s_is_from_to) := ⟨rfl, rfl, rfl, by decide +kernel, rfl, by decide +kernel, by decide +kernel⟩
theorem ok_is_from_to (D : DF K mg "is_from_to" s_is_from_to ["low", "high", "thing"] a.f_is_from_to) (T : Txt K mg a) (g_is_number : Cb P w K mg base CX0 1 "is_number" a.f_is_number ["thing"] (sp_is_number K a)) : Cb P w K mg base CX0 2 "is_from_to" a.f_is_from_to ["low", "high", "thing"] (sp_is_from_to K a) := by
  obtain ⟨⟨fd, F, bb⟩, gg⟩ := D
  refine ⟨⟨fd, F.ok sc_is_from_to (fun vs H Q E h => len_is_from_to h) (fun cdv A outer s H vs Q E hr h => ⟨t_is_from_to K a, ?_, pu_is_from_to h⟩), bb⟩, gg, F.kp⟩
  exact (pss_one (ps_ret (pe_and (pe_cb g_is_number (hr.mono (by decide)) (by rfl) pass0 (pa_cons (pv 2) pa_nil)) (pe_one (pe_chain op_le op_le (pv 0) (pv 2) (pv 1))))))

abbrev s_is_name : Stmt := topS 19
theorem sc_is_name : FnScope N_is_name ["thing"] (defScope s_is_name) := ⟨rfl, rfl, rfl, by decide +kernel, rfl, by decide +kernel, by decide +kernel⟩
theorem ok_is_name (D : DF K mg "is_name" s_is_name ["thing"] a.f_is_name) (T : Txt K mg a) : Cb P w K mg base CX0 1 "is_name" a.f_is_name ["thing"] (sp_is_name K a) := by
  obtain ⟨⟨fd, F, bb⟩, gg⟩ := D
  refine ⟨⟨fd, F.ok sc_is_name (fun vs H Q E h => len_is_name h) (fun cdv A outer s H vs Q E hr h => ⟨t_is_name K a, ?_, pu_is_name h⟩), bb⟩, gg, F.kp⟩
  exact (pss_cons (ps_if (PW.pt (pw_or (pt_cmpR op_notTyB (pe_callTy call_type1 (by rfl) T.b_type (by decide +kernel) (pa_cons (pv 0) pa_nil)) (pe_bltn (by rfl) T.b_str (by decide +kernel) rfl) (nomark _)) (pw_or1 (pt_not (pt_chain op_le op_le pe_int (pe_callB call_len_str (by rfl) T.b_len (by decide +kernel) (pa_cons (pv 0) pa_nil)) (pe_gl (by rfl) T.c_LONGEST)))))) (pss_one (ps_ret pe_bl)) pss_nil)
    (pss_cons (ps_for PassesOwn.never rfl (pi_str (pv 0)) (pg_name (i := 1) sc_is_name.nd rfl (by first | exact Or.inl rfl | exact Or.inr rfl))
    (pss_one (ps_if (pt_not (pt_chain op_le_str op_le_str pe_str (pv 1) pe_str)) (pss_one (ps_ret pe_bl)) pss_nil)))
    (pss_one (ps_ret pe_bl))))

abbrev s_check_quay : Stmt := topS 20
theorem sc_check_quay : FnScope N_check_quay ["berths"] (defScope s_check_quay) := ⟨rfl, rfl, rfl, by decide +kernel, rfl, by decide +kernel, by decide +kernel⟩
theorem ok_check_quay (D : DF K mg "check_quay" s_check_quay ["berths"] a.f_check_quay) (T : Txt K mg a) (g_is_from_to : Cb P w K mg base CX0 2 "is_from_to" a.f_is_from_to ["low", "high", "thing"] (sp_is_from_to K a)) : Cb P w K mg base (L2.CX P w) 3 "check_quay" a.f_check_quay ["berths"] (sp_check_quay K a) := by
  obtain ⟨⟨fd, F, bb⟩, gg⟩ := D
  refine ⟨⟨fd, F.okX sc_check_quay (fun vs H Q E h => len_check_quay h) (fun cdv A outer s H vs Q E hr h => ⟨t_check_quay K a E, ?_, pu_check_quay h⟩), bb⟩, gg, F.kp⟩
  exact (pss_one (ps_if (pt_not (pt_val (pe_cb g_is_from_to (hr.mono (by decide)) (by rfl) pass0 (pa_cons pe_int (pa_cons (pe_gl (by rfl) T.c_MOST) (pa_cons (pv 0) pa_nil)))))) (pss_one (ps_raise rfl (takes_of rfl rfl rfl rfl) (pmk_own PySem.F.excBase_ValueError T.e_NoQuay.x T.e_NoQuay.g T.e_NoQuay.k (raises_own T.e_NoQuay.b T.e_NoQuay.t) (by exact rfl)))) pss_nil))

abbrev s_first_free : Stmt := topS 22
theorem sc_first_free : FnScope N_first_free ["held", "wish"] (defScope s_first_free) := ⟨rfl, rfl, rfl, by decide +kernel, rfl, by decide +kernel, by decide +kernel⟩
theorem ok_first_free (D : DF K mg "first_free" s_first_free ["held", "wish"] a.f_first_free) (T : Txt K mg a) : Cb P w K mg base CX0 1 "first_free" a.f_first_free ["held", "wish"] (sp_first_free K a) := by
  obtain ⟨⟨fd, F, bb⟩, gg⟩ := D
  refine ⟨⟨fd, F.ok sc_first_free (fun vs H Q E h => len_first_free h) (fun cdv A outer s H vs Q E hr h => ⟨t_first_free K a, ?_, pu_first_free h⟩), bb⟩, gg, F.kp⟩
  exact (pss_cons (ps_for PassesOwn.never rfl (pi_range2 (by rfl) T.b_range (pa_cons (pv 1) (pa_cons (pe_callB call_len_seq (by rfl) T.b_len (by decide +kernel) (pa_cons (pv 0) pa_nil)) pa_nil))) (pg_name (i := 2) sc_first_free.nd rfl (by first | exact Or.inl rfl | exact Or.inr rfl))
    (pss_one (ps_if (pt_not (pt_val (pe_ix ix_list (pv 0) (pv 2) (fun _ _ => rfl)))) (pss_one (ps_ret (pv 2))) pss_nil)))
    (pss_one (ps_ret pe_non)))

abbrev s_first_free_round : Stmt := topS 24
theorem sc_first_free_round : FnScope N_first_free_round ["held", "wish"] (defScope s_first_free_round) := ⟨rfl, rfl, rfl, by decide +kernel, rfl, by decide +kernel, by decide +kernel⟩
theorem ok_first_free_round (D : DF K mg "first_free_round" s_first_free_round ["held", "wish"] a.f_first_free_round) (T : Txt K mg a) (g_first_free : Cb P w K mg base CX0 1 "first_free" a.f_first_free ["held", "wish"] (sp_first_free K a)) : Cb P w K mg base CX0 2 "first_free_round" a.f_first_free_round ["held", "wish"] (sp_first_free_round K a) := by
  obtain ⟨⟨fd, F, bb⟩, gg⟩ := D
  refine ⟨⟨fd, F.ok sc_first_free_round (fun vs H Q E h => len_first_free_round h) (fun cdv A outer s H vs Q E hr h => ⟨t_first_free_round K a, ?_, pu_first_free_round h⟩), bb⟩, gg, F.kp⟩
  exact (pss_cons (ps_set (i := 2) sc_first_free_round.nd rfl (by first | exact Or.inl rfl | exact Or.inr rfl) (pe_cb g_first_free (hr.mono (by decide)) (by rfl) pass0 (pa_cons (pv 0) (pa_cons (pv 1) pa_nil))))
    (pss_cons (ps_if (pt_cmp (pc_isN (pv 2)) rfl) (pss_one (ps_ret (pe_cb g_first_free (hr.mono (by decide)) (by rfl) pass0 (pa_cons (pv 0) (pa_cons pe_int pa_nil))))) pss_nil)
    (pss_one (ps_ret (pv 2)))))

abbrev s_Q_init : Stmt := inClass (topS 26) 0
theorem sc_Q_init : FnScope N_Q_init ["self", "berths"] (defScope s_Q_init) := ⟨rfl, rfl, rfl, by decide +kernel, rfl, by decide +kernel, by decide +kernel⟩
theorem ok_Q_init (b : Bool) (D : ∃ fd, Fun K "__init__" "Quay.__init__" s_Q_init a.f_Q_init fd ∧ Binds K fd ["self", "berths"] []) (T : Txt K mg a) (g_check_quay : Cb P w K mg base (L2.CX P w) 3 "check_quay" a.f_check_quay ["berths"] (sp_check_quay K a)) : ∃ fd, FnOk P w K mg base (L2.CX P w) 4 a.f_Q_init fd ["self", "berths"] (sp_M_init K a b) ∧ Binds K fd ["self", "berths"] [] := by
  obtain ⟨fd, F, hbb⟩ := D
  refine ⟨fd, F.okX sc_Q_init (fun vs H Q E h => len_M_init h) (fun cdv A outer s H vs Q E hr h => ⟨t_Q_init K a E, ?_, pu_Q_init (T.cl b) h⟩), hbb⟩
  exact (pss_cons (ps_expr (pe_cb g_check_quay (hr.mono (by decide)) (by rfl) (passes_call (takes_of rfl rfl rfl rfl) (fun _ _ _ _ h => h)) (pa_cons (pv 1) pa_nil)))
    (pss_cons (ps_fld (pv 0) (pv 1) rfl)
    (pss_one (ps_fld (pv 0) pe_dnewK rfl))))

abbrev s_p_check_name : Stmt := topS 28
theorem sc_p_check_name : FnScope N_p_check_name ["name"] (defScope s_p_check_name) := ⟨rfl, rfl, rfl, by decide +kernel, rfl, by decide +kernel, by decide +kernel⟩
theorem ok_p_check_name (D : DF K mg "_check_name" s_p_check_name ["name"] a.f_p_check_name) (T : Txt K mg a) (g_is_name : Cb P w K mg base CX0 1 "is_name" a.f_is_name ["thing"] (sp_is_name K a)) : Cb P w K mg base (L2.CX P w) 2 "_check_name" a.f_p_check_name ["name"] (sp_p_check_name K a) := by
  obtain ⟨⟨fd, F, bb⟩, gg⟩ := D
  refine ⟨⟨fd, F.okX sc_p_check_name (fun vs H Q E h => len_p_check_name h) (fun cdv A outer s H vs Q E hr h => ⟨t_p_check_name K a E, ?_, pu_p_check_name h⟩), bb⟩, gg, F.kp⟩
  exact (pss_one (ps_if (pt_not (pt_val (pe_cb g_is_name (hr.mono (by decide)) (by rfl) pass0 (pa_cons (pv 0) pa_nil)))) (pss_one (ps_raise rfl (takes_of rfl rfl rfl rfl) (pmk_own PySem.F.excBase_ValueError T.e_NoName.x T.e_NoName.g T.e_NoName.k (raises_own T.e_NoName.b T.e_NoName.t) (by exact rfl)))) pss_nil))

abbrev s_Q_first_free : Stmt := inClass (topS 26) 8
theorem sc_Q_first_free : FnScope N_Q_first_free ["self", "held", "wish"] (defScope s_Q_first_free) := ⟨rfl, rfl, rfl, by decide +kernel, rfl, by decide +kernel, by decide +kernel⟩
theorem ok_Q_first_free (D : ∃ fd, Fun K "_first_free" "Quay._first_free" s_Q_first_free a.f_Q_first_free fd ∧ Binds K fd ["self", "held", "wish"] []) (T : Txt K mg a) (g_first_free : Cb P w K mg base CX0 1 "first_free" a.f_first_free ["held", "wish"] (sp_first_free K a)) : ∃ fd, FnOk P w K mg base CX0 2 a.f_Q_first_free fd ["self", "held", "wish"] (sp_M_first_free K a false) ∧ Binds K fd ["self", "held", "wish"] [] := by
  obtain ⟨fd, F, hbb⟩ := D
  refine ⟨fd, F.ok sc_Q_first_free (fun vs H Q E h => len_M_first_free h) (fun cdv A outer s H vs Q E hr h => ⟨t_Q_first_free K a, ?_, pu_Q_first_free h⟩), hbb⟩
  exact (pss_one (ps_ret (pe_cb g_first_free (hr.mono (by decide)) (by rfl) pass0 (pa_cons (pv 1) (pa_cons (pv 2) pa_nil)))))

abbrev s_R_first_free : Stmt := inClass (topS 27) 8
theorem sc_R_first_free : FnScope N_R_first_free ["self", "held", "wish"] (defScope s_R_first_free) := ⟨rfl, rfl, rfl, by decide +kernel, rfl, by decide +kernel, by decide +kernel⟩
theorem ok_R_first_free (D : ∃ fd, Fun K "_first_free" "Round._first_free" s_R_first_free a.f_R_first_free fd ∧ Binds K fd ["self", "held", "wish"] []) (T : Txt K mg a) (g_first_free_round : Cb P w K mg base CX0 2 "first_free_round" a.f_first_free_round ["held", "wish"] (sp_first_free_round K a)) : ∃ fd, FnOk P w K mg base CX0 3 a.f_R_first_free fd ["self", "held", "wish"] (sp_M_first_free K a true) ∧ Binds K fd ["self", "held", "wish"] [] := by
  obtain ⟨fd, F, hbb⟩ := D
  refine ⟨fd, F.ok sc_R_first_free (fun vs H Q E h => len_M_first_free h) (fun cdv A outer s H vs Q E hr h => ⟨t_R_first_free K a, ?_, pu_R_first_free h⟩), hbb⟩
  exact (pss_one (ps_ret (pe_cb g_first_free_round (hr.mono (by decide)) (by rfl) pass0 (pa_cons (pv 1) (pa_cons (pv 2) pa_nil)))))

abbrev s_Q_held : Stmt := inClass (topS 26) 9
theorem sc_Q_held : FnScope N_Q_held ["self"] (defScope s_Q_held) := ⟨rfl, rfl, rfl, by decide +kernel, rfl, by decide +kernel, by decide +kernel⟩
theorem ok_Q_held (b : Bool) (D : ∃ fd, Fun K "_held" "Quay._held" s_Q_held a.f_Q_held fd ∧ Binds K fd ["self"] []) (T : Txt K mg a) : ∃ fd, FnOk P w K mg base CX0 1 a.f_Q_held fd ["self"] (sp_M_held K a b) ∧ Binds K fd ["self"] [] := by
  obtain ⟨fd, F, hbb⟩ := D
  refine ⟨fd, F.ok sc_Q_held (fun vs H Q E h => len_M_held h) (fun cdv A outer s H vs Q E hr h => ⟨t_Q_held K a, ?_, pu_Q_held (T.cl b) h⟩), hbb⟩
  exact (pss_cons (ps_set (i := 1) sc_Q_held.nd rfl (by first | exact Or.inl rfl | exact Or.inr rfl) (pe_op op_rep (pe_lst (pa_cons pe_bl pa_nil)) (pe_op op_add (pe_fld (pv 0) rfl) pe_int)))
    (pss_cons (ps_lock (ps_for PassesOwn.never rfl (pi_values (pe_fld (pv 0) rfl)) (pg_tup rfl (pgs_cons (pg_name (i := 2) sc_Q_held.nd rfl (by first | exact Or.inl rfl | exact Or.inr rfl)) (pgs_cons (pg_name (i := 3) sc_Q_held.nd rfl (by first | exact Or.inl rfl | exact Or.inr rfl)) pgs_nil)))
    (pss_one (ps_asg pe_bl (pg_sub (pv 1) (pv 3) set_list)))))
    (pss_one (ps_ret (pv 1)))))

abbrev s_Q_come : Stmt := inClass (topS 26) 1
theorem sc_Q_come : FnScope N_Q_come ["self", "name", "wish"] (defScope s_Q_come) := ⟨rfl, rfl, rfl, by decide +kernel, rfl, by decide +kernel, by decide +kernel⟩
theorem ok_Q_come (b : Bool) (D : ∃ fd, Fun K "come" "Quay.come" s_Q_come a.f_Q_come fd ∧ Binds K fd ["self", "name", "wish"] []) (T : Txt K mg a) (g_is_from_to : Cb P w K mg base CX0 2 "is_from_to" a.f_is_from_to ["low", "high", "thing"] (sp_is_from_to K a)) (G_first_free : ∀ b, Mb P w K mg base CX0 3 (a.cls b) "_first_free" ((fun b => if b = true then a.f_R_first_free else a.f_Q_first_free) b) ["self", "held", "wish"] (sp_M_first_free K a b)) (G_held : ∀ b, Mb P w K mg base CX0 1 (a.cls b) "_held" ((fun _ => a.f_Q_held) b) ["self"] (sp_M_held K a b)) (g_p_check_name : Cb P w K mg base (L2.CX P w) 2 "_check_name" a.f_p_check_name ["name"] (sp_p_check_name K a)) : ∃ fd, FnOk P w K mg base (L2.CX P w) 4 a.f_Q_come fd ["self", "name", "wish"] (sp_M_come K a b) ∧ Binds K fd ["self", "name", "wish"] [] := by
  obtain ⟨fd, F, hbb⟩ := D
  refine ⟨fd, F.okX sc_Q_come (fun vs H Q E h => len_M_come h) (fun cdv A outer s H vs Q E hr h => ⟨t_Q_come K a E, ?_, pu_Q_come (T.cl b) h⟩), hbb⟩
  exact (pss_cons (ps_expr (pe_cb g_p_check_name (hr.mono (by decide)) (by rfl) (passes_call (takes_of rfl rfl rfl rfl) (fun _ _ _ _ h => h)) (pa_cons (pv 1) pa_nil)))
    (pss_cons (ps_if (pt_cmp (pc_din (Nat.lt_of_le_of_lt (Nat.add_le_add_left (by decide : 1 ≤ 64) _) hr.units) (pv 1) (pe_fld (pv 0) rfl)) rfl) (pss_one (ps_raise rfl (takes_of rfl rfl rfl rfl) (pmk_own PySem.F.excBase_ValueError T.e_Taken.x T.e_Taken.g T.e_Taken.k (raises_own T.e_Taken.b T.e_Taken.t) (by exact rfl)))) pss_nil)
    (pss_cons (ps_if (pt_not (pt_val (pe_cb g_is_from_to (hr.mono (by decide)) (by rfl) pass0 (pa_cons pe_int (pa_cons (pe_fld (pv 0) rfl) (pa_cons (pv 2) pa_nil)))))) (pss_one (ps_raise rfl (takes_of rfl rfl rfl rfl) (pmk_own PySem.F.excBase_ValueError T.e_NoWish.x T.e_NoWish.g T.e_NoWish.k (raises_own T.e_NoWish.b T.e_NoWish.t) (by exact rfl)))) pss_nil)
    (pss_cons (ps_set (i := 3) sc_Q_come.nd rfl (by first | exact Or.inl rfl | exact Or.inr rfl) (pe_mbB G_first_free (fun b => (T.cl b).cl) (hr.mono (by decide)) (fun s => passOf pass0 s) (pv 0) (pa_cons (pe_mbB0 G_held (fun b => (T.cl b).cl) (hr.mono (by decide)) (fun s => passOf pass0 s) (pv 0)) (pa_cons (pv 2) pa_nil))))
    (pss_cons (ps_if (pt_cmp (pc_isN (pv 3)) rfl) (pss_one (ps_raise rfl (takes_of rfl rfl rfl rfl) (pmk_own PySem.F.excBase_ValueError T.e_NoRoom.x T.e_NoRoom.g T.e_NoRoom.k (raises_own T.e_NoRoom.b T.e_NoRoom.t) (by exact rfl)))) pss_nil)
    (pss_cons (ps_asg (pe_tup (pa_cons (pv 2) (pa_cons (pv 3) pa_nil))) (pg_sub (pe_fld (pv 0) rfl) (pv 1) (set_dict (Nat.lt_of_le_of_lt (Nat.add_le_add_left (by decide : 1 ≤ 64) _) hr.units))))
    (pss_one (ps_ret (pv 3)))))))))

abbrev s_Q_check_there : Stmt := inClass (topS 26) 10
theorem sc_Q_check_there : FnScope N_Q_check_there ["self", "name"] (defScope s_Q_check_there) := ⟨rfl, rfl, rfl, by decide +kernel, rfl, by decide +kernel, by decide +kernel⟩
theorem ok_Q_check_there (b : Bool) (D : ∃ fd, Fun K "_check_there" "Quay._check_there" s_Q_check_there a.f_Q_check_there fd ∧ Binds K fd ["self", "name"] []) (T : Txt K mg a) (g_p_check_name : Cb P w K mg base (L2.CX P w) 2 "_check_name" a.f_p_check_name ["name"] (sp_p_check_name K a)) : ∃ fd, FnOk P w K mg base (L2.CX P w) 3 a.f_Q_check_there fd ["self", "name"] (sp_M_check_there K a b) ∧ Binds K fd ["self", "name"] [] := by
  obtain ⟨fd, F, hbb⟩ := D
  refine ⟨fd, F.okX sc_Q_check_there (fun vs H Q E h => len_M_check_there h) (fun cdv A outer s H vs Q E hr h => ⟨t_Q_check_there K a E, ?_, pu_Q_check_there (T.cl b) h⟩), hbb⟩
  exact (pss_cons (ps_expr (pe_cb g_p_check_name (hr.mono (by decide)) (by rfl) (passes_call (takes_of rfl rfl rfl rfl) (fun _ _ _ _ h => h)) (pa_cons (pv 1) pa_nil)))
    (pss_one (ps_if (pt_cmp (pc_dnotin (Nat.lt_of_le_of_lt (Nat.add_le_add_left (by decide : 1 ≤ 64) _) hr.units) (pv 1) (pe_fld (pv 0) rfl)) rfl) (pss_one (ps_raise rfl (takes_of rfl rfl rfl rfl) (pmk_own PySem.F.excBase_ValueError T.e_NoShip.x T.e_NoShip.g T.e_NoShip.k (raises_own T.e_NoShip.b T.e_NoShip.t) (by exact rfl)))) pss_nil)))

abbrev s_Q_all_ships : Stmt := inClass (topS 26) 4
theorem sc_Q_all_ships : FnScope N_Q_all_ships ["self"] (defScope s_Q_all_ships) := ⟨rfl, rfl, rfl, by decide +kernel, rfl, by decide +kernel, by decide +kernel⟩
theorem ok_Q_all_ships (b : Bool) (D : ∃ fd, Fun K "all_ships" "Quay.all_ships" s_Q_all_ships a.f_Q_all_ships fd ∧ Binds K fd ["self"] []) (T : Txt K mg a) : ∃ fd, FnOk P w K mg base CX0 1 a.f_Q_all_ships fd ["self"] (sp_M_all_ships K a b) ∧ Binds K fd ["self"] [] := by
  obtain ⟨fd, F, hbb⟩ := D
  refine ⟨fd, F.ok sc_Q_all_ships (fun vs H Q E h => len_M_all_ships h) (fun cdv A outer s H vs Q E hr h => ⟨t_Q_all_ships K a, ?_, pu_Q_all_ships (T.cl b) h⟩), hbb⟩
  exact (pss_one (ps_ret (pe_lock (pe_lc (own := [("name", 1), ("wish", 2), ("berth", 3)]) rfl sc_Q_all_ships.nd (pi_items (pe_fld (pv 0) rfl)) (blkOk_by (N := N_Q_all_ships) (sc := defScope s_Q_all_ships) (by decide +kernel)) (fun _ _ _ _ _ => (pg_tup rfl (pgs_cons (pg_name (i := 1) sc_Q_all_ships.nd rfl (by first | exact Or.inl rfl | exact Or.inr rfl)) (pgs_cons (pg_tup rfl (pgs_cons (pg_name (i := 2) sc_Q_all_ships.nd rfl (by first | exact Or.inl rfl | exact Or.inr rfl)) (pgs_cons (pg_name (i := 3) sc_Q_all_ships.nd rfl (by first | exact Or.inl rfl | exact Or.inr rfl)) pgs_nil))) pgs_nil)))) (fun _ _ _ _ _ => pts_nil) (fun _ _ _ _ _ => (pe_tup (pa_cons (pv 1) (pa_cons (pv 2) (pa_cons (pv 3) pa_nil)))))))))

abbrev s_R_all_ships : Stmt := inClass (topS 27) 4
theorem ok_R_all_ships (D : SupDef P K mg a.c_Round a.f_R_all_ships a.f_Q_all_ships "all_ships" "Round.all_ships" s_R_all_ships) (G : ∃ fd, FnOk P w K mg base CX0 1 a.f_Q_all_ships fd ["self"] (sp_M_all_ships K a true) ∧ Binds K fd ["self"] []) : ∃ fd, FnOk P w K mg base CX0 2 a.f_R_all_ships fd ["self"] (sp_M_all_ships K a true) ∧ Binds K fd ["self"] [] :=
  super_cb (t := tNil) D ⟨rfl, rfl, rfl, by decide +kernel, by decide +kernel, by decide +kernel, by decide +kernel, by decide +kernel, by decide +kernel⟩ rfl rfl rfl (by decide +kernel) G (fun vs H Q E h => self_all_ships h)
    (fun A outer s H E cd cc => pa_nil) (fun vs H Q hl q => by match vs, hl with | [_], _ => exact q) (fun env => .inl ⟨rfl, rfl⟩)
    (fun A outer s H E cd cc e0 => pass0) (fun env => ⟨_, by rfl⟩) (fun kV doc pm an cdv ct cc us hl => match us, hl with | [_], _ => rfl)

abbrev s_Q_leave : Stmt := inClass (topS 26) 2
theorem sc_Q_leave : FnScope N_Q_leave ["self", "name"] (defScope s_Q_leave) := ⟨rfl, rfl, rfl, by decide +kernel, rfl, by decide +kernel, by decide +kernel⟩
theorem ok_Q_leave (b : Bool) (D : ∃ fd, Fun K "leave" "Quay.leave" s_Q_leave a.f_Q_leave fd ∧ Binds K fd ["self", "name"] []) (T : Txt K mg a) (G_all_ships : ∀ b, Mb P w K mg base CX0 2 (a.cls b) "all_ships" ((fun b => if b = true then a.f_R_all_ships else a.f_Q_all_ships) b) ["self"] (sp_M_all_ships K a b)) (G_first_free : ∀ b, Mb P w K mg base CX0 3 (a.cls b) "_first_free" ((fun b => if b = true then a.f_R_first_free else a.f_Q_first_free) b) ["self", "held", "wish"] (sp_M_first_free K a b)) (G_check_there : ∀ b, Mb P w K mg base (L2.CX P w) 3 (a.cls b) "_check_there" ((fun _ => a.f_Q_check_there) b) ["self", "name"] (sp_M_check_there K a b)) : ∃ fd, FnOk P w K mg base (L2.CX P w) 4 a.f_Q_leave fd ["self", "name"] (sp_M_leave K a b) ∧ Binds K fd ["self", "name"] [] := by
  obtain ⟨fd, F, hbb⟩ := D
  refine ⟨fd, F.okX sc_Q_leave (fun vs H Q E h => len_M_leave h) (fun cdv A outer s H vs Q E hr h => ⟨t_Q_leave K a E, ?_, pu_Q_leave (T.cl b) h⟩), hbb⟩
  exact (pss_cons (ps_expr (pe_mbB G_check_there (fun b => (T.cl b).cl) (hr.mono (by decide)) (fun s => passOf (passes_call (takes_of rfl rfl rfl rfl) (fun _ _ _ _ h => h)) s) (pv 0) (pa_cons (pv 1) pa_nil)))
    (pss_cons (ps_ddel (pe_fld (pv 0) rfl) (pv 1))
    (pss_cons (ps_set (i := 2) sc_Q_leave.nd rfl (by first | exact Or.inl rfl | exact Or.inr rfl) (pe_op op_rep (pe_lst (pa_cons pe_bl pa_nil)) (pe_op op_add (pe_fld (pv 0) rfl) pe_int)))
    (pss_cons (ps_set (i := 3) sc_Q_leave.nd rfl (by first | exact Or.inl rfl | exact Or.inr rfl) (pe_lst pa_nil))
    (pss_cons (ps_for (passes_of rfl) rfl (pi_list (pe_mbB0 G_all_ships (fun b => (T.cl b).cl) (hr.mono (by decide)) (fun s => passOf pass0 s) (pv 0))) (pg_tup rfl (pgs_cons (pg_name (i := 4) sc_Q_leave.nd rfl (by first | exact Or.inl rfl | exact Or.inr rfl)) (pgs_cons (pg_name (i := 5) sc_Q_leave.nd rfl (by first | exact Or.inl rfl | exact Or.inr rfl)) (pgs_cons (pg_name (i := 6) sc_Q_leave.nd rfl (by first | exact Or.inl rfl | exact Or.inr rfl)) pgs_nil))))
    (pss_cons (ps_set (i := 7) sc_Q_leave.nd rfl (by first | exact Or.inl rfl | exact Or.inr rfl) (pe_mbB G_first_free (fun b => (T.cl b).cl) (hr.mono (by decide)) (fun s => passOf pass0 s) (pv 0) (pa_cons (pv 2) (pa_cons (pv 5) pa_nil))))
    (pss_cons (ps_asg pe_bl (pg_sub (pv 2) (pv 7) set_list))
    (pss_cons (ps_asg (pe_tup (pa_cons (pv 5) (pa_cons (pv 7) pa_nil))) (pg_sub (pe_fld (pv 0) rfl) (pv 4) (set_dict (Nat.lt_of_le_of_lt (Nat.add_le_add_left (by decide : 1 ≤ 64) _) hr.units))))
    (pss_one (ps_if (pt_cmpR op_ne (pv 7) (pv 6) (nomark _)) (pss_one (ps_expr (pe_bm PySem.F.plainAttrs_list PySem.F.slot_list_append PySem.F.type_list_append mt_append (pv 3) (pa_cons (pe_tup (pa_cons (pv 4) (pa_cons (pv 6) (pa_cons (pv 7) pa_nil)))) pa_nil)))) pss_nil))))))
    (pss_one (ps_ret (pv 3))))))))

abbrev s_Q_where : Stmt := inClass (topS 26) 3
theorem sc_Q_where : FnScope N_Q_where ["self", "name"] (defScope s_Q_where) := ⟨rfl, rfl, rfl, by decide +kernel, rfl, by decide +kernel, by decide +kernel⟩
theorem ok_Q_where (b : Bool) (D : ∃ fd, Fun K "where" "Quay.where" s_Q_where a.f_Q_where fd ∧ Binds K fd ["self", "name"] []) (T : Txt K mg a) (G_check_there : ∀ b, Mb P w K mg base (L2.CX P w) 3 (a.cls b) "_check_there" ((fun _ => a.f_Q_check_there) b) ["self", "name"] (sp_M_check_there K a b)) : ∃ fd, FnOk P w K mg base (L2.CX P w) 4 a.f_Q_where fd ["self", "name"] (sp_M_where K a b) ∧ Binds K fd ["self", "name"] [] := by
  obtain ⟨fd, F, hbb⟩ := D
  refine ⟨fd, F.okX sc_Q_where (fun vs H Q E h => len_M_where h) (fun cdv A outer s H vs Q E hr h => ⟨t_Q_where K a E, ?_, pu_Q_where (T.cl b) h⟩), hbb⟩
  exact (pss_cons (ps_expr (pe_mbB G_check_there (fun b => (T.cl b).cl) (hr.mono (by decide)) (fun s => passOf (passes_call (takes_of rfl rfl rfl rfl) (fun _ _ _ _ h => h)) s) (pv 0) (pa_cons (pv 1) pa_nil)))
    (pss_one (ps_ret (pe_ix ix_tup (pe_dget (Nat.lt_of_le_of_lt (Nat.add_le_add_left (by decide : 1 ≤ 64) _) hr.units) (pe_fld (pv 0) rfl) (pv 1) (fun _ _ => rfl)) pe_int (fun _ _ => rfl)))))

abbrev s_Q_free_ones : Stmt := inClass (topS 26) 5
theorem sc_Q_free_ones : FnScope N_Q_free_ones ["self"] (defScope s_Q_free_ones) := ⟨rfl, rfl, rfl, by decide +kernel, rfl, by decide +kernel, by decide +kernel⟩
theorem ok_Q_free_ones (b : Bool) (D : ∃ fd, Fun K "free_ones" "Quay.free_ones" s_Q_free_ones a.f_Q_free_ones fd ∧ Binds K fd ["self"] []) (T : Txt K mg a) (G_held : ∀ b, Mb P w K mg base CX0 1 (a.cls b) "_held" ((fun _ => a.f_Q_held) b) ["self"] (sp_M_held K a b)) : ∃ fd, FnOk P w K mg base CX0 2 a.f_Q_free_ones fd ["self"] (sp_M_free_ones K a b) ∧ Binds K fd ["self"] [] := by
  obtain ⟨fd, F, hbb⟩ := D
  refine ⟨fd, F.ok sc_Q_free_ones (fun vs H Q E h => len_M_free_ones h) (fun cdv A outer s H vs Q E hr h => ⟨t_Q_free_ones K a, ?_, pu_Q_free_ones (T.cl b) h⟩), hbb⟩
  exact (pss_cons (ps_set (i := 1) sc_Q_free_ones.nd rfl (by first | exact Or.inl rfl | exact Or.inr rfl) (pe_mbB0 G_held (fun b => (T.cl b).cl) (hr.mono (by decide)) (fun s => passOf pass0 s) (pv 0)))
    (pss_one (ps_ret (pe_lc (own := [("berth", 2)]) rfl sc_Q_free_ones.nd (pi_range2 (by rfl) T.b_range (pa_cons pe_int (pa_cons (pe_op op_add (pe_fld (pv 0) rfl) pe_int) pa_nil))) (blkOk_by (N := N_Q_free_ones) (sc := defScope s_Q_free_ones) (by decide +kernel)) (fun _ _ _ _ _ => (pg_name (i := 2) sc_Q_free_ones.nd rfl (by first | exact Or.inl rfl | exact Or.inr rfl))) (fun _ _ _ _ _ => (pts_one (pt_not (pt_val (pe_ix ix_list (pv 1) (pv 2) (fun _ _ => rfl)))))) (fun _ _ _ _ _ => (pv 2))))))

abbrev s_Q_size : Stmt := inClass (topS 26) 6
theorem sc_Q_size : FnScope N_Q_size ["self"] (defScope s_Q_size) := ⟨rfl, rfl, rfl, by decide +kernel, rfl, by decide +kernel, by decide +kernel⟩
theorem ok_Q_size (b : Bool) (D : ∃ fd, Fun K "size" "Quay.size" s_Q_size a.f_Q_size fd ∧ Binds K fd ["self"] []) (T : Txt K mg a) : ∃ fd, FnOk P w K mg base CX0 1 a.f_Q_size fd ["self"] (sp_M_size K a b) ∧ Binds K fd ["self"] [] := by
  obtain ⟨fd, F, hbb⟩ := D
  refine ⟨fd, F.ok sc_Q_size (fun vs H Q E h => len_M_size h) (fun cdv A outer s H vs Q E hr h => ⟨t_Q_size K a, ?_, pu_Q_size (T.cl b) h⟩), hbb⟩
  exact (pss_one (ps_ret (pe_fld (pv 0) rfl)))

abbrev s_Q_kind : Stmt := inClass (topS 26) 7
theorem sc_Q_kind : FnScope N_Q_kind ["self"] (defScope s_Q_kind) := ⟨rfl, rfl, rfl, by decide +kernel, rfl, by decide +kernel, by decide +kernel⟩
theorem ok_Q_kind (D : ∃ fd, Fun K "kind" "Quay.kind" s_Q_kind a.f_Q_kind fd ∧ Binds K fd ["self"] []) (T : Txt K mg a) : ∃ fd, FnOk P w K mg base CX0 1 a.f_Q_kind fd ["self"] (sp_M_kind K a false) ∧ Binds K fd ["self"] [] := by
  obtain ⟨fd, F, hbb⟩ := D
  refine ⟨fd, F.ok sc_Q_kind (fun vs H Q E h => len_M_kind h) (fun cdv A outer s H vs Q E hr h => ⟨t_Q_kind K a, ?_, pu_Q_kind h⟩), hbb⟩
  exact (pss_one (ps_ret pe_str))

abbrev s_R_init : Stmt := inClass (topS 27) 0
theorem sc_R_init : FnScope N_R_init ["self", "berths"] (defScope s_R_init) := ⟨rfl, rfl, rfl, by decide +kernel, rfl, by decide +kernel, by decide +kernel⟩
theorem ok_R_init (D : ∃ fd, Fun K "__init__" "Round.__init__" s_R_init a.f_R_init fd ∧ Binds K fd ["self", "berths"] []) (T : Txt K mg a) (G_Q_init : ∀ b, ∃ fd, FnOk P w K mg base (L2.CX P w) 4 a.f_Q_init fd ["self", "berths"] (sp_M_init K a b) ∧ Binds K fd ["self", "berths"] []) : ∃ fd, FnOk P w K mg base (L2.CX P w) 5 a.f_R_init fd ["self", "berths"] (sp_M_init K a true) ∧ Binds K fd ["self", "berths"] [] := by
  obtain ⟨fd, F, hbb⟩ := D
  refine ⟨fd, F.okX sc_R_init (fun vs H Q E h => len_M_init h) (fun cdv A outer s H vs Q E hr h => ⟨t_R_init K a E, ?_, pu_R_init (T.cl true) h⟩), hbb⟩
  exact (pss_one (ps_expr (pe_clsFn (pe_glob (by rfl) T.m_Quay rfl) T.cf_Quay (G_Q_init true).choose_spec.1 (hr.mono (by decide)) (G_Q_init true).choose_spec.2 (passes_call (takes_of rfl rfl rfl rfl) (fun _ _ _ _ h => h)) (pa_cons (pv 0) (pa_cons (pv 1) pa_nil)))))

abbrev s_R_come : Stmt := inClass (topS 27) 1
theorem ok_R_come (D : SupDef P K mg a.c_Round a.f_R_come a.f_Q_come "come" "Round.come" s_R_come) (G : ∃ fd, FnOk P w K mg base (L2.CX P w) 4 a.f_Q_come fd ["self", "name", "wish"] (sp_M_come K a true) ∧ Binds K fd ["self", "name", "wish"] []) : ∃ fd, FnOk P w K mg base (L2.CX P w) 5 a.f_R_come fd ["self", "name", "wish"] (sp_M_come K a true) ∧ Binds K fd ["self", "name", "wish"] [] :=
  super_cb (t := (tCons (tVar 1) (tCons (tVar 2) tNil))) D ⟨rfl, rfl, rfl, by decide +kernel, by decide +kernel, by decide +kernel, by decide +kernel, by decide +kernel, by decide +kernel⟩ rfl rfl rfl (by decide +kernel) G (fun vs H Q E h => self_come h)
    (fun A outer s H E cd cc => (pa_cons (pv 1) (pa_cons (pv 2) pa_nil))) (fun vs H Q hl q => by match vs, hl with | [v0, v1, v2], _ => exact ⟨_, rfl, _, rfl, q⟩) (fun env => .inr ⟨_, _, rfl, rfl⟩)
    (fun A outer s H E cd cc e0 => passes_call (takes_of rfl rfl rfl rfl) (fun _ _ _ _ h => h)) (fun env => ⟨_, by rfl⟩) (fun kV doc pm an cdv ct cc us hl => match us, hl with | [_, _, _], _ => rfl)

abbrev s_R_leave : Stmt := inClass (topS 27) 2
theorem ok_R_leave (D : SupDef P K mg a.c_Round a.f_R_leave a.f_Q_leave "leave" "Round.leave" s_R_leave) (G : ∃ fd, FnOk P w K mg base (L2.CX P w) 4 a.f_Q_leave fd ["self", "name"] (sp_M_leave K a true) ∧ Binds K fd ["self", "name"] []) : ∃ fd, FnOk P w K mg base (L2.CX P w) 5 a.f_R_leave fd ["self", "name"] (sp_M_leave K a true) ∧ Binds K fd ["self", "name"] [] :=
  super_cb (t := (tCons (tVar 1) tNil)) D ⟨rfl, rfl, rfl, by decide +kernel, by decide +kernel, by decide +kernel, by decide +kernel, by decide +kernel, by decide +kernel⟩ rfl rfl rfl (by decide +kernel) G (fun vs H Q E h => self_leave h)
    (fun A outer s H E cd cc => (pa_cons (pv 1) pa_nil)) (fun vs H Q hl q => by match vs, hl with | [v0, v1], _ => exact ⟨_, rfl, q⟩) (fun env => .inr ⟨_, _, rfl, rfl⟩)
    (fun A outer s H E cd cc e0 => passes_call (takes_of rfl rfl rfl rfl) (fun _ _ _ _ h => h)) (fun env => ⟨_, by rfl⟩) (fun kV doc pm an cdv ct cc us hl => match us, hl with | [_, _], _ => rfl)

abbrev s_R_where : Stmt := inClass (topS 27) 3
theorem ok_R_where (D : SupDef P K mg a.c_Round a.f_R_where a.f_Q_where "where" "Round.where" s_R_where) (G : ∃ fd, FnOk P w K mg base (L2.CX P w) 4 a.f_Q_where fd ["self", "name"] (sp_M_where K a true) ∧ Binds K fd ["self", "name"] []) : ∃ fd, FnOk P w K mg base (L2.CX P w) 5 a.f_R_where fd ["self", "name"] (sp_M_where K a true) ∧ Binds K fd ["self", "name"] [] :=
  super_cb (t := (tCons (tVar 1) tNil)) D ⟨rfl, rfl, rfl, by decide +kernel, by decide +kernel, by decide +kernel, by decide +kernel, by decide +kernel, by decide +kernel⟩ rfl rfl rfl (by decide +kernel) G (fun vs H Q E h => self_where h)
    (fun A outer s H E cd cc => (pa_cons (pv 1) pa_nil)) (fun vs H Q hl q => by match vs, hl with | [v0, v1], _ => exact ⟨_, rfl, q⟩) (fun env => .inr ⟨_, _, rfl, rfl⟩)
    (fun A outer s H E cd cc e0 => passes_call (takes_of rfl rfl rfl rfl) (fun _ _ _ _ h => h)) (fun env => ⟨_, by rfl⟩) (fun kV doc pm an cdv ct cc us hl => match us, hl with | [_, _], _ => rfl)

abbrev s_R_free_ones : Stmt := inClass (topS 27) 5
theorem ok_R_free_ones (D : SupDef P K mg a.c_Round a.f_R_free_ones a.f_Q_free_ones "free_ones" "Round.free_ones" s_R_free_ones) (G : ∃ fd, FnOk P w K mg base CX0 2 a.f_Q_free_ones fd ["self"] (sp_M_free_ones K a true) ∧ Binds K fd ["self"] []) : ∃ fd, FnOk P w K mg base CX0 3 a.f_R_free_ones fd ["self"] (sp_M_free_ones K a true) ∧ Binds K fd ["self"] [] :=
  super_cb (t := tNil) D ⟨rfl, rfl, rfl, by decide +kernel, by decide +kernel, by decide +kernel, by decide +kernel, by decide +kernel, by decide +kernel⟩ rfl rfl rfl (by decide +kernel) G (fun vs H Q E h => self_free_ones h)
    (fun A outer s H E cd cc => pa_nil) (fun vs H Q hl q => by match vs, hl with | [_], _ => exact q) (fun env => .inl ⟨rfl, rfl⟩)
    (fun A outer s H E cd cc e0 => pass0) (fun env => ⟨_, by rfl⟩) (fun kV doc pm an cdv ct cc us hl => match us, hl with | [_], _ => rfl)

abbrev s_R_size : Stmt := inClass (topS 27) 6
theorem ok_R_size (D : SupDef P K mg a.c_Round a.f_R_size a.f_Q_size "size" "Round.size" s_R_size) (G : ∃ fd, FnOk P w K mg base CX0 1 a.f_Q_size fd ["self"] (sp_M_size K a true) ∧ Binds K fd ["self"] []) : ∃ fd, FnOk P w K mg base CX0 2 a.f_R_size fd ["self"] (sp_M_size K a true) ∧ Binds K fd ["self"] [] :=
  super_cb (t := tNil) D ⟨rfl, rfl, rfl, by decide +kernel, by decide +kernel, by decide +kernel, by decide +kernel, by decide +kernel, by decide +kernel⟩ rfl rfl rfl (by decide +kernel) G (fun vs H Q E h => self_size h)
    (fun A outer s H E cd cc => pa_nil) (fun vs H Q hl q => by match vs, hl with | [_], _ => exact q) (fun env => .inl ⟨rfl, rfl⟩)
    (fun A outer s H E cd cc e0 => pass0) (fun env => ⟨_, by rfl⟩) (fun kV doc pm an cdv ct cc us hl => match us, hl with | [_], _ => rfl)

abbrev s_R_kind : Stmt := inClass (topS 27) 7
theorem sc_R_kind : FnScope N_R_kind ["self"] (defScope s_R_kind) := ⟨rfl, rfl, rfl, by decide +kernel, rfl, by decide +kernel, by decide +kernel⟩
theorem ok_R_kind (D : ∃ fd, Fun K "kind" "Round.kind" s_R_kind a.f_R_kind fd ∧ Binds K fd ["self"] []) (T : Txt K mg a) : ∃ fd, FnOk P w K mg base CX0 1 a.f_R_kind fd ["self"] (sp_M_kind K a true) ∧ Binds K fd ["self"] [] := by
  obtain ⟨fd, F, hbb⟩ := D
  refine ⟨fd, F.ok sc_R_kind (fun vs H Q E h => len_M_kind h) (fun cdv A outer s H vs Q E hr h => ⟨t_R_kind K a, ?_, pu_R_kind h⟩), hbb⟩
  exact (pss_one (ps_ret pe_str))

abbrev s_written : Stmt := topS 30
theorem sc_written : FnScope N_written ["quay"] (defScope s_written) := ⟨rfl, rfl, rfl, by decide +kernel, rfl, by decide +kernel, by decide +kernel⟩
theorem ok_written (D : DF K mg "written" s_written ["quay"] a.f_written) (T : Txt K mg a) (G_all_ships : ∀ b, Mb P w K mg base CX0 2 (a.cls b) "all_ships" ((fun b => if b = true then a.f_R_all_ships else a.f_Q_all_ships) b) ["self"] (sp_M_all_ships K a b)) (G_size : ∀ b, Mb P w K mg base CX0 2 (a.cls b) "size" ((fun b => if b = true then a.f_R_size else a.f_Q_size) b) ["self"] (sp_M_size K a b)) (G_kind : ∀ b, Mb P w K mg base CX0 1 (a.cls b) "kind" ((fun b => if b = true then a.f_R_kind else a.f_Q_kind) b) ["self"] (sp_M_kind K a b)) : Cb P w K mg base CX0 3 "written" a.f_written ["quay"] (sp_written K a) := by
  obtain ⟨⟨fd, F, bb⟩, gg⟩ := D
  refine ⟨⟨fd, F.ok sc_written (fun vs H Q E h => len_written h) (fun cdv A outer s H vs Q E hr h => ⟨t_written K a, ?_, pu_written h⟩), bb⟩, gg, F.kp⟩
  exact (pss_cons (ps_set (i := 1) sc_written.nd rfl (by first | exact Or.inl rfl | exact Or.inr rfl) (pe_lst (pa_cons (pe_joined (PJ.cons (pe_fmt (pe_mbB0 G_kind (fun b => (T.cl b).cl) (hr.mono (by decide)) (fun s => passOf pass0 s) (pv 0))) (PJ.cons pe_str (PJ.cons (pe_fmt (pe_mbB0 G_size (fun b => (T.cl b).cl) (hr.mono (by decide)) (fun s => passOf pass0 s) (pv 0))) (PJ.cons pe_str PJ.nil))))) pa_nil)))
    (pss_cons (ps_for PassesOwn.never rfl (pi_list (pe_mbB0 G_all_ships (fun b => (T.cl b).cl) (hr.mono (by decide)) (fun s => passOf pass0 s) (pv 0))) (pg_tup rfl (pgs_cons (pg_name (i := 2) sc_written.nd rfl (by first | exact Or.inl rfl | exact Or.inr rfl)) (pgs_cons (pg_name (i := 3) sc_written.nd rfl (by first | exact Or.inl rfl | exact Or.inr rfl)) (pgs_cons (pg_name (i := 4) sc_written.nd rfl (by first | exact Or.inl rfl | exact Or.inr rfl)) pgs_nil))))
    (pss_one (ps_expr (pe_bm PySem.F.plainAttrs_list PySem.F.slot_list_append PySem.F.type_list_append mt_append (pv 1) (pa_cons (pe_joined (PJ.cons (pe_fmt (pv 2)) (PJ.cons pe_str (PJ.cons (pe_fmt (pv 3)) (PJ.cons pe_str PJ.nil))))) pa_nil)))))
    (pss_one (ps_ret (pe_join pe_str (pv 1))))))

abbrev s_p_number : Stmt := topS 34
theorem sc_p_number : FnScope N_p_number ["word"] (defScope s_p_number) := ⟨rfl, rfl, rfl, by decide +kernel, rfl, by decide +kernel, by decide +kernel⟩
theorem ok_p_number (D : DF K mg "_number" s_p_number ["word"] a.f_p_number) (T : Txt K mg a) : Cb P w K mg base (L2.CX P w) 1 "_number" a.f_p_number ["word"] (sp_p_number K a) := by
  obtain ⟨⟨fd, F, bb⟩, gg⟩ := D
  refine ⟨⟨fd, F.okX sc_p_number (fun vs H Q E h => len_p_number h) (fun cdv A outer s H vs Q E hr h => ⟨t_p_number K a E, ?_, pu_p_number h⟩), bb⟩, gg, F.kp⟩
  exact (pss_cons (ps_if (PW.pt (pw_or (pt_not (pt_chain op_le op_le pe_int (pe_callB call_len_str (by rfl) T.b_len (by decide +kernel) (pa_cons (pv 0) pa_nil)) (pe_callB call_len_str (by rfl) T.b_len (by decide +kernel) (pa_cons (pe_callTy call_str_int (by rfl) T.b_str (by decide +kernel) (pa_cons (pe_gl (by rfl) T.c_MOST) pa_nil)) pa_nil)))) (pw_or1 (pt_cmpR op_eq (pe_ix ix_str (pv 0) pe_int (fun _ _ => rfl)) pe_str (nomark _))))) (pss_one (ps_raise rfl (takes_of rfl rfl rfl rfl) (pmk_own PySem.F.excBase_ValueError T.e_NoText.x T.e_NoText.g T.e_NoText.k (raises_own T.e_NoText.b T.e_NoText.t) (by exact rfl)))) pss_nil)
    (pss_cons (ps_for (passes_of rfl) rfl (pi_str (pv 0)) (pg_name (i := 1) sc_p_number.nd rfl (by first | exact Or.inl rfl | exact Or.inr rfl))
    (pss_one (ps_if (pt_not (pt_chain op_le_str op_le_str pe_str (pv 1) pe_str)) (pss_one (ps_raise rfl (takes_of rfl rfl rfl rfl) (pmk_own PySem.F.excBase_ValueError T.e_NoText.x T.e_NoText.g T.e_NoText.k (raises_own T.e_NoText.b T.e_NoText.t) (by exact rfl)))) pss_nil)))
    (pss_cons (ps_set (i := 2) sc_p_number.nd rfl (by first | exact Or.inl rfl | exact Or.inr rfl) (pe_callTy call_int_str (by rfl) T.b_int (by decide +kernel) (pa_cons (pv 0) pa_nil)))
    (pss_cons (ps_if (pt_cmpR op_gt (pv 2) (pe_gl (by rfl) T.c_MOST) (nomark _)) (pss_one (ps_raise rfl (takes_of rfl rfl rfl rfl) (pmk_own PySem.F.excBase_ValueError T.e_NoText.x T.e_NoText.g T.e_NoText.k (raises_own T.e_NoText.b T.e_NoText.t) (by exact rfl)))) pss_nil)
    (pss_one (ps_ret (pv 2)))))))

abbrev s_p_pair : Stmt := topS 33
theorem sc_p_pair : FnScope N_p_pair ["row"] (defScope s_p_pair) := ⟨rfl, rfl, rfl, by decide +kernel, rfl, by decide +kernel, by decide +kernel⟩
theorem ok_p_pair (D : DF K mg "_pair" s_p_pair ["row"] a.f_p_pair) (T : Txt K mg a) (g_p_number : Cb P w K mg base (L2.CX P w) 1 "_number" a.f_p_number ["word"] (sp_p_number K a)) : Cb P w K mg base (L2.CX P w) 2 "_pair" a.f_p_pair ["row"] (sp_p_pair K a) := by
  obtain ⟨⟨fd, F, bb⟩, gg⟩ := D
  refine ⟨⟨fd, F.okX sc_p_pair (fun vs H Q E h => len_p_pair h) (fun cdv A outer s H vs Q E hr h => ⟨t_p_pair K a E, ?_, pu_p_pair h⟩), bb⟩, gg, F.kp⟩
  exact (pss_cons (ps_set (i := 1) sc_p_pair.nd rfl (by first | exact Or.inl rfl | exact Or.inr rfl) (pe_split (pv 0) pe_str))
    (pss_cons (ps_if (pt_cmpR op_ne (pe_callB call_len_seq (by rfl) T.b_len (by decide +kernel) (pa_cons (pv 1) pa_nil)) pe_int (nomark _)) (pss_one (ps_raise rfl (takes_of rfl rfl rfl rfl) (pmk_own PySem.F.excBase_ValueError T.e_NoText.x T.e_NoText.g T.e_NoText.k (raises_own T.e_NoText.b T.e_NoText.t) (by exact rfl)))) pss_nil)
    (pss_one (ps_ret (pe_tup (pa_cons (pe_ix ix_list (pv 1) pe_int (fun _ _ => rfl)) (pa_cons (pe_cb g_p_number (hr.mono (by decide)) (by rfl) (passes_call (takes_of rfl rfl rfl rfl) (fun _ _ _ _ h => h)) (pa_cons (pe_ix ix_list (pv 1) pe_int (fun _ _ => rfl)) pa_nil)) pa_nil)))))))

abbrev s_p_parts : Stmt := topS 32
theorem sc_p_parts : FnScope N_p_parts ["text"] (defScope s_p_parts) := ⟨rfl, rfl, rfl, by decide +kernel, rfl, by decide +kernel, by decide +kernel⟩
theorem ok_p_parts (D : DF K mg "_parts" s_p_parts ["text"] a.f_p_parts) (T : Txt K mg a) (g_is_name : Cb P w K mg base CX0 1 "is_name" a.f_is_name ["thing"] (sp_is_name K a)) (g_p_pair : Cb P w K mg base (L2.CX P w) 2 "_pair" a.f_p_pair ["row"] (sp_p_pair K a)) : Cb P w K mg base (L2.CX P w) 3 "_parts" a.f_p_parts ["text"] (sp_p_parts K a) := by
  obtain ⟨⟨fd, F, bb⟩, gg⟩ := D
  refine ⟨⟨fd, F.okX sc_p_parts (fun vs H Q E h => len_p_parts h) (fun cdv A outer s H vs Q E hr h => ⟨t_p_parts K a E, ?_, pu_p_parts h⟩), bb⟩, gg, F.kp⟩
  exact (pss_cons (ps_if (PW.pt (pw_or (pt_cmpR op_notTyB (pe_callTy call_type1 (by rfl) T.b_type (by decide +kernel) (pa_cons (pv 0) pa_nil)) (pe_bltn (by rfl) T.b_str (by decide +kernel) rfl) (nomark _)) (pw_or1 (pt_not (pt_val (pe_m1 PySem.F.slot_str_endswith PySem.F.type_str_endswith mt_endswith (pv 0) pe_str)))))) (pss_one (ps_raise rfl (takes_of rfl rfl rfl rfl) (pmk_own PySem.F.excBase_ValueError T.e_NoText.x T.e_NoText.g T.e_NoText.k (raises_own T.e_NoText.b T.e_NoText.t) (by exact rfl)))) pss_nil)
    (pss_cons (ps_setLcX (E := E) (i := 1) (own := [("row", 7)]) rfl sc_p_parts.nd rfl rfl (takes_of rfl rfl rfl rfl) rfl rfl (sw_true rfl rfl rfl (by decide +kernel)) (pi_list (pe_split (pe_slice sl_str (pv 0) po_none (po_some (pe_un un_neg pe_int))) pe_str)) (blkOk_by (N := N_p_parts) (sc := defScope s_p_parts) (by decide +kernel)) (fun _ _ _ _ _ _ => (pg_name (i := 7) sc_p_parts.nd rfl (by first | exact Or.inl rfl | exact Or.inr rfl))) (fun _ _ _ _ _ _ => pts_nil) (fun _ _ _ _ _ _ hp => (pe_cb g_p_pair (hr.mono (by decide)) (by rfl) hp (pa_cons (pv 7) pa_nil))))
    (pss_cons (ps_asg (pe_ix ix_list (pv 1) pe_int (fun _ _ => rfl)) (pg_tup rfl (pgs_cons (pg_name (i := 2) sc_p_parts.nd rfl (by first | exact Or.inl rfl | exact Or.inr rfl)) (pgs_cons (pg_name (i := 3) sc_p_parts.nd rfl (by first | exact Or.inl rfl | exact Or.inr rfl)) pgs_nil))))
    (pss_cons (ps_set (i := 4) sc_p_parts.nd rfl (by first | exact Or.inl rfl | exact Or.inr rfl) (pe_slice sl_list (pv 1) (po_some pe_int) po_none))
    (pss_cons (ps_if (PW.pt (pw_and (pt_cmpR op_ne (pv 2) pe_str (nomark _)) (pw_and1 (pt_cmpR op_ne (pv 2) pe_str (nomark _))))) (pss_one (ps_raise rfl (takes_of rfl rfl rfl rfl) (pmk_own PySem.F.excBase_ValueError T.e_NoText.x T.e_NoText.g T.e_NoText.k (raises_own T.e_NoText.b T.e_NoText.t) (by exact rfl)))) pss_nil)
    (pss_cons (ps_for (passes_of rfl) rfl (pi_list (pv 4)) (pg_tup rfl (pgs_cons (pg_name (i := 5) sc_p_parts.nd rfl (by first | exact Or.inl rfl | exact Or.inr rfl)) (pgs_cons (pg_name (i := 6) sc_p_parts.nd rfl (by first | exact Or.inl rfl | exact Or.inr rfl)) pgs_nil)))
    (pss_one (ps_if (pt_not (pt_val (pe_cb g_is_name (hr.mono (by decide)) (by rfl) pass0 (pa_cons (pv 5) pa_nil)))) (pss_one (ps_raise rfl (takes_of rfl rfl rfl rfl) (pmk_own PySem.F.excBase_ValueError T.e_NoText.x T.e_NoText.g T.e_NoText.k (raises_own T.e_NoText.b T.e_NoText.t) (by exact rfl)))) pss_nil)))
    (pss_one (ps_ret (pe_tup (pa_cons (pv 2) (pa_cons (pv 3) (pa_cons (pv 4) pa_nil))))))))))))

abbrev s_read : Stmt := topS 31
theorem sc_read : FnScope N_read ["text"] (defScope s_read) := ⟨rfl, rfl, rfl, by decide +kernel, rfl, by decide +kernel, by decide +kernel⟩
theorem ok_read (D : DF K mg "read" s_read ["text"] a.f_read) (T : Txt K mg a) (G_Q_init : ∀ b, ∃ fd, FnOk P w K mg base (L2.CX P w) 4 a.f_Q_init fd ["self", "berths"] (sp_M_init K a b) ∧ Binds K fd ["self", "berths"] []) (G_come : ∀ b, Mb P w K mg base (L2.CX P w) 5 (a.cls b) "come" ((fun b => if b = true then a.f_R_come else a.f_Q_come) b) ["self", "name", "wish"] (sp_M_come K a b)) (G_R_init : ∃ fd, FnOk P w K mg base (L2.CX P w) 5 a.f_R_init fd ["self", "berths"] (sp_M_init K a true) ∧ Binds K fd ["self", "berths"] []) (g_p_parts : Cb P w K mg base (L2.CX P w) 3 "_parts" a.f_p_parts ["text"] (sp_p_parts K a)) : Cb P w K mg base (L2.CX P w) 7 "read" a.f_read ["text"] (sp_read K a) := by
  obtain ⟨⟨fd, F, bb⟩, gg⟩ := D
  refine ⟨⟨fd, F.okX sc_read (fun vs H Q E h => len_read h) (fun cdv A outer s H vs Q E hr h => ⟨t_read K a E, ?_, pu_read h⟩), bb⟩, gg, F.kp⟩
  exact (pss_cons (ps_asg (pe_cb g_p_parts (hr.mono (by decide)) (by rfl) (passes_call (takes_of rfl rfl rfl rfl) (fun _ _ _ _ h => h)) (pa_cons (pv 0) pa_nil)) (pg_tup rfl (pgs_cons (pg_name (i := 1) sc_read.nd rfl (by first | exact Or.inl rfl | exact Or.inr rfl)) (pgs_cons (pg_name (i := 2) sc_read.nd rfl (by first | exact Or.inl rfl | exact Or.inr rfl)) (pgs_cons (pg_name (i := 3) sc_read.nd rfl (by first | exact Or.inl rfl | exact Or.inr rfl)) pgs_nil)))))
    (pss_cons (ps_set (i := 4) sc_read.nd rfl (by first | exact Or.inl rfl | exact Or.inr rfl) (pe_ifExp (pt_cmpR op_eq (pv 1) pe_str (nomark _)) (pe_mk T.mk_Round G_R_init T.m_Round (hr.mono (by decide)) (by rfl) (fun s => passOf (passes_call (takes_of rfl rfl rfl rfl) (fun _ _ _ _ h => h)) s) (pa_cons (pv 2) pa_nil)) (pe_mk T.mk_Quay (G_Q_init false) T.m_Quay (hr.mono (by decide)) (by rfl) (fun s => passOf (passes_call (takes_of rfl rfl rfl rfl) (fun _ _ _ _ h => h)) s) (pa_cons (pv 2) pa_nil))))
    (pss_cons (ps_for (passes_of rfl) rfl (pi_list (pv 3)) (pg_tup rfl (pgs_cons (pg_name (i := 5) sc_read.nd rfl (by first | exact Or.inl rfl | exact Or.inr rfl)) (pgs_cons (pg_name (i := 6) sc_read.nd rfl (by first | exact Or.inl rfl | exact Or.inr rfl)) pgs_nil)))
    (pss_one (ps_expr (pe_mbB G_come (fun b => (T.cl b).cl) (hr.mono (by decide)) (fun s => passOf (passes_call (takes_of rfl rfl rfl rfl) (fun _ _ _ _ h => h)) s) (pv 4) (pa_cons (pv 5) (pa_cons (pv 6) pa_nil))))))
    (pss_one (ps_ret (pv 4))))))

abbrev s_l_cell_at : Stmt := topS 36
theorem sc_l_cell_at : FnScope N_l_cell_at ["_law_script", "_law_k"] (defScope s_l_cell_at) := ⟨rfl, rfl, rfl, by decide +kernel, rfl, by decide +kernel, by decide +kernel⟩
theorem ok_l_cell_at (D : DF K mg "_law_cell_at" s_l_cell_at ["_law_script", "_law_k"] a.f_l_cell_at) (T : Txt K mg a) : Cb P w K mg base CX0 1 "_law_cell_at" a.f_l_cell_at ["_law_script", "_law_k"] (sp_l_cell_at K) := by
  obtain ⟨⟨fd, F, bb⟩, gg⟩ := D
  refine ⟨⟨fd, F.ok sc_l_cell_at (fun vs H Q E h => len_l_cell_at h) (fun cdv A outer s H vs Q E hr h => ⟨t_l_cell_at K a, ?_, pu_l_cell_at h⟩), bb⟩, gg, F.kp⟩
  exact (pss_cons (ps_if (pt_cmpR op_lt (pv 1) (pe_callB call_len_seq (by rfl) T.b_len (by decide +kernel) (pa_cons (pv 0) pa_nil)) (nomark _)) (pss_one (ps_ret (pe_ix ix_list (pv 0) (pv 1) (fun _ _ => rfl)))) pss_nil)
    (pss_one (ps_ret pe_int)))

abbrev s_l_mix : Stmt := topS 37
theorem sc_l_mix : FnScope N_l_mix ["_law_state", "_law_cell"] (defScope s_l_mix) := ⟨rfl, rfl, rfl, by decide +kernel, rfl, by decide +kernel, by decide +kernel⟩
theorem ok_l_mix (D : DF K mg "_law_mix" s_l_mix ["_law_state", "_law_cell"] a.f_l_mix) (T : Txt K mg a) : Cb P w K mg base CX0 1 "_law_mix" a.f_l_mix ["_law_state", "_law_cell"] (sp_l_mix K) := by
  obtain ⟨⟨fd, F, bb⟩, gg⟩ := D
  refine ⟨⟨fd, F.ok sc_l_mix (fun vs H Q E h => len_l_mix h) (fun cdv A outer s H vs Q E hr h => ⟨t_l_mix K a, ?_, pu_l_mix h⟩), bb⟩, gg, F.kp⟩
  exact (pss_cons (ps_asg (pe_op op_mod (pe_op op_add (pe_op op_add (pe_op op_mul (pe_ix ix_list (pv 0) pe_int (fun _ _ => rfl)) pe_int) (pe_op op_mul (pv 1) pe_int)) pe_int) pe_int) (pg_sub (pv 0) pe_int set_list))
    (pss_one (ps_ret (pe_op op_fdiv (pe_op op_mod (pe_op op_mul (pe_ix ix_list (pv 0) pe_int (fun _ _ => rfl)) (pe_ix ix_list (pv 0) pe_int (fun _ _ => rfl))) pe_int) pe_int))))

abbrev s_l_words : Stmt := topS 38
theorem sc_l_words : FnScope N_l_words ["_law_e"] (defScope s_l_words) := ⟨rfl, rfl, rfl, by decide +kernel, rfl, by decide +kernel, by decide +kernel⟩
theorem ok_l_words (D : DF K mg "_law_words" s_l_words ["_law_e"] a.f_l_words) (T : Txt K mg a) : Cb P w K mg base CX0 1 "_law_words" a.f_l_words ["_law_e"] (sp_l_words K a) := by
  obtain ⟨⟨fd, F, bb⟩, gg⟩ := D
  refine ⟨⟨fd, F.ok sc_l_words (fun vs H Q E h => len_l_words h) (fun cdv A outer s H vs Q E hr h => ⟨t_l_words K a, ?_, pu_l_words (fun k => match k with | .text => ⟨exm_of T.g_BerthError T.s_NoText_BerthError, T.g_NoText.c, kit_ref T.g_NoCount T.s_NoText_NoCount, kit_ref T.g_NoOrder T.s_NoText_NoOrder, kit_ref T.g_NoQuay T.s_NoText_NoQuay, kit_ref T.g_NoName T.s_NoText_NoName, kit_ref T.g_NoTree T.s_NoText_NoTree, kit_ref T.g_NoWishes T.s_NoText_NoWishes, kit_ref T.g_TooMany T.s_NoText_TooMany, kit_ref T.g_NoShip T.s_NoText_NoShip, fun k' => match k' with | .text => kit_ref T.g_NoText T.s_NoText_NoText | .taken => kit_ref T.g_Taken T.s_NoText_Taken | .wish => kit_ref T.g_NoWish T.s_NoText_NoWish | .room => kit_ref T.g_NoRoom T.s_NoText_NoRoom⟩ | .taken => ⟨exm_of T.g_BerthError T.s_Taken_BerthError, T.g_Taken.c, kit_ref T.g_NoCount T.s_Taken_NoCount, kit_ref T.g_NoOrder T.s_Taken_NoOrder, kit_ref T.g_NoQuay T.s_Taken_NoQuay, kit_ref T.g_NoName T.s_Taken_NoName, kit_ref T.g_NoTree T.s_Taken_NoTree, kit_ref T.g_NoWishes T.s_Taken_NoWishes, kit_ref T.g_TooMany T.s_Taken_TooMany, kit_ref T.g_NoShip T.s_Taken_NoShip, fun k' => match k' with | .text => kit_ref T.g_NoText T.s_Taken_NoText | .taken => kit_ref T.g_Taken T.s_Taken_Taken | .wish => kit_ref T.g_NoWish T.s_Taken_NoWish | .room => kit_ref T.g_NoRoom T.s_Taken_NoRoom⟩ | .wish => ⟨exm_of T.g_BerthError T.s_NoWish_BerthError, T.g_NoWish.c, kit_ref T.g_NoCount T.s_NoWish_NoCount, kit_ref T.g_NoOrder T.s_NoWish_NoOrder, kit_ref T.g_NoQuay T.s_NoWish_NoQuay, kit_ref T.g_NoName T.s_NoWish_NoName, kit_ref T.g_NoTree T.s_NoWish_NoTree, kit_ref T.g_NoWishes T.s_NoWish_NoWishes, kit_ref T.g_TooMany T.s_NoWish_TooMany, kit_ref T.g_NoShip T.s_NoWish_NoShip, fun k' => match k' with | .text => kit_ref T.g_NoText T.s_NoWish_NoText | .taken => kit_ref T.g_Taken T.s_NoWish_Taken | .wish => kit_ref T.g_NoWish T.s_NoWish_NoWish | .room => kit_ref T.g_NoRoom T.s_NoWish_NoRoom⟩ | .room => ⟨exm_of T.g_BerthError T.s_NoRoom_BerthError, T.g_NoRoom.c, kit_ref T.g_NoCount T.s_NoRoom_NoCount, kit_ref T.g_NoOrder T.s_NoRoom_NoOrder, kit_ref T.g_NoQuay T.s_NoRoom_NoQuay, kit_ref T.g_NoName T.s_NoRoom_NoName, kit_ref T.g_NoTree T.s_NoRoom_NoTree, kit_ref T.g_NoWishes T.s_NoRoom_NoWishes, kit_ref T.g_TooMany T.s_NoRoom_TooMany, kit_ref T.g_NoShip T.s_NoRoom_NoShip, fun k' => match k' with | .text => kit_ref T.g_NoText T.s_NoRoom_NoText | .taken => kit_ref T.g_Taken T.s_NoRoom_Taken | .wish => kit_ref T.g_NoWish T.s_NoRoom_NoWish | .room => kit_ref T.g_NoRoom T.s_NoRoom_NoRoom⟩) h⟩), bb⟩, gg, F.kp⟩
  exact (pss_cons (ps_if (PW.pt (pw_or (pt_val (pe_callB call_isiTE (by rfl) T.b_isinstance (by decide +kernel) (pa_cons (pv 0) (pa_cons (pe_tup (pa_cons (pe_glob (by rfl) T.e_NoCount.g rfl) (pa_cons (pe_glob (by rfl) T.e_NoOrder.g rfl) (pa_cons (pe_glob (by rfl) T.e_NoQuay.g rfl) pa_nil)))) pa_nil)))) (pw_or1 (pt_val (pe_callB call_isiTE (by rfl) T.b_isinstance (by decide +kernel) (pa_cons (pv 0) (pa_cons (pe_tup (pa_cons (pe_glob (by rfl) T.e_NoName.g rfl) (pa_cons (pe_glob (by rfl) T.e_NoTree.g rfl) pa_nil))) pa_nil))))))) (pss_one (ps_ret pe_str)) pss_nil)
    (pss_cons (ps_if (pt_val (pe_callB call_isiTE (by rfl) T.b_isinstance (by decide +kernel) (pa_cons (pv 0) (pa_cons (pe_tup (pa_cons (pe_glob (by rfl) T.e_NoWishes.g rfl) (pa_cons (pe_glob (by rfl) T.e_TooMany.g rfl) (pa_cons (pe_glob (by rfl) T.e_NoShip.g rfl) pa_nil)))) pa_nil)))) (pss_one (ps_ret pe_str)) pss_nil)
    (pss_cons (ps_set (i := 1) sc_l_words.nd rfl (by first | exact Or.inl rfl | exact Or.inr rfl) (pe_lst pa_nil))
    (pss_cons (ps_if (pt_val (pe_callB call_isiE (by rfl) T.b_isinstance (by decide +kernel) (pa_cons (pv 0) (pa_cons (pe_glob (by rfl) T.e_NoText.g rfl) pa_nil)))) (pss_one (ps_expr (pe_bm PySem.F.plainAttrs_list PySem.F.slot_list_append PySem.F.type_list_append mt_append (pv 1) (pa_cons pe_str pa_nil)))) pss_nil)
    (pss_cons (ps_if (pt_val (pe_callB call_isiE (by rfl) T.b_isinstance (by decide +kernel) (pa_cons (pv 0) (pa_cons (pe_glob (by rfl) T.e_Taken.g rfl) pa_nil)))) (pss_one (ps_expr (pe_bm PySem.F.plainAttrs_list PySem.F.slot_list_append PySem.F.type_list_append mt_append (pv 1) (pa_cons pe_str pa_nil)))) pss_nil)
    (pss_cons (ps_if (pt_val (pe_callB call_isiE (by rfl) T.b_isinstance (by decide +kernel) (pa_cons (pv 0) (pa_cons (pe_glob (by rfl) T.e_NoWish.g rfl) pa_nil)))) (pss_one (ps_expr (pe_bm PySem.F.plainAttrs_list PySem.F.slot_list_append PySem.F.type_list_append mt_append (pv 1) (pa_cons pe_str pa_nil)))) pss_nil)
    (pss_cons (ps_if (pt_val (pe_callB call_isiE (by rfl) T.b_isinstance (by decide +kernel) (pa_cons (pv 0) (pa_cons (pe_glob (by rfl) T.e_NoRoom.g rfl) pa_nil)))) (pss_one (ps_expr (pe_bm PySem.F.plainAttrs_list PySem.F.slot_list_append PySem.F.type_list_append mt_append (pv 1) (pa_cons pe_str pa_nil)))) pss_nil)
    (pss_one (ps_ret (pe_join pe_str (pv 1)))))))))))

abbrev s_l_read : Stmt := topS 39
theorem sc_l_read : FnScope N_l_read ["_law_text_here"] (defScope s_l_read) := ⟨rfl, rfl, rfl, by decide +kernel, rfl, by decide +kernel, by decide +kernel⟩
theorem ok_l_read (D : DF K mg "_law_read" s_l_read ["_law_text_here"] a.f_l_read) (T : Txt K mg a) (g_read : Cb P w K mg base (L2.CX P w) 7 "read" a.f_read ["text"] (sp_read K a)) (g_l_words : Cb P w K mg base CX0 1 "_law_words" a.f_l_words ["_law_e"] (sp_l_words K a)) : Cb P w K mg base CX0 8 "_law_read" a.f_l_read ["_law_text_here"] (sp_l_read K a) := by
  obtain ⟨⟨fd, F, bb⟩, gg⟩ := D
  refine ⟨⟨fd, F.ok sc_l_read (fun vs H Q E h => len_l_read h) (fun cdv A outer s H vs Q E hr h => ⟨t_l_read K a, ?_, pu_l_read (fun k => match k with | .text => ⟨exm_of T.g_BerthError T.s_NoText_BerthError, T.g_NoText.c, kit_ref T.g_NoCount T.s_NoText_NoCount, kit_ref T.g_NoOrder T.s_NoText_NoOrder, kit_ref T.g_NoQuay T.s_NoText_NoQuay, kit_ref T.g_NoName T.s_NoText_NoName, kit_ref T.g_NoTree T.s_NoText_NoTree, kit_ref T.g_NoWishes T.s_NoText_NoWishes, kit_ref T.g_TooMany T.s_NoText_TooMany, kit_ref T.g_NoShip T.s_NoText_NoShip, fun k' => match k' with | .text => kit_ref T.g_NoText T.s_NoText_NoText | .taken => kit_ref T.g_Taken T.s_NoText_Taken | .wish => kit_ref T.g_NoWish T.s_NoText_NoWish | .room => kit_ref T.g_NoRoom T.s_NoText_NoRoom⟩ | .taken => ⟨exm_of T.g_BerthError T.s_Taken_BerthError, T.g_Taken.c, kit_ref T.g_NoCount T.s_Taken_NoCount, kit_ref T.g_NoOrder T.s_Taken_NoOrder, kit_ref T.g_NoQuay T.s_Taken_NoQuay, kit_ref T.g_NoName T.s_Taken_NoName, kit_ref T.g_NoTree T.s_Taken_NoTree, kit_ref T.g_NoWishes T.s_Taken_NoWishes, kit_ref T.g_TooMany T.s_Taken_TooMany, kit_ref T.g_NoShip T.s_Taken_NoShip, fun k' => match k' with | .text => kit_ref T.g_NoText T.s_Taken_NoText | .taken => kit_ref T.g_Taken T.s_Taken_Taken | .wish => kit_ref T.g_NoWish T.s_Taken_NoWish | .room => kit_ref T.g_NoRoom T.s_Taken_NoRoom⟩ | .wish => ⟨exm_of T.g_BerthError T.s_NoWish_BerthError, T.g_NoWish.c, kit_ref T.g_NoCount T.s_NoWish_NoCount, kit_ref T.g_NoOrder T.s_NoWish_NoOrder, kit_ref T.g_NoQuay T.s_NoWish_NoQuay, kit_ref T.g_NoName T.s_NoWish_NoName, kit_ref T.g_NoTree T.s_NoWish_NoTree, kit_ref T.g_NoWishes T.s_NoWish_NoWishes, kit_ref T.g_TooMany T.s_NoWish_TooMany, kit_ref T.g_NoShip T.s_NoWish_NoShip, fun k' => match k' with | .text => kit_ref T.g_NoText T.s_NoWish_NoText | .taken => kit_ref T.g_Taken T.s_NoWish_Taken | .wish => kit_ref T.g_NoWish T.s_NoWish_NoWish | .room => kit_ref T.g_NoRoom T.s_NoWish_NoRoom⟩ | .room => ⟨exm_of T.g_BerthError T.s_NoRoom_BerthError, T.g_NoRoom.c, kit_ref T.g_NoCount T.s_NoRoom_NoCount, kit_ref T.g_NoOrder T.s_NoRoom_NoOrder, kit_ref T.g_NoQuay T.s_NoRoom_NoQuay, kit_ref T.g_NoName T.s_NoRoom_NoName, kit_ref T.g_NoTree T.s_NoRoom_NoTree, kit_ref T.g_NoWishes T.s_NoRoom_NoWishes, kit_ref T.g_TooMany T.s_NoRoom_TooMany, kit_ref T.g_NoShip T.s_NoRoom_NoShip, fun k' => match k' with | .text => kit_ref T.g_NoText T.s_NoRoom_NoText | .taken => kit_ref T.g_Taken T.s_NoRoom_Taken | .wish => kit_ref T.g_NoWish T.s_NoRoom_NoWish | .room => kit_ref T.g_NoRoom T.s_NoRoom_NoRoom⟩) h⟩), bb⟩, gg, F.kp⟩
  exact (pss_cons (ps_set (i := 1) sc_l_read.nd rfl (by first | exact Or.inl rfl | exact Or.inr rfl) pe_non)
    (pss_cons (ps_set (i := 2) sc_l_read.nd rfl (by first | exact Or.inl rfl | exact Or.inr rfl) pe_non)
    (pss_cons (ps_try_keep (i := 3) (j := 2) (tb := fun W => (tAsg (tCallS (sp_read K a) (WE W) (tCons (tVar 0) tNil)) (gName 1))) rfl rfl rfl sc_l_read.nd rfl rfl ⟨rfl, by decide, .inl T.e_BerthError.g⟩ (fun W pn xe tk _ => (pss_one (ps_set (i := 1) sc_l_read.nd rfl (by first | exact Or.inl rfl | exact Or.inr rfl) (pe_cbS g_read (hr.mono (by decide)) (by rfl) (fun s => passAt tk s) (pa_cons (pv 0) pa_nil))))) (fun _ _ _ _ _ _ _ => pss_one (ps_set (i := 2) sc_l_read.nd rfl (.inl rfl) (pv 3))))
    (pss_one (ps_ret (pe_ifExp (pt_cmp (pc_isN (pv 2)) rfl) (pv 1) (pe_cb g_l_words (hr.mono (by decide)) (by rfl) pass0 (pa_cons (pv 2) pa_nil))))))))

abbrev s_l_text : Stmt := topS 40
theorem sc_l_text : FnScope N_l_text ["_law_quay"] (defScope s_l_text) := ⟨rfl, rfl, rfl, by decide +kernel, rfl, by decide +kernel, by decide +kernel⟩
theorem ok_l_text (D : DF K mg "_law_text" s_l_text ["_law_quay"] a.f_l_text) (T : Txt K mg a) (G_all_ships : ∀ b, Mb P w K mg base CX0 2 (a.cls b) "all_ships" ((fun b => if b = true then a.f_R_all_ships else a.f_Q_all_ships) b) ["self"] (sp_M_all_ships K a b)) (G_size : ∀ b, Mb P w K mg base CX0 2 (a.cls b) "size" ((fun b => if b = true then a.f_R_size else a.f_Q_size) b) ["self"] (sp_M_size K a b)) (G_kind : ∀ b, Mb P w K mg base CX0 1 (a.cls b) "kind" ((fun b => if b = true then a.f_R_kind else a.f_Q_kind) b) ["self"] (sp_M_kind K a b)) : Cb P w K mg base CX0 3 "_law_text" a.f_l_text ["_law_quay"] (sp_l_text K a) := by
  obtain ⟨⟨fd, F, bb⟩, gg⟩ := D
  refine ⟨⟨fd, F.ok sc_l_text (fun vs H Q E h => len_l_text h) (fun cdv A outer s H vs Q E hr h => ⟨t_l_text K a, ?_, pu_l_text h⟩), bb⟩, gg, F.kp⟩
  exact (pss_cons (ps_set (i := 1) sc_l_text.nd rfl (by first | exact Or.inl rfl | exact Or.inr rfl) (pe_lst (pa_cons (pe_op op_add_str (pe_op op_add_str (pe_mbB0 G_kind (fun b => (T.cl b).cl) (hr.mono (by decide)) (fun s => passOf pass0 s) (pv 0)) pe_str) (pe_callTy call_str_int (by rfl) T.b_str (by decide +kernel) (pa_cons (pe_mbB0 G_size (fun b => (T.cl b).cl) (hr.mono (by decide)) (fun s => passOf pass0 s) (pv 0)) pa_nil))) pa_nil)))
    (pss_cons (ps_for PassesOwn.never rfl (pi_list (pe_mbB0 G_all_ships (fun b => (T.cl b).cl) (hr.mono (by decide)) (fun s => passOf pass0 s) (pv 0))) (pg_tup rfl (pgs_cons (pg_name (i := 2) sc_l_text.nd rfl (by first | exact Or.inl rfl | exact Or.inr rfl)) (pgs_cons (pg_name (i := 3) sc_l_text.nd rfl (by first | exact Or.inl rfl | exact Or.inr rfl)) (pgs_cons (pg_name (i := 4) sc_l_text.nd rfl (by first | exact Or.inl rfl | exact Or.inr rfl)) pgs_nil))))
    (pss_one (ps_expr (pe_bm PySem.F.plainAttrs_list PySem.F.slot_list_append PySem.F.type_list_append mt_append (pv 1) (pa_cons (pe_op op_add_str (pe_op op_add_str (pv 2) pe_str) (pe_callTy call_str_int (by rfl) T.b_str (by decide +kernel) (pa_cons (pv 3) pa_nil))) pa_nil)))))
    (pss_one (ps_ret (pe_join pe_str (pe_lc (own := [("_law_row", 5)]) rfl sc_l_text.nd (pi_list (pv 1)) (blkOk_by (N := N_l_text) (sc := defScope s_l_text) (by decide +kernel)) (fun _ _ _ _ _ => (pg_name (i := 5) sc_l_text.nd rfl (by first | exact Or.inl rfl | exact Or.inr rfl))) (fun _ _ _ _ _ => pts_nil) (fun _ _ _ _ _ => (pe_op op_add_str (pv 5) pe_str))))))))

abbrev s_l_drawn : Stmt := topS 41
theorem sc_l_drawn : FnScope N_l_drawn ["_law_script"] (defScope s_l_drawn) := ⟨rfl, rfl, rfl, by decide +kernel, rfl, by decide +kernel, by decide +kernel⟩
theorem ok_l_drawn (D : DF K mg "_law_drawn" s_l_drawn ["_law_script"] a.f_l_drawn) (T : Txt K mg a) (G_Q_init : ∀ b, ∃ fd, FnOk P w K mg base (L2.CX P w) 4 a.f_Q_init fd ["self", "berths"] (sp_M_init K a b) ∧ Binds K fd ["self", "berths"] []) (G_come : ∀ b, Mb P w K mg base (L2.CX P w) 5 (a.cls b) "come" ((fun b => if b = true then a.f_R_come else a.f_Q_come) b) ["self", "name", "wish"] (sp_M_come K a b)) (G_leave : ∀ b, Mb P w K mg base (L2.CX P w) 5 (a.cls b) "leave" ((fun b => if b = true then a.f_R_leave else a.f_Q_leave) b) ["self", "name"] (sp_M_leave K a b)) (G_all_ships : ∀ b, Mb P w K mg base CX0 2 (a.cls b) "all_ships" ((fun b => if b = true then a.f_R_all_ships else a.f_Q_all_ships) b) ["self"] (sp_M_all_ships K a b)) (G_free_ones : ∀ b, Mb P w K mg base CX0 3 (a.cls b) "free_ones" ((fun b => if b = true then a.f_R_free_ones else a.f_Q_free_ones) b) ["self"] (sp_M_free_ones K a b)) (G_kind : ∀ b, Mb P w K mg base CX0 1 (a.cls b) "kind" ((fun b => if b = true then a.f_R_kind else a.f_Q_kind) b) ["self"] (sp_M_kind K a b)) (G_R_init : ∃ fd, FnOk P w K mg base (L2.CX P w) 5 a.f_R_init fd ["self", "berths"] (sp_M_init K a true) ∧ Binds K fd ["self", "berths"] []) (g_l_cell_at : Cb P w K mg base CX0 1 "_law_cell_at" a.f_l_cell_at ["_law_script", "_law_k"] (sp_l_cell_at K)) (g_l_mix : Cb P w K mg base CX0 1 "_law_mix" a.f_l_mix ["_law_state", "_law_cell"] (sp_l_mix K)) : Cb P w K mg base CX0 7 "_law_drawn" a.f_l_drawn ["_law_script"] (sp_l_drawn K a) := by
  obtain ⟨⟨fd, F, bb⟩, gg⟩ := D
  refine ⟨⟨fd, F.ok sc_l_drawn (fun vs H Q E h => len_l_drawn h) (fun cdv A outer s H vs Q E hr h => ⟨t_l_drawn K a, ?_, pu_l_drawn h⟩), bb⟩, gg, F.kp⟩
  exact (pss_cons (ps_set (i := 1) sc_l_drawn.nd rfl (by first | exact Or.inl rfl | exact Or.inr rfl) (pe_lst (pa_cons (pe_op op_add pe_int (pe_op op_mod (pe_cb g_l_cell_at (hr.mono (by decide)) (by rfl) pass0 (pa_cons (pv 0) (pa_cons pe_int pa_nil))) pe_int)) pa_nil)))
    (pss_cons (ps_set (i := 2) sc_l_drawn.nd rfl (by first | exact Or.inl rfl | exact Or.inr rfl) (pe_cb g_l_cell_at (hr.mono (by decide)) (by rfl) pass0 (pa_cons (pv 0) (pa_cons pe_int pa_nil))))
    (pss_cons (ps_set (i := 3) sc_l_drawn.nd rfl (by first | exact Or.inl rfl | exact Or.inr rfl) (pe_ix ix_list (pe_lst (pa_cons (pe_op op_add pe_int (pe_op op_mod (pv 2) pe_int)) (pa_cons (pe_op op_add pe_int (pe_op op_mod (pe_op op_fdiv (pv 2) pe_int) pe_int)) pa_nil))) (pe_op op_fdiv (pe_op op_mod (pe_cb g_l_mix (hr.mono (by decide)) (by rfl) pass0 (pa_cons (pv 1) (pa_cons pe_int pa_nil))) pe_int) pe_int) (fun _ _ => rfl)))
    (pss_cons (ps_set (i := 4) sc_l_drawn.nd rfl (by first | exact Or.inl rfl | exact Or.inr rfl) (pe_mk T.mk_Quay (G_Q_init false) T.m_Quay (hr.mono (by decide)) (by rfl) (fun s => passOf passL s) (pa_cons (pv 3) pa_nil)))
    (pss_cons (ps_if (pt_cmpR op_eq (pe_op op_mod (pe_cb g_l_mix (hr.mono (by decide)) (by rfl) pass0 (pa_cons (pv 1) (pa_cons pe_int pa_nil))) pe_int) pe_int (nomark _)) (pss_one (ps_set (i := 4) sc_l_drawn.nd rfl (by first | exact Or.inl rfl | exact Or.inr rfl) (pe_mk T.mk_Round G_R_init T.m_Round (hr.mono (by decide)) (by rfl) (fun s => passOf passL s) (pa_cons (pv 3) pa_nil)))) pss_nil)
    (pss_cons (ps_for PassesOwn.never rfl (pi_list (pe_slice sl_list (pv 0) po_none (po_some pe_int))) (pg_name (i := 5) sc_l_drawn.nd rfl (by first | exact Or.inl rfl | exact Or.inr rfl))
    (pss_cons (ps_set (i := 6) sc_l_drawn.nd rfl (by first | exact Or.inl rfl | exact Or.inr rfl) (pe_cb g_l_mix (hr.mono (by decide)) (by rfl) pass0 (pa_cons (pv 1) (pa_cons (pv 5) pa_nil))))
    (pss_cons (ps_set (i := 7) sc_l_drawn.nd rfl (by first | exact Or.inl rfl | exact Or.inr rfl) (pe_ix ix_list (pe_lst (pa_cons pe_str (pa_cons pe_str (pa_cons pe_str (pa_cons pe_str (pa_cons pe_str (pa_cons pe_str (pa_cons pe_str (pa_cons pe_str (pa_cons pe_str pa_nil)))))))))) (pe_op op_mod (pv 6) pe_int) (fun _ _ => rfl)))
    (pss_cons (ps_setLc (i := 8) (own := [("_law_one", 12), ("_law_wish", 9), ("_law_berth", 13)]) rfl sc_l_drawn.nd rfl rfl (sw_true rfl rfl rfl (by decide +kernel)) (pi_list (pe_mbB0 G_all_ships (fun b => (T.cl b).cl) (hr.mono (by decide)) (fun s => passOf pass0 s) (pv 4))) (blkOk_by (N := N_l_drawn) (sc := defScope s_l_drawn) (by decide +kernel)) (fun _ _ _ _ _ => (pg_tup rfl (pgs_cons (pg_name (i := 12) sc_l_drawn.nd rfl (by first | exact Or.inl rfl | exact Or.inr rfl)) (pgs_cons (pg_name (i := 9) sc_l_drawn.nd rfl (by first | exact Or.inl rfl | exact Or.inr rfl)) (pgs_cons (pg_name (i := 13) sc_l_drawn.nd rfl (by first | exact Or.inl rfl | exact Or.inr rfl)) pgs_nil))))) (fun _ _ _ _ _ => (pts_one (pt_cmpR op_eq (pv 12) (pv 7) (nomark _)))) (fun _ _ _ _ _ => (pv 12)))
    (pss_cons (ps_if (PW.pt (pw_and (pt_cmpR (op_neT hr.units) (pv 8) (pe_lst pa_nil) (nomark _)) (pw_and1 (pt_cmpR op_eq (pe_op op_mod (pe_op op_fdiv (pv 6) pe_int) pe_int) pe_int (nomark _))))) (pss_one (ps_expr (pe_mbB G_leave (fun b => (T.cl b).cl) (hr.mono (by decide)) (fun s => passOf passL s) (pv 4) (pa_cons (pv 7) pa_nil)))) pss_nil)
    (pss_cons (ps_set (i := 9) sc_l_drawn.nd rfl (by first | exact Or.inl rfl | exact Or.inr rfl) (pe_op op_add pe_int (pe_op op_mod (pe_op op_fdiv (pv 6) pe_int) (pv 3))))
    (pss_cons (ps_set (i := 10) sc_l_drawn.nd rfl (by first | exact Or.inl rfl | exact Or.inr rfl) (pe_mbB0 G_free_ones (fun b => (T.cl b).cl) (hr.mono (by decide)) (fun s => passOf pass0 s) (pv 4)))
    (pss_cons (ps_setLc (i := 11) (own := [("_law_berth", 13)]) rfl sc_l_drawn.nd rfl rfl (sw_true rfl rfl rfl (by decide +kernel)) (pi_list (pv 10)) (blkOk_by (N := N_l_drawn) (sc := defScope s_l_drawn) (by decide +kernel)) (fun _ _ _ _ _ => (pg_name (i := 13) sc_l_drawn.nd rfl (by first | exact Or.inl rfl | exact Or.inr rfl))) (fun _ _ _ _ _ => (pts_one (PW.pt (pw_or (pt_cmpR op_ge (pv 13) (pv 9) (nomark _)) (pw_or1 (pt_cmpR op_eq (pe_mbB0 G_kind (fun b => (T.cl b).cl) (hr.mono (by decide)) (fun s => passOf pass0 s) (pv 4)) pe_str (nomark _))))))) (fun _ _ _ _ _ => (pv 13)))
    (pss_one (ps_if (PW.pt (pw_and (pt_cmpR (op_eqT hr.units) (pv 8) (pe_lst pa_nil) (nomark _)) (pw_and1 (pt_cmpR (op_neT hr.units) (pv 11) (pe_lst pa_nil) (nomark _))))) (pss_one (ps_expr (pe_mbB G_come (fun b => (T.cl b).cl) (hr.mono (by decide)) (fun s => passOf passL s) (pv 4) (pa_cons (pv 7) (pa_cons (pv 9) pa_nil))))) pss_nil))))))))))
    (pss_one (ps_ret (pv 4)))))))))

abbrev s_l_odd_text : Stmt := topS 42
theorem sc_l_odd_text : FnScope N_l_odd_text ["_law_text_here", "_law_quay", "_law_cell"] (defScope s_l_odd_text) := ⟨rfl, rfl, rfl, by decide +kernel, rfl, by decide +kernel, by decide +kernel⟩
theorem ok_l_odd_text (D : DF K mg "_law_odd_text" s_l_odd_text ["_law_text_here", "_law_quay", "_law_cell"] a.f_l_odd_text) (T : Txt K mg a) (G_size : ∀ b, Mb P w K mg base CX0 2 (a.cls b) "size" ((fun b => if b = true then a.f_R_size else a.f_Q_size) b) ["self"] (sp_M_size K a b)) : Cb P w K mg base CX0 3 "_law_odd_text" a.f_l_odd_text ["_law_text_here", "_law_quay", "_law_cell"] (sp_l_odd_text K a) := by
  obtain ⟨⟨fd, F, bb⟩, gg⟩ := D
  refine ⟨⟨fd, F.ok sc_l_odd_text (fun vs H Q E h => len_l_odd_text h) (fun cdv A outer s H vs Q E hr h => ⟨t_l_odd_text K a, ?_, pu_l_odd_text h⟩), bb⟩, gg, F.kp⟩
  exact (pss_cons (ps_set (i := 3) sc_l_odd_text.nd rfl (by first | exact Or.inl rfl | exact Or.inr rfl) (pe_slice sl_list (pe_split (pv 0) pe_str) po_none (po_some (pe_un un_neg pe_int))))
    (pss_cons (ps_set (i := 4) sc_l_odd_text.nd rfl (by first | exact Or.inl rfl | exact Or.inr rfl) (pe_op op_mod (pv 2) (pe_callB call_len_seq (by rfl) T.b_len (by decide +kernel) (pa_cons (pv 3) pa_nil))))
    (pss_cons (ps_set (i := 5) sc_l_odd_text.nd rfl (by first | exact Or.inl rfl | exact Or.inr rfl) (pe_callTy call_str_int (by rfl) T.b_str (by decide +kernel) (pa_cons (pe_mbB0 G_size (fun b => (T.cl b).cl) (hr.mono (by decide)) (fun s => passOf pass0 s) (pv 1)) pa_nil)))
    (pss_cons (ps_set (i := 6) sc_l_odd_text.nd rfl (by first | exact Or.inl rfl | exact Or.inr rfl) (pe_lst (pa_cons pe_str (pa_cons pe_str (pa_cons pe_str (pa_cons pe_str (pa_cons pe_str (pa_cons pe_str (pa_cons pe_str (pa_cons pe_str (pa_cons pe_str pa_nil)))))))))))
    (pss_cons (ps_set (i := 6) sc_l_odd_text.nd rfl (by first | exact Or.inl rfl | exact Or.inr rfl) (pe_op op_cat (pv 6) (pe_lst (pa_cons pe_str (pa_cons pe_str pa_nil)))))
    (pss_cons (ps_if (pt_cmpR op_eq (pe_op op_mod (pe_op op_fdiv (pv 2) pe_int) pe_int) pe_int (nomark _)) (pss_cons (ps_asg (pe_ix ix_list (pv 6) (pe_op op_mod (pe_op op_fdiv (pv 2) pe_int) pe_int) (fun _ _ => rfl)) (pg_sub (pv 3) pe_int set_list))
    (pss_one (ps_ret (pe_op op_add_str (pe_join pe_str (pv 3)) pe_str)))) pss_nil)
    (pss_cons (ps_set (i := 7) sc_l_odd_text.nd rfl (by first | exact Or.inl rfl | exact Or.inr rfl) (pe_lst (pa_cons pe_str (pa_cons pe_str (pa_cons pe_str (pa_cons pe_str (pa_cons pe_str (pa_cons pe_str (pa_cons pe_str (pa_cons pe_str (pa_cons pe_str (pa_cons pe_str (pa_cons pe_str (pa_cons pe_str pa_nil))))))))))))))
    (pss_cons (ps_set (i := 7) sc_l_odd_text.nd rfl (by first | exact Or.inl rfl | exact Or.inr rfl) (pe_op op_cat (pv 7) (pe_lst (pa_cons pe_str (pa_cons pe_str pa_nil)))))
    (pss_cons (ps_expr (pe_bm PySem.F.plainAttrs_list PySem.F.slot_list_insert PySem.F.type_list_insert mt_insert (pv 3) (pa_cons (pe_op op_add (pv 4) pe_int) (pa_cons (pe_ix ix_list (pv 7) (pe_op op_mod (pe_op op_fdiv (pv 2) pe_int) pe_int) (fun _ _ => rfl)) pa_nil))))
    (pss_one (ps_ret (pe_ix ix_list (pe_lst (pa_cons (pe_op op_add_str (pe_join pe_str (pv 3)) pe_str) (pa_cons (pe_join pe_str (pe_slice sl_list (pv 3) po_none (po_some (pe_op op_add (pv 4) pe_int)))) pa_nil))) (pe_callTy call_int1 (by rfl) T.b_int (by decide +kernel) (pa_cons (pe_cmpR op_eq (pe_op op_mod (pe_op op_fdiv (pv 2) pe_int) pe_int) pe_int (nomark _)) pa_nil)) (fun _ _ => rfl)))))))))))))

abbrev s_law : Stmt := topS 43
theorem sc_law : FnScope N_law ["_law_script"] (defScope s_law) := ⟨rfl, rfl, rfl, by decide +kernel, rfl, by decide +kernel, by decide +kernel⟩
theorem ok_law {f : Addr} {fd : FuncData} (F : Fun K "law" "law" s_law f fd) (T : Txt K mg a) (G_all_ships : ∀ b, Mb P w K mg base CX0 2 (a.cls b) "all_ships" ((fun b => if b = true then a.f_R_all_ships else a.f_Q_all_ships) b) ["self"] (sp_M_all_ships K a b)) (G_free_ones : ∀ b, Mb P w K mg base CX0 3 (a.cls b) "free_ones" ((fun b => if b = true then a.f_R_free_ones else a.f_Q_free_ones) b) ["self"] (sp_M_free_ones K a b)) (G_size : ∀ b, Mb P w K mg base CX0 2 (a.cls b) "size" ((fun b => if b = true then a.f_R_size else a.f_Q_size) b) ["self"] (sp_M_size K a b)) (g_written : Cb P w K mg base CX0 3 "written" a.f_written ["quay"] (sp_written K a)) (g_read : Cb P w K mg base (L2.CX P w) 7 "read" a.f_read ["text"] (sp_read K a)) (g_l_read : Cb P w K mg base CX0 8 "_law_read" a.f_l_read ["_law_text_here"] (sp_l_read K a)) (g_l_text : Cb P w K mg base CX0 3 "_law_text" a.f_l_text ["_law_quay"] (sp_l_text K a)) (g_l_drawn : Cb P w K mg base CX0 7 "_law_drawn" a.f_l_drawn ["_law_script"] (sp_l_drawn K a)) (g_l_odd_text : Cb P w K mg base CX0 3 "_law_odd_text" a.f_l_odd_text ["_law_text_here", "_law_quay", "_law_cell"] (sp_l_odd_text K a)) : FnOk P w K mg base CX0 9 f fd ["_law_script"] (sp_law K) := by
  refine F.ok sc_law (fun vs H Q E h => len_law h) (fun cdv A outer s H vs Q E hr h => ⟨t_law K a, ?_, pu_law T.kd T.kk h⟩)
  exact (pss_cons (ps_set (i := 1) sc_law.nd rfl (by first | exact Or.inl rfl | exact Or.inr rfl) (pe_cb g_l_drawn (hr.mono (by decide)) (by rfl) pass0 (pa_cons (pv 0) pa_nil)))
    (pss_cons (ps_set (i := 2) sc_law.nd rfl (by first | exact Or.inl rfl | exact Or.inr rfl) (pe_cb g_written (hr.mono (by decide)) (by rfl) pass0 (pa_cons (pv 1) pa_nil)))
    (pss_cons (ps_if (PW.pt (pw_or (pt_not (pt_val (pe_callB call_isi (by rfl) T.b_isinstance (by decide +kernel) (pa_cons (pv 2) (pa_cons (pe_bltn (by rfl) T.b_str (by decide +kernel) rfl) pa_nil))))) (pw_or1 (pt_cmpR op_ne (pv 2) (pe_cb g_l_text (hr.mono (by decide)) (by rfl) pass0 (pa_cons (pv 1) pa_nil)) (nomark _))))) (pss_one (ps_ret pe_bl)) pss_nil)
    (pss_cons (ps_set (i := 3) sc_law.nd rfl (by first | exact Or.inl rfl | exact Or.inr rfl) (pe_cb g_read (hr.mono (by decide)) (by rfl) passL (pa_cons (pv 2) pa_nil)))
    (pss_cons (ps_set (i := 4) sc_law.nd rfl (by first | exact Or.inl rfl | exact Or.inr rfl) (pe_lst (pa_cons (pe_callB call_isi (by rfl) T.b_isinstance (by decide +kernel) (pa_cons (pv 3) (pa_cons (pe_glob (by rfl) T.m_Round rfl) pa_nil))) (pa_cons (pe_callB call_isi (by rfl) T.b_isinstance (by decide +kernel) (pa_cons (pv 1) (pa_cons (pe_glob (by rfl) T.m_Round rfl) pa_nil))) pa_nil))))
    (pss_cons (ps_if (PW.pt (pw_or (pt_not (pt_val (pe_callB call_isi (by rfl) T.b_isinstance (by decide +kernel) (pa_cons (pv 3) (pa_cons (pe_glob (by rfl) T.m_Quay rfl) pa_nil))))) (pw_or (pt_cmpR op_ne (pe_ix ix_list (pv 4) pe_int (fun _ _ => rfl)) (pe_ix ix_list (pv 4) pe_int (fun _ _ => rfl)) (nomark _)) (pw_or1 (pt_cmpR (op_neT hr.units) (pe_mbB0 G_all_ships (fun b => (T.cl b).cl) (hr.mono (by decide)) (fun s => passOf pass0 s) (pv 3)) (pe_mbB0 G_all_ships (fun b => (T.cl b).cl) (hr.mono (by decide)) (fun s => passOf pass0 s) (pv 1)) (nomark _)))))) (pss_one (ps_ret pe_bl)) pss_nil)
    (pss_cons (ps_if (PW.pt (pw_or (pt_cmpR op_ne (pe_mbB0 G_size (fun b => (T.cl b).cl) (hr.mono (by decide)) (fun s => passOf pass0 s) (pv 3)) (pe_mbB0 G_size (fun b => (T.cl b).cl) (hr.mono (by decide)) (fun s => passOf pass0 s) (pv 1)) (nomark _)) (pw_or (pt_cmpR (op_neT hr.units) (pe_mbB0 G_free_ones (fun b => (T.cl b).cl) (hr.mono (by decide)) (fun s => passOf pass0 s) (pv 3)) (pe_mbB0 G_free_ones (fun b => (T.cl b).cl) (hr.mono (by decide)) (fun s => passOf pass0 s) (pv 1)) (nomark _)) (pw_or1 (pt_cmpR op_ne (pe_cb g_written (hr.mono (by decide)) (by rfl) pass0 (pa_cons (pv 3) pa_nil)) (pv 2) (nomark _)))))) (pss_one (ps_ret pe_bl)) pss_nil)
    (pss_cons (ps_for PassesOwn.never rfl (pi_list (pe_op op_cat (pe_lst (pa_cons pe_int pa_nil)) (pe_slice sl_list (pv 0) po_none (po_some pe_int)))) (pg_name (i := 5) sc_law.nd rfl (by first | exact Or.inl rfl | exact Or.inr rfl))
    (pss_one (ps_if (pt_cmpR op_ne (pe_cb g_l_read (hr.mono (by decide)) (by rfl) pass0 (pa_cons (pe_cb g_l_odd_text (hr.mono (by decide)) (by rfl) pass0 (pa_cons (pv 2) (pa_cons (pv 1) (pa_cons (pe_op op_mod (pv 5) (pe_op op_pow pe_int pe_int)) pa_nil)))) pa_nil)) pe_str (nomark _)) (pss_one (ps_ret pe_bl)) pss_nil)))
    (pss_cons (ps_for PassesOwn.never rfl (pi_list (pe_lst (pa_cons pe_non (pa_cons pe_int (pa_cons pe_str (pa_cons pe_str (pa_cons (pe_lst (pa_cons (pv 2) pa_nil)) (pa_cons pe_str (pa_cons (pe_op op_add_str (pv 2) pe_str) (pa_cons (pe_op op_add_str pe_str (pv 2)) (pa_cons (pe_slice sl_str (pv 2) po_none (po_some (pe_un un_neg pe_int))) pa_nil))))))))))) (pg_name (i := 6) sc_law.nd rfl (by first | exact Or.inl rfl | exact Or.inr rfl))
    (pss_one (ps_if (pt_cmpR op_ne (pe_cb g_l_read (hr.mono (by decide)) (by rfl) pass0 (pa_cons (pv 6) pa_nil)) pe_str (nomark _)) (pss_one (ps_ret pe_bl)) pss_nil)))
    (pss_cons (ps_set (i := 7) sc_law.nd rfl (by first | exact Or.inl rfl | exact Or.inr rfl) pe_str)
    (pss_cons (ps_setLc (i := 8) (own := [("_law_more", 9)]) rfl sc_law.nd rfl rfl (sw_true rfl rfl rfl (by decide +kernel)) (pi_list (pe_lst (pa_cons pe_str (pa_cons pe_str (pa_cons pe_str (pa_cons pe_str (pa_cons pe_str pa_nil))))))) (blkOk_by (N := N_law) (sc := defScope s_law) (by decide +kernel)) (fun _ _ _ _ _ => (pg_name (i := 9) sc_law.nd rfl (by first | exact Or.inl rfl | exact Or.inr rfl))) (fun _ _ _ _ _ => pts_nil) (fun _ _ _ _ _ => (pe_cb g_l_read (hr.mono (by decide)) (by rfl) pass0 (pa_cons (pe_op op_add_str (pv 7) (pv 9)) pa_nil))))
    (pss_cons (ps_if (pt_cmpR (op_neT hr.units) (pv 8) (pe_lst (pa_cons pe_str (pa_cons pe_str (pa_cons pe_str (pa_cons pe_str (pa_cons pe_str pa_nil)))))) (nomark _)) (pss_one (ps_ret pe_bl)) pss_nil)
    (pss_one (ps_ret (pe_cmpR (op_eqT hr.units) (pe_mbB0 G_all_ships (fun b => (T.cl b).cl) (hr.mono (by decide)) (fun s => passOf pass0 s) (pe_cb g_read (hr.mono (by decide)) (by rfl) passL (pa_cons pe_str pa_nil))) (pe_lst (pa_cons (pe_tup (pa_cons pe_str (pa_cons pe_int (pa_cons pe_int pa_nil)))) (pa_cons (pe_tup (pa_cons pe_str (pa_cons pe_int (pa_cons pe_int pa_nil)))) pa_nil))) (nomark _))))))))))))))))
end
theorem all_mk {P : Program} {w : World} {K : PySem.W.Frag} {h : Heap} {mg : Str → Option Value} {fa : Addr} (X : K.In h) (G : h.Ns mainGlobals mg) (hfa : mg "law" = some (.ref fa))
    {f_is_number f_is_from_to f_is_name f_check_quay f_first_free f_first_free_round f_Q_init f_p_check_name f_Q_first_free f_R_first_free f_Q_held f_Q_come f_Q_check_there f_Q_all_ships f_R_all_ships f_Q_leave f_Q_where f_Q_free_ones f_Q_size f_Q_kind f_R_init f_R_come f_R_leave f_R_where f_R_free_ones f_R_size f_R_kind f_written f_p_number f_p_pair f_p_parts f_read f_l_cell_at f_l_mix f_l_words f_l_read f_l_text f_l_drawn f_l_odd_text f_law e_BerthError e_NoCount e_NoName e_NoOrder e_NoQuay e_NoRoom e_NoShip e_NoText e_NoTree e_NoWish e_NoWishes e_Taken e_TooMany c_Quay c_Round cr_R_all_ships cc_R_all_ships cr_R_come cc_R_come cr_R_leave cc_R_leave cr_R_where cc_R_where cr_R_free_ones cc_R_free_ones cr_R_size cc_R_size : Addr}
    {od_is_number an_is_number od_is_from_to an_is_from_to od_is_name an_is_name od_check_quay an_check_quay od_first_free an_first_free od_first_free_round an_first_free_round od_Q_init an_Q_init od_p_check_name an_p_check_name od_Q_first_free an_Q_first_free od_R_first_free an_R_first_free od_Q_held an_Q_held od_Q_come an_Q_come od_Q_check_there an_Q_check_there od_Q_all_ships an_Q_all_ships od_R_all_ships an_R_all_ships od_Q_leave an_Q_leave od_Q_where an_Q_where od_Q_free_ones an_Q_free_ones od_Q_size an_Q_size od_Q_kind an_Q_kind od_R_init an_R_init od_R_come an_R_come od_R_leave an_R_leave od_R_where an_R_where od_R_free_ones an_R_free_ones od_R_size an_R_size od_R_kind an_R_kind od_written an_written od_p_number an_p_number od_p_pair an_p_pair od_p_parts an_p_parts od_read an_read od_l_cell_at an_l_cell_at od_l_mix an_l_mix od_l_words an_l_words od_l_read an_l_read od_l_text an_l_text od_l_drawn an_l_drawn od_l_odd_text an_l_odd_text od_law an_law oh_R_all_ships of_R_all_ships oh_R_come of_R_come oh_R_leave of_R_leave oh_R_where of_R_where oh_R_free_ones of_R_free_ones oh_R_size of_R_size : Option Addr}
    {sl_is_number sl_is_from_to sl_is_name sl_check_quay sl_first_free sl_first_free_round sl_Q_init sl_p_check_name sl_Q_first_free sl_R_first_free sl_Q_held sl_Q_come sl_Q_check_there sl_Q_all_ships sl_R_all_ships sl_Q_leave sl_Q_where sl_Q_free_ones sl_Q_size sl_Q_kind sl_R_init sl_R_come sl_R_leave sl_R_where sl_R_free_ones sl_R_size sl_R_kind sl_written sl_p_number sl_p_pair sl_p_parts sl_read sl_l_cell_at sl_l_mix sl_l_words sl_l_read sl_l_text sl_l_drawn sl_l_odd_text sl_law sh_R_all_ships sf_R_all_ships sh_R_come sf_R_come sh_R_leave sf_R_leave sh_R_where sf_R_where sh_R_free_ones sf_R_free_ones sh_R_size sf_R_size : Array (Option Value)}
    {oc_is_number kV_is_number dc_is_number pm_is_number cd_is_number ct_is_number oc_is_from_to kV_is_from_to dc_is_from_to pm_is_from_to cd_is_from_to ct_is_from_to oc_is_name kV_is_name dc_is_name pm_is_name cd_is_name ct_is_name oc_check_quay kV_check_quay dc_check_quay pm_check_quay cd_check_quay ct_check_quay oc_first_free kV_first_free dc_first_free pm_first_free cd_first_free ct_first_free oc_first_free_round kV_first_free_round dc_first_free_round pm_first_free_round cd_first_free_round ct_first_free_round oc_Q_init kV_Q_init dc_Q_init pm_Q_init cd_Q_init ct_Q_init oc_p_check_name kV_p_check_name dc_p_check_name pm_p_check_name cd_p_check_name ct_p_check_name oc_Q_first_free kV_Q_first_free dc_Q_first_free pm_Q_first_free cd_Q_first_free ct_Q_first_free oc_R_first_free kV_R_first_free dc_R_first_free pm_R_first_free cd_R_first_free ct_R_first_free oc_Q_held kV_Q_held dc_Q_held pm_Q_held cd_Q_held ct_Q_held kV_Q_come dc_Q_come pm_Q_come cd_Q_come ct_Q_come oc_Q_check_there kV_Q_check_there dc_Q_check_there pm_Q_check_there cd_Q_check_there ct_Q_check_there kV_Q_all_ships dc_Q_all_ships pm_Q_all_ships cd_Q_all_ships ct_Q_all_ships oc_R_all_ships kV_R_all_ships dc_R_all_ships pm_R_all_ships ct_R_all_ships kV_Q_leave dc_Q_leave pm_Q_leave cd_Q_leave ct_Q_leave kV_Q_where dc_Q_where pm_Q_where cd_Q_where ct_Q_where kV_Q_free_ones dc_Q_free_ones pm_Q_free_ones cd_Q_free_ones ct_Q_free_ones kV_Q_size dc_Q_size pm_Q_size cd_Q_size ct_Q_size oc_Q_kind kV_Q_kind dc_Q_kind pm_Q_kind cd_Q_kind ct_Q_kind oc_R_init kV_R_init dc_R_init pm_R_init cd_R_init ct_R_init oc_R_come kV_R_come dc_R_come pm_R_come ct_R_come oc_R_leave kV_R_leave dc_R_leave pm_R_leave ct_R_leave oc_R_where kV_R_where dc_R_where pm_R_where ct_R_where oc_R_free_ones kV_R_free_ones dc_R_free_ones pm_R_free_ones ct_R_free_ones oc_R_size kV_R_size dc_R_size pm_R_size ct_R_size oc_R_kind kV_R_kind dc_R_kind pm_R_kind cd_R_kind ct_R_kind oc_written kV_written dc_written pm_written cd_written ct_written oc_p_number kV_p_number dc_p_number pm_p_number cd_p_number ct_p_number oc_p_pair kV_p_pair dc_p_pair pm_p_pair cd_p_pair ct_p_pair oc_p_parts kV_p_parts dc_p_parts pm_p_parts cd_p_parts ct_p_parts oc_read kV_read dc_read pm_read cd_read ct_read oc_l_cell_at kV_l_cell_at dc_l_cell_at pm_l_cell_at cd_l_cell_at ct_l_cell_at oc_l_mix kV_l_mix dc_l_mix pm_l_mix cd_l_mix ct_l_mix oc_l_words kV_l_words dc_l_words pm_l_words cd_l_words ct_l_words oc_l_read kV_l_read dc_l_read pm_l_read cd_l_read ct_l_read oc_l_text kV_l_text dc_l_text pm_l_text cd_l_text ct_l_text oc_l_drawn kV_l_drawn dc_l_drawn pm_l_drawn cd_l_drawn ct_l_drawn oc_l_odd_text kV_l_odd_text dc_l_odd_text pm_l_odd_text cd_l_odd_text ct_l_odd_text oc_law kV_law dc_law pm_law cd_law ct_law och_R_all_ships ocf_R_all_ships och_R_come ocf_R_come och_R_leave ocf_R_leave och_R_where ocf_R_where och_R_free_ones ocf_R_free_ones och_R_size ocf_R_size : Value}
    {su_ocR su_ocQ : Value} {su_odR su_odQ : Option Addr} {su_slR su_slQ : Array (Option Value)} {su_cdR su_cdQ : ClassData}
    {vs_R_all_ships vs_R_come vs_R_leave vs_R_where vs_R_free_ones vs_R_size : Array Value} {fl_R_all_ships fl_R_come fl_R_leave fl_R_where fl_R_free_ones fl_R_size : Str} {tf_R_all_ships tf_R_come tf_R_leave tf_R_where tf_R_free_ones tf_R_size : Tok}
    {t_MOST t_LONGEST : Tok}
    (aC_Quay : PySem.W.nsIn K mainGlobals "Quay" = some (some (.ref c_Quay)))
    (pg_Quay : PySem.W.plainGet K c_Quay Str.empty = true)
    (hd_Quay : PySem.W.hasDictIn K c_Quay = true)
    (po_Quay : PySem.W.plainOver K c_Quay = true)
    (sa_Quay : PySem.W.findIn K (.ref c_Quay) "__setattr__" = some (some (.builtin "object.__setattr__")))
    (mk_Quay : PySem.W.makesIn K c_Quay = true)
    (kc_Quay : PySem.W.keepIn K (.ref c_Quay) = true)
    (nB_Quay : PySem.W.findIn K (.ref c_Quay) "_berths" = some none)
    (nS_Quay : PySem.W.findIn K (.ref c_Quay) "_ships" = some none)
    (aC_Round : PySem.W.nsIn K mainGlobals "Round" = some (some (.ref c_Round)))
    (pg_Round : PySem.W.plainGet K c_Round Str.empty = true)
    (hd_Round : PySem.W.hasDictIn K c_Round = true)
    (po_Round : PySem.W.plainOver K c_Round = true)
    (sa_Round : PySem.W.findIn K (.ref c_Round) "__setattr__" = some (some (.builtin "object.__setattr__")))
    (mk_Round : PySem.W.makesIn K c_Round = true)
    (kc_Round : PySem.W.keepIn K (.ref c_Round) = true)
    (nB_Round : PySem.W.findIn K (.ref c_Round) "_berths" = some none)
    (nS_Round : PySem.W.findIn K (.ref c_Round) "_ships" = some none)
    (a_is_number : PySem.W.nsIn K mainGlobals "is_number" = some (some (.ref f_is_number))) (l_is_number : K.lookup f_is_number = some ⟨oc_is_number, od_is_number, .func (PySem.W.fnOf "is_number" "is_number" (defArgs s_is_number) (defBody s_is_number) (defScope s_is_number) .none kV_is_number dc_is_number pm_is_number an_is_number cd_is_number ct_is_number), sl_is_number⟩) (cI_is_number : PySem.W.codeIn K cd_is_number "is_number" = true) (kI_is_number : PySem.W.keepIn K (.ref f_is_number) = true)
    (a_is_from_to : PySem.W.nsIn K mainGlobals "is_from_to" = some (some (.ref f_is_from_to))) (l_is_from_to : K.lookup f_is_from_to = some ⟨oc_is_from_to, od_is_from_to, .func (PySem.W.fnOf "is_from_to" "is_from_to" (defArgs s_is_from_to) (defBody s_is_from_to) (defScope s_is_from_to) .none kV_is_from_to dc_is_from_to pm_is_from_to an_is_from_to cd_is_from_to ct_is_from_to), sl_is_from_to⟩) (cI_is_from_to : PySem.W.codeIn K cd_is_from_to "is_from_to" = true) (kI_is_from_to : PySem.W.keepIn K (.ref f_is_from_to) = true)
    (a_is_name : PySem.W.nsIn K mainGlobals "is_name" = some (some (.ref f_is_name))) (l_is_name : K.lookup f_is_name = some ⟨oc_is_name, od_is_name, .func (PySem.W.fnOf "is_name" "is_name" (defArgs s_is_name) (defBody s_is_name) (defScope s_is_name) .none kV_is_name dc_is_name pm_is_name an_is_name cd_is_name ct_is_name), sl_is_name⟩) (cI_is_name : PySem.W.codeIn K cd_is_name "is_name" = true) (kI_is_name : PySem.W.keepIn K (.ref f_is_name) = true)
    (a_check_quay : PySem.W.nsIn K mainGlobals "check_quay" = some (some (.ref f_check_quay))) (l_check_quay : K.lookup f_check_quay = some ⟨oc_check_quay, od_check_quay, .func (PySem.W.fnOf "check_quay" "check_quay" (defArgs s_check_quay) (defBody s_check_quay) (defScope s_check_quay) .none kV_check_quay dc_check_quay pm_check_quay an_check_quay cd_check_quay ct_check_quay), sl_check_quay⟩) (cI_check_quay : PySem.W.codeIn K cd_check_quay "check_quay" = true) (kI_check_quay : PySem.W.keepIn K (.ref f_check_quay) = true)
    (a_first_free : PySem.W.nsIn K mainGlobals "first_free" = some (some (.ref f_first_free))) (l_first_free : K.lookup f_first_free = some ⟨oc_first_free, od_first_free, .func (PySem.W.fnOf "first_free" "first_free" (defArgs s_first_free) (defBody s_first_free) (defScope s_first_free) .none kV_first_free dc_first_free pm_first_free an_first_free cd_first_free ct_first_free), sl_first_free⟩) (cI_first_free : PySem.W.codeIn K cd_first_free "first_free" = true) (kI_first_free : PySem.W.keepIn K (.ref f_first_free) = true)
    (a_first_free_round : PySem.W.nsIn K mainGlobals "first_free_round" = some (some (.ref f_first_free_round))) (l_first_free_round : K.lookup f_first_free_round = some ⟨oc_first_free_round, od_first_free_round, .func (PySem.W.fnOf "first_free_round" "first_free_round" (defArgs s_first_free_round) (defBody s_first_free_round) (defScope s_first_free_round) .none kV_first_free_round dc_first_free_round pm_first_free_round an_first_free_round cd_first_free_round ct_first_free_round), sl_first_free_round⟩) (cI_first_free_round : PySem.W.codeIn K cd_first_free_round "first_free_round" = true) (kI_first_free_round : PySem.W.keepIn K (.ref f_first_free_round) = true)
    (am_Q_init : PySem.W.findIn K (.ref c_Quay) "__init__" = some (some (.ref f_Q_init)))
    (im_Q_init : PySem.W.isFn K (.ref f_Q_init) = true)
    (l_Q_init : K.lookup f_Q_init = some ⟨oc_Q_init, od_Q_init, .func (PySem.W.fnOf "__init__" "Quay.__init__" (defArgs s_Q_init) (defBody s_Q_init) (defScope s_Q_init) .none kV_Q_init dc_Q_init pm_Q_init an_Q_init cd_Q_init ct_Q_init), sl_Q_init⟩)
    (cI_Q_init : PySem.W.codeIn K cd_Q_init "Quay.__init__" = true)
    (kI_Q_init : PySem.W.keepIn K (.ref f_Q_init) = true)
    (a_p_check_name : PySem.W.nsIn K mainGlobals "_check_name" = some (some (.ref f_p_check_name))) (l_p_check_name : K.lookup f_p_check_name = some ⟨oc_p_check_name, od_p_check_name, .func (PySem.W.fnOf "_check_name" "_check_name" (defArgs s_p_check_name) (defBody s_p_check_name) (defScope s_p_check_name) .none kV_p_check_name dc_p_check_name pm_p_check_name an_p_check_name cd_p_check_name ct_p_check_name), sl_p_check_name⟩) (cI_p_check_name : PySem.W.codeIn K cd_p_check_name "_check_name" = true) (kI_p_check_name : PySem.W.keepIn K (.ref f_p_check_name) = true)
    (am_Q_first_free : PySem.W.findIn K (.ref c_Quay) "_first_free" = some (some (.ref f_Q_first_free)))
    (im_Q_first_free : PySem.W.isFn K (.ref f_Q_first_free) = true)
    (l_Q_first_free : K.lookup f_Q_first_free = some ⟨oc_Q_first_free, od_Q_first_free, .func (PySem.W.fnOf "_first_free" "Quay._first_free" (defArgs s_Q_first_free) (defBody s_Q_first_free) (defScope s_Q_first_free) .none kV_Q_first_free dc_Q_first_free pm_Q_first_free an_Q_first_free cd_Q_first_free ct_Q_first_free), sl_Q_first_free⟩)
    (cI_Q_first_free : PySem.W.codeIn K cd_Q_first_free "Quay._first_free" = true)
    (kI_Q_first_free : PySem.W.keepIn K (.ref f_Q_first_free) = true)
    (am_R_first_free : PySem.W.findIn K (.ref c_Round) "_first_free" = some (some (.ref f_R_first_free)))
    (im_R_first_free : PySem.W.isFn K (.ref f_R_first_free) = true)
    (l_R_first_free : K.lookup f_R_first_free = some ⟨oc_R_first_free, od_R_first_free, .func (PySem.W.fnOf "_first_free" "Round._first_free" (defArgs s_R_first_free) (defBody s_R_first_free) (defScope s_R_first_free) .none kV_R_first_free dc_R_first_free pm_R_first_free an_R_first_free cd_R_first_free ct_R_first_free), sl_R_first_free⟩)
    (cI_R_first_free : PySem.W.codeIn K cd_R_first_free "Round._first_free" = true)
    (kI_R_first_free : PySem.W.keepIn K (.ref f_R_first_free) = true)
    (am_Q_held : PySem.W.findIn K (.ref c_Quay) "_held" = some (some (.ref f_Q_held)))
    (im_Q_held : PySem.W.isFn K (.ref f_Q_held) = true)
    (l_Q_held : K.lookup f_Q_held = some ⟨oc_Q_held, od_Q_held, .func (PySem.W.fnOf "_held" "Quay._held" (defArgs s_Q_held) (defBody s_Q_held) (defScope s_Q_held) .none kV_Q_held dc_Q_held pm_Q_held an_Q_held cd_Q_held ct_Q_held), sl_Q_held⟩)
    (cI_Q_held : PySem.W.codeIn K cd_Q_held "Quay._held" = true)
    (kI_Q_held : PySem.W.keepIn K (.ref f_Q_held) = true)
    (ai_Q_held : PySem.W.findIn K (.ref c_Round) "_held" = some (some (.ref f_Q_held)))
    (am_Q_come : PySem.W.findIn K (.ref c_Quay) "come" = some (some (.ref f_Q_come)))
    (im_Q_come : PySem.W.isFn K (.ref f_Q_come) = true)
    (l_Q_come : K.lookup f_Q_come = some ⟨(.type "function"), od_Q_come, .func (PySem.W.fnOf "come" "Quay.come" (defArgs s_Q_come) (defBody s_Q_come) (defScope s_Q_come) .none kV_Q_come dc_Q_come pm_Q_come an_Q_come cd_Q_come ct_Q_come), sl_Q_come⟩)
    (cI_Q_come : PySem.W.codeIn K cd_Q_come "Quay.come" = true)
    (kI_Q_come : PySem.W.keepIn K (.ref f_Q_come) = true)
    (am_Q_check_there : PySem.W.findIn K (.ref c_Quay) "_check_there" = some (some (.ref f_Q_check_there)))
    (im_Q_check_there : PySem.W.isFn K (.ref f_Q_check_there) = true)
    (l_Q_check_there : K.lookup f_Q_check_there = some ⟨oc_Q_check_there, od_Q_check_there, .func (PySem.W.fnOf "_check_there" "Quay._check_there" (defArgs s_Q_check_there) (defBody s_Q_check_there) (defScope s_Q_check_there) .none kV_Q_check_there dc_Q_check_there pm_Q_check_there an_Q_check_there cd_Q_check_there ct_Q_check_there), sl_Q_check_there⟩)
    (cI_Q_check_there : PySem.W.codeIn K cd_Q_check_there "Quay._check_there" = true)
    (kI_Q_check_there : PySem.W.keepIn K (.ref f_Q_check_there) = true)
    (ai_Q_check_there : PySem.W.findIn K (.ref c_Round) "_check_there" = some (some (.ref f_Q_check_there)))
    (am_Q_all_ships : PySem.W.findIn K (.ref c_Quay) "all_ships" = some (some (.ref f_Q_all_ships)))
    (im_Q_all_ships : PySem.W.isFn K (.ref f_Q_all_ships) = true)
    (l_Q_all_ships : K.lookup f_Q_all_ships = some ⟨(.type "function"), od_Q_all_ships, .func (PySem.W.fnOf "all_ships" "Quay.all_ships" (defArgs s_Q_all_ships) (defBody s_Q_all_ships) (defScope s_Q_all_ships) .none kV_Q_all_ships dc_Q_all_ships pm_Q_all_ships an_Q_all_ships cd_Q_all_ships ct_Q_all_ships), sl_Q_all_ships⟩)
    (cI_Q_all_ships : PySem.W.codeIn K cd_Q_all_ships "Quay.all_ships" = true)
    (kI_Q_all_ships : PySem.W.keepIn K (.ref f_Q_all_ships) = true)
    (am_R_all_ships : PySem.W.findIn K (.ref c_Round) "all_ships" = some (some (.ref f_R_all_ships)))
    (im_R_all_ships : PySem.W.isFn K (.ref f_R_all_ships) = true)
    (l_R_all_ships : K.lookup f_R_all_ships = some ⟨oc_R_all_ships, od_R_all_ships, .func (PySem.W.ksFn "all_ships" "Round.all_ships" (defArgs s_R_all_ships) (defBody s_R_all_ships) (defScope s_R_all_ships) .none kV_R_all_ships dc_R_all_ships pm_R_all_ships an_R_all_ships (.ref cr_R_all_ships) ct_R_all_ships cc_R_all_ships), sl_R_all_ships⟩)
    (cI_R_all_ships : PySem.W.codeIn K (.ref cr_R_all_ships) "Round.all_ships" = true)
    (lc_R_all_ships : K.lookup cc_R_all_ships = some ⟨och_R_all_ships, oh_R_all_ships, .cell (some (.ref c_Round)), sh_R_all_ships⟩)
    (lf_R_all_ships : K.lookup cr_R_all_ships = some ⟨ocf_R_all_ships, of_R_all_ships, .fields vs_R_all_ships, sf_R_all_ships⟩)
    (vf_R_all_ships : vs_R_all_ships[2]? = some (.str fl_R_all_ships tf_R_all_ships))
    (fe_R_all_ships : (P.main.file == fl_R_all_ships) = true)
    (fi_R_all_ships : PySem.W.fnIn K f_Q_all_ships = true)
    (kI_R_all_ships : PySem.W.keepIn K (.ref f_R_all_ships) = true)
    (am_Q_leave : PySem.W.findIn K (.ref c_Quay) "leave" = some (some (.ref f_Q_leave)))
    (im_Q_leave : PySem.W.isFn K (.ref f_Q_leave) = true)
    (l_Q_leave : K.lookup f_Q_leave = some ⟨(.type "function"), od_Q_leave, .func (PySem.W.fnOf "leave" "Quay.leave" (defArgs s_Q_leave) (defBody s_Q_leave) (defScope s_Q_leave) .none kV_Q_leave dc_Q_leave pm_Q_leave an_Q_leave cd_Q_leave ct_Q_leave), sl_Q_leave⟩)
    (cI_Q_leave : PySem.W.codeIn K cd_Q_leave "Quay.leave" = true)
    (kI_Q_leave : PySem.W.keepIn K (.ref f_Q_leave) = true)
    (am_Q_where : PySem.W.findIn K (.ref c_Quay) "where" = some (some (.ref f_Q_where)))
    (im_Q_where : PySem.W.isFn K (.ref f_Q_where) = true)
    (l_Q_where : K.lookup f_Q_where = some ⟨(.type "function"), od_Q_where, .func (PySem.W.fnOf "where" "Quay.where" (defArgs s_Q_where) (defBody s_Q_where) (defScope s_Q_where) .none kV_Q_where dc_Q_where pm_Q_where an_Q_where cd_Q_where ct_Q_where), sl_Q_where⟩)
    (cI_Q_where : PySem.W.codeIn K cd_Q_where "Quay.where" = true)
    (kI_Q_where : PySem.W.keepIn K (.ref f_Q_where) = true)
    (am_Q_free_ones : PySem.W.findIn K (.ref c_Quay) "free_ones" = some (some (.ref f_Q_free_ones)))
    (im_Q_free_ones : PySem.W.isFn K (.ref f_Q_free_ones) = true)
    (l_Q_free_ones : K.lookup f_Q_free_ones = some ⟨(.type "function"), od_Q_free_ones, .func (PySem.W.fnOf "free_ones" "Quay.free_ones" (defArgs s_Q_free_ones) (defBody s_Q_free_ones) (defScope s_Q_free_ones) .none kV_Q_free_ones dc_Q_free_ones pm_Q_free_ones an_Q_free_ones cd_Q_free_ones ct_Q_free_ones), sl_Q_free_ones⟩)
    (cI_Q_free_ones : PySem.W.codeIn K cd_Q_free_ones "Quay.free_ones" = true)
    (kI_Q_free_ones : PySem.W.keepIn K (.ref f_Q_free_ones) = true)
    (am_Q_size : PySem.W.findIn K (.ref c_Quay) "size" = some (some (.ref f_Q_size)))
    (im_Q_size : PySem.W.isFn K (.ref f_Q_size) = true)
    (l_Q_size : K.lookup f_Q_size = some ⟨(.type "function"), od_Q_size, .func (PySem.W.fnOf "size" "Quay.size" (defArgs s_Q_size) (defBody s_Q_size) (defScope s_Q_size) .none kV_Q_size dc_Q_size pm_Q_size an_Q_size cd_Q_size ct_Q_size), sl_Q_size⟩)
    (cI_Q_size : PySem.W.codeIn K cd_Q_size "Quay.size" = true)
    (kI_Q_size : PySem.W.keepIn K (.ref f_Q_size) = true)
    (am_Q_kind : PySem.W.findIn K (.ref c_Quay) "kind" = some (some (.ref f_Q_kind)))
    (im_Q_kind : PySem.W.isFn K (.ref f_Q_kind) = true)
    (l_Q_kind : K.lookup f_Q_kind = some ⟨oc_Q_kind, od_Q_kind, .func (PySem.W.fnOf "kind" "Quay.kind" (defArgs s_Q_kind) (defBody s_Q_kind) (defScope s_Q_kind) .none kV_Q_kind dc_Q_kind pm_Q_kind an_Q_kind cd_Q_kind ct_Q_kind), sl_Q_kind⟩)
    (cI_Q_kind : PySem.W.codeIn K cd_Q_kind "Quay.kind" = true)
    (kI_Q_kind : PySem.W.keepIn K (.ref f_Q_kind) = true)
    (am_R_init : PySem.W.findIn K (.ref c_Round) "__init__" = some (some (.ref f_R_init)))
    (im_R_init : PySem.W.isFn K (.ref f_R_init) = true)
    (l_R_init : K.lookup f_R_init = some ⟨oc_R_init, od_R_init, .func (PySem.W.fnOf "__init__" "Round.__init__" (defArgs s_R_init) (defBody s_R_init) (defScope s_R_init) .none kV_R_init dc_R_init pm_R_init an_R_init cd_R_init ct_R_init), sl_R_init⟩)
    (cI_R_init : PySem.W.codeIn K cd_R_init "Round.__init__" = true)
    (kI_R_init : PySem.W.keepIn K (.ref f_R_init) = true)
    (am_R_come : PySem.W.findIn K (.ref c_Round) "come" = some (some (.ref f_R_come)))
    (im_R_come : PySem.W.isFn K (.ref f_R_come) = true)
    (l_R_come : K.lookup f_R_come = some ⟨oc_R_come, od_R_come, .func (PySem.W.ksFn "come" "Round.come" (defArgs s_R_come) (defBody s_R_come) (defScope s_R_come) .none kV_R_come dc_R_come pm_R_come an_R_come (.ref cr_R_come) ct_R_come cc_R_come), sl_R_come⟩)
    (cI_R_come : PySem.W.codeIn K (.ref cr_R_come) "Round.come" = true)
    (lc_R_come : K.lookup cc_R_come = some ⟨och_R_come, oh_R_come, .cell (some (.ref c_Round)), sh_R_come⟩)
    (lf_R_come : K.lookup cr_R_come = some ⟨ocf_R_come, of_R_come, .fields vs_R_come, sf_R_come⟩)
    (vf_R_come : vs_R_come[2]? = some (.str fl_R_come tf_R_come))
    (fe_R_come : (P.main.file == fl_R_come) = true)
    (fi_R_come : PySem.W.fnIn K f_Q_come = true)
    (kI_R_come : PySem.W.keepIn K (.ref f_R_come) = true)
    (am_R_leave : PySem.W.findIn K (.ref c_Round) "leave" = some (some (.ref f_R_leave)))
    (im_R_leave : PySem.W.isFn K (.ref f_R_leave) = true)
    (l_R_leave : K.lookup f_R_leave = some ⟨oc_R_leave, od_R_leave, .func (PySem.W.ksFn "leave" "Round.leave" (defArgs s_R_leave) (defBody s_R_leave) (defScope s_R_leave) .none kV_R_leave dc_R_leave pm_R_leave an_R_leave (.ref cr_R_leave) ct_R_leave cc_R_leave), sl_R_leave⟩)
    (cI_R_leave : PySem.W.codeIn K (.ref cr_R_leave) "Round.leave" = true)
    (lc_R_leave : K.lookup cc_R_leave = some ⟨och_R_leave, oh_R_leave, .cell (some (.ref c_Round)), sh_R_leave⟩)
    (lf_R_leave : K.lookup cr_R_leave = some ⟨ocf_R_leave, of_R_leave, .fields vs_R_leave, sf_R_leave⟩)
    (vf_R_leave : vs_R_leave[2]? = some (.str fl_R_leave tf_R_leave))
    (fe_R_leave : (P.main.file == fl_R_leave) = true)
    (fi_R_leave : PySem.W.fnIn K f_Q_leave = true)
    (kI_R_leave : PySem.W.keepIn K (.ref f_R_leave) = true)
    (am_R_where : PySem.W.findIn K (.ref c_Round) "where" = some (some (.ref f_R_where)))
    (im_R_where : PySem.W.isFn K (.ref f_R_where) = true)
    (l_R_where : K.lookup f_R_where = some ⟨oc_R_where, od_R_where, .func (PySem.W.ksFn "where" "Round.where" (defArgs s_R_where) (defBody s_R_where) (defScope s_R_where) .none kV_R_where dc_R_where pm_R_where an_R_where (.ref cr_R_where) ct_R_where cc_R_where), sl_R_where⟩)
    (cI_R_where : PySem.W.codeIn K (.ref cr_R_where) "Round.where" = true)
    (lc_R_where : K.lookup cc_R_where = some ⟨och_R_where, oh_R_where, .cell (some (.ref c_Round)), sh_R_where⟩)
    (lf_R_where : K.lookup cr_R_where = some ⟨ocf_R_where, of_R_where, .fields vs_R_where, sf_R_where⟩)
    (vf_R_where : vs_R_where[2]? = some (.str fl_R_where tf_R_where))
    (fe_R_where : (P.main.file == fl_R_where) = true)
    (fi_R_where : PySem.W.fnIn K f_Q_where = true)
    (kI_R_where : PySem.W.keepIn K (.ref f_R_where) = true)
    (am_R_free_ones : PySem.W.findIn K (.ref c_Round) "free_ones" = some (some (.ref f_R_free_ones)))
    (im_R_free_ones : PySem.W.isFn K (.ref f_R_free_ones) = true)
    (l_R_free_ones : K.lookup f_R_free_ones = some ⟨oc_R_free_ones, od_R_free_ones, .func (PySem.W.ksFn "free_ones" "Round.free_ones" (defArgs s_R_free_ones) (defBody s_R_free_ones) (defScope s_R_free_ones) .none kV_R_free_ones dc_R_free_ones pm_R_free_ones an_R_free_ones (.ref cr_R_free_ones) ct_R_free_ones cc_R_free_ones), sl_R_free_ones⟩)
    (cI_R_free_ones : PySem.W.codeIn K (.ref cr_R_free_ones) "Round.free_ones" = true)
    (lc_R_free_ones : K.lookup cc_R_free_ones = some ⟨och_R_free_ones, oh_R_free_ones, .cell (some (.ref c_Round)), sh_R_free_ones⟩)
    (lf_R_free_ones : K.lookup cr_R_free_ones = some ⟨ocf_R_free_ones, of_R_free_ones, .fields vs_R_free_ones, sf_R_free_ones⟩)
    (vf_R_free_ones : vs_R_free_ones[2]? = some (.str fl_R_free_ones tf_R_free_ones))
    (fe_R_free_ones : (P.main.file == fl_R_free_ones) = true)
    (fi_R_free_ones : PySem.W.fnIn K f_Q_free_ones = true)
    (kI_R_free_ones : PySem.W.keepIn K (.ref f_R_free_ones) = true)
    (am_R_size : PySem.W.findIn K (.ref c_Round) "size" = some (some (.ref f_R_size)))
    (im_R_size : PySem.W.isFn K (.ref f_R_size) = true)
    (l_R_size : K.lookup f_R_size = some ⟨oc_R_size, od_R_size, .func (PySem.W.ksFn "size" "Round.size" (defArgs s_R_size) (defBody s_R_size) (defScope s_R_size) .none kV_R_size dc_R_size pm_R_size an_R_size (.ref cr_R_size) ct_R_size cc_R_size), sl_R_size⟩)
    (cI_R_size : PySem.W.codeIn K (.ref cr_R_size) "Round.size" = true)
    (lc_R_size : K.lookup cc_R_size = some ⟨och_R_size, oh_R_size, .cell (some (.ref c_Round)), sh_R_size⟩)
    (lf_R_size : K.lookup cr_R_size = some ⟨ocf_R_size, of_R_size, .fields vs_R_size, sf_R_size⟩)
    (vf_R_size : vs_R_size[2]? = some (.str fl_R_size tf_R_size))
    (fe_R_size : (P.main.file == fl_R_size) = true)
    (fi_R_size : PySem.W.fnIn K f_Q_size = true)
    (kI_R_size : PySem.W.keepIn K (.ref f_R_size) = true)
    (am_R_kind : PySem.W.findIn K (.ref c_Round) "kind" = some (some (.ref f_R_kind)))
    (im_R_kind : PySem.W.isFn K (.ref f_R_kind) = true)
    (l_R_kind : K.lookup f_R_kind = some ⟨oc_R_kind, od_R_kind, .func (PySem.W.fnOf "kind" "Round.kind" (defArgs s_R_kind) (defBody s_R_kind) (defScope s_R_kind) .none kV_R_kind dc_R_kind pm_R_kind an_R_kind cd_R_kind ct_R_kind), sl_R_kind⟩)
    (cI_R_kind : PySem.W.codeIn K cd_R_kind "Round.kind" = true)
    (kI_R_kind : PySem.W.keepIn K (.ref f_R_kind) = true)
    (a_written : PySem.W.nsIn K mainGlobals "written" = some (some (.ref f_written))) (l_written : K.lookup f_written = some ⟨oc_written, od_written, .func (PySem.W.fnOf "written" "written" (defArgs s_written) (defBody s_written) (defScope s_written) .none kV_written dc_written pm_written an_written cd_written ct_written), sl_written⟩) (cI_written : PySem.W.codeIn K cd_written "written" = true) (kI_written : PySem.W.keepIn K (.ref f_written) = true)
    (a_p_number : PySem.W.nsIn K mainGlobals "_number" = some (some (.ref f_p_number))) (l_p_number : K.lookup f_p_number = some ⟨oc_p_number, od_p_number, .func (PySem.W.fnOf "_number" "_number" (defArgs s_p_number) (defBody s_p_number) (defScope s_p_number) .none kV_p_number dc_p_number pm_p_number an_p_number cd_p_number ct_p_number), sl_p_number⟩) (cI_p_number : PySem.W.codeIn K cd_p_number "_number" = true) (kI_p_number : PySem.W.keepIn K (.ref f_p_number) = true)
    (a_p_pair : PySem.W.nsIn K mainGlobals "_pair" = some (some (.ref f_p_pair))) (l_p_pair : K.lookup f_p_pair = some ⟨oc_p_pair, od_p_pair, .func (PySem.W.fnOf "_pair" "_pair" (defArgs s_p_pair) (defBody s_p_pair) (defScope s_p_pair) .none kV_p_pair dc_p_pair pm_p_pair an_p_pair cd_p_pair ct_p_pair), sl_p_pair⟩) (cI_p_pair : PySem.W.codeIn K cd_p_pair "_pair" = true) (kI_p_pair : PySem.W.keepIn K (.ref f_p_pair) = true)
    (a_p_parts : PySem.W.nsIn K mainGlobals "_parts" = some (some (.ref f_p_parts))) (l_p_parts : K.lookup f_p_parts = some ⟨oc_p_parts, od_p_parts, .func (PySem.W.fnOf "_parts" "_parts" (defArgs s_p_parts) (defBody s_p_parts) (defScope s_p_parts) .none kV_p_parts dc_p_parts pm_p_parts an_p_parts cd_p_parts ct_p_parts), sl_p_parts⟩) (cI_p_parts : PySem.W.codeIn K cd_p_parts "_parts" = true) (kI_p_parts : PySem.W.keepIn K (.ref f_p_parts) = true)
    (a_read : PySem.W.nsIn K mainGlobals "read" = some (some (.ref f_read))) (l_read : K.lookup f_read = some ⟨oc_read, od_read, .func (PySem.W.fnOf "read" "read" (defArgs s_read) (defBody s_read) (defScope s_read) .none kV_read dc_read pm_read an_read cd_read ct_read), sl_read⟩) (cI_read : PySem.W.codeIn K cd_read "read" = true) (kI_read : PySem.W.keepIn K (.ref f_read) = true)
    (a_l_cell_at : PySem.W.nsIn K mainGlobals "_law_cell_at" = some (some (.ref f_l_cell_at))) (l_l_cell_at : K.lookup f_l_cell_at = some ⟨oc_l_cell_at, od_l_cell_at, .func (PySem.W.fnOf "_law_cell_at" "_law_cell_at" (defArgs s_l_cell_at) (defBody s_l_cell_at) (defScope s_l_cell_at) .none kV_l_cell_at dc_l_cell_at pm_l_cell_at an_l_cell_at cd_l_cell_at ct_l_cell_at), sl_l_cell_at⟩) (cI_l_cell_at : PySem.W.codeIn K cd_l_cell_at "_law_cell_at" = true) (kI_l_cell_at : PySem.W.keepIn K (.ref f_l_cell_at) = true)
    (a_l_mix : PySem.W.nsIn K mainGlobals "_law_mix" = some (some (.ref f_l_mix))) (l_l_mix : K.lookup f_l_mix = some ⟨oc_l_mix, od_l_mix, .func (PySem.W.fnOf "_law_mix" "_law_mix" (defArgs s_l_mix) (defBody s_l_mix) (defScope s_l_mix) .none kV_l_mix dc_l_mix pm_l_mix an_l_mix cd_l_mix ct_l_mix), sl_l_mix⟩) (cI_l_mix : PySem.W.codeIn K cd_l_mix "_law_mix" = true) (kI_l_mix : PySem.W.keepIn K (.ref f_l_mix) = true)
    (a_l_words : PySem.W.nsIn K mainGlobals "_law_words" = some (some (.ref f_l_words))) (l_l_words : K.lookup f_l_words = some ⟨oc_l_words, od_l_words, .func (PySem.W.fnOf "_law_words" "_law_words" (defArgs s_l_words) (defBody s_l_words) (defScope s_l_words) .none kV_l_words dc_l_words pm_l_words an_l_words cd_l_words ct_l_words), sl_l_words⟩) (cI_l_words : PySem.W.codeIn K cd_l_words "_law_words" = true) (kI_l_words : PySem.W.keepIn K (.ref f_l_words) = true)
    (a_l_read : PySem.W.nsIn K mainGlobals "_law_read" = some (some (.ref f_l_read))) (l_l_read : K.lookup f_l_read = some ⟨oc_l_read, od_l_read, .func (PySem.W.fnOf "_law_read" "_law_read" (defArgs s_l_read) (defBody s_l_read) (defScope s_l_read) .none kV_l_read dc_l_read pm_l_read an_l_read cd_l_read ct_l_read), sl_l_read⟩) (cI_l_read : PySem.W.codeIn K cd_l_read "_law_read" = true) (kI_l_read : PySem.W.keepIn K (.ref f_l_read) = true)
    (a_l_text : PySem.W.nsIn K mainGlobals "_law_text" = some (some (.ref f_l_text))) (l_l_text : K.lookup f_l_text = some ⟨oc_l_text, od_l_text, .func (PySem.W.fnOf "_law_text" "_law_text" (defArgs s_l_text) (defBody s_l_text) (defScope s_l_text) .none kV_l_text dc_l_text pm_l_text an_l_text cd_l_text ct_l_text), sl_l_text⟩) (cI_l_text : PySem.W.codeIn K cd_l_text "_law_text" = true) (kI_l_text : PySem.W.keepIn K (.ref f_l_text) = true)
    (a_l_drawn : PySem.W.nsIn K mainGlobals "_law_drawn" = some (some (.ref f_l_drawn))) (l_l_drawn : K.lookup f_l_drawn = some ⟨oc_l_drawn, od_l_drawn, .func (PySem.W.fnOf "_law_drawn" "_law_drawn" (defArgs s_l_drawn) (defBody s_l_drawn) (defScope s_l_drawn) .none kV_l_drawn dc_l_drawn pm_l_drawn an_l_drawn cd_l_drawn ct_l_drawn), sl_l_drawn⟩) (cI_l_drawn : PySem.W.codeIn K cd_l_drawn "_law_drawn" = true) (kI_l_drawn : PySem.W.keepIn K (.ref f_l_drawn) = true)
    (a_l_odd_text : PySem.W.nsIn K mainGlobals "_law_odd_text" = some (some (.ref f_l_odd_text))) (l_l_odd_text : K.lookup f_l_odd_text = some ⟨oc_l_odd_text, od_l_odd_text, .func (PySem.W.fnOf "_law_odd_text" "_law_odd_text" (defArgs s_l_odd_text) (defBody s_l_odd_text) (defScope s_l_odd_text) .none kV_l_odd_text dc_l_odd_text pm_l_odd_text an_l_odd_text cd_l_odd_text ct_l_odd_text), sl_l_odd_text⟩) (cI_l_odd_text : PySem.W.codeIn K cd_l_odd_text "_law_odd_text" = true) (kI_l_odd_text : PySem.W.keepIn K (.ref f_l_odd_text) = true)
    (a_law : PySem.W.nsIn K mainGlobals "law" = some (some (.ref f_law))) (l_law : K.lookup f_law = some ⟨oc_law, od_law, .func (PySem.W.fnOf "law" "law" (defArgs s_law) (defBody s_law) (defScope s_law) .none kV_law dc_law pm_law an_law cd_law ct_law), sl_law⟩) (cI_law : PySem.W.codeIn K cd_law "law" = true) (kI_law : PySem.W.keepIn K (.ref f_law) = true)
    (rd_Quay : PySem.W.readsIn K c_Quay (.type "type") = true)
    (ga_Quay : PySem.W.specialIn K (.ref c_Quay) "__getattribute__" = some (some (.builtin "type.__getattribute__")))
    (fc_Quay : PySem.W.findCls K (.ref c_Quay) (.type "type") "__init__" = some (.val (.ref f_Q_init)))
    (su_lR : K.lookup c_Round = some ⟨su_ocR, su_odR, .cls su_cdR, su_slR⟩)
    (su_lQ : K.lookup c_Quay = some ⟨su_ocQ, su_odQ, .cls su_cdQ, su_slQ⟩)
    (su_mR : su_cdR.mro = .ref c_Round :: [.ref c_Quay, .type "object"])
    (su_mQ : su_cdQ.mro = [.ref c_Quay, .type "object"])
    (su_R : PySem.W.subIn K (.ref c_Round) (.ref c_Round) = some true)
    (su_any : PySem.W.nsIn K cStatics "thirdparty.any" = some none)
    (su_ns : (List.lookup ("super" : Str) P.main.scope.names).isSome = false)
    (su_mg : PySem.W.nsIn K mainGlobals "super" = some none)
    (z_int : PySem.W.nsIn K mainGlobals "int" = some none)
    (z_isinstance : PySem.W.nsIn K mainGlobals "isinstance" = some none)
    (z_len : PySem.W.nsIn K mainGlobals "len" = some none)
    (z_range : PySem.W.nsIn K mainGlobals "range" = some none)
    (z_str : PySem.W.nsIn K mainGlobals "str" = some none)
    (z_type : PySem.W.nsIn K mainGlobals "type" = some none)
    (y_MOST : PySem.W.nsIn K mainGlobals "MOST" = some (some (.int 400 t_MOST)))
    (y_LONGEST : PySem.W.nsIn K mainGlobals "LONGEST" = some (some (.int 8 t_LONGEST)))
    (xg_BerthError : PySem.W.nsIn K mainGlobals "BerthError" = some (some (.ref e_BerthError)))
    (xx_BerthError : PySem.W.excIn K e_BerthError [.type "ValueError", .type "Exception", .type "BaseException", .type "object"] "ValueError.__new__" = true)
    (xk_BerthError : PySem.W.keepIn K (.ref e_BerthError) = true)
    (xb_BerthError : PySem.W.subIn K (.ref e_BerthError) (.type "BaseException") = some true)
    (xt_BerthError : PySem.W.typeIn K (.ref e_BerthError) = some (.type "type"))
    (xg_NoCount : PySem.W.nsIn K mainGlobals "NoCount" = some (some (.ref e_NoCount)))
    (xx_NoCount : PySem.W.excIn K e_NoCount [.type "ValueError", .type "Exception", .type "BaseException", .type "object"] "ValueError.__new__" = true)
    (xk_NoCount : PySem.W.keepIn K (.ref e_NoCount) = true)
    (xb_NoCount : PySem.W.subIn K (.ref e_NoCount) (.type "BaseException") = some true)
    (xt_NoCount : PySem.W.typeIn K (.ref e_NoCount) = some (.type "type"))
    (xg_NoName : PySem.W.nsIn K mainGlobals "NoName" = some (some (.ref e_NoName)))
    (xx_NoName : PySem.W.excIn K e_NoName [.type "ValueError", .type "Exception", .type "BaseException", .type "object"] "ValueError.__new__" = true)
    (xk_NoName : PySem.W.keepIn K (.ref e_NoName) = true)
    (xb_NoName : PySem.W.subIn K (.ref e_NoName) (.type "BaseException") = some true)
    (xt_NoName : PySem.W.typeIn K (.ref e_NoName) = some (.type "type"))
    (xg_NoOrder : PySem.W.nsIn K mainGlobals "NoOrder" = some (some (.ref e_NoOrder)))
    (xx_NoOrder : PySem.W.excIn K e_NoOrder [.type "ValueError", .type "Exception", .type "BaseException", .type "object"] "ValueError.__new__" = true)
    (xk_NoOrder : PySem.W.keepIn K (.ref e_NoOrder) = true)
    (xb_NoOrder : PySem.W.subIn K (.ref e_NoOrder) (.type "BaseException") = some true)
    (xt_NoOrder : PySem.W.typeIn K (.ref e_NoOrder) = some (.type "type"))
    (xg_NoQuay : PySem.W.nsIn K mainGlobals "NoQuay" = some (some (.ref e_NoQuay)))
    (xx_NoQuay : PySem.W.excIn K e_NoQuay [.type "ValueError", .type "Exception", .type "BaseException", .type "object"] "ValueError.__new__" = true)
    (xk_NoQuay : PySem.W.keepIn K (.ref e_NoQuay) = true)
    (xb_NoQuay : PySem.W.subIn K (.ref e_NoQuay) (.type "BaseException") = some true)
    (xt_NoQuay : PySem.W.typeIn K (.ref e_NoQuay) = some (.type "type"))
    (xg_NoRoom : PySem.W.nsIn K mainGlobals "NoRoom" = some (some (.ref e_NoRoom)))
    (xx_NoRoom : PySem.W.excIn K e_NoRoom [.type "ValueError", .type "Exception", .type "BaseException", .type "object"] "ValueError.__new__" = true)
    (xk_NoRoom : PySem.W.keepIn K (.ref e_NoRoom) = true)
    (xb_NoRoom : PySem.W.subIn K (.ref e_NoRoom) (.type "BaseException") = some true)
    (xt_NoRoom : PySem.W.typeIn K (.ref e_NoRoom) = some (.type "type"))
    (xg_NoShip : PySem.W.nsIn K mainGlobals "NoShip" = some (some (.ref e_NoShip)))
    (xx_NoShip : PySem.W.excIn K e_NoShip [.type "ValueError", .type "Exception", .type "BaseException", .type "object"] "ValueError.__new__" = true)
    (xk_NoShip : PySem.W.keepIn K (.ref e_NoShip) = true)
    (xb_NoShip : PySem.W.subIn K (.ref e_NoShip) (.type "BaseException") = some true)
    (xt_NoShip : PySem.W.typeIn K (.ref e_NoShip) = some (.type "type"))
    (xg_NoText : PySem.W.nsIn K mainGlobals "NoText" = some (some (.ref e_NoText)))
    (xx_NoText : PySem.W.excIn K e_NoText [.type "ValueError", .type "Exception", .type "BaseException", .type "object"] "ValueError.__new__" = true)
    (xk_NoText : PySem.W.keepIn K (.ref e_NoText) = true)
    (xb_NoText : PySem.W.subIn K (.ref e_NoText) (.type "BaseException") = some true)
    (xt_NoText : PySem.W.typeIn K (.ref e_NoText) = some (.type "type"))
    (xg_NoTree : PySem.W.nsIn K mainGlobals "NoTree" = some (some (.ref e_NoTree)))
    (xx_NoTree : PySem.W.excIn K e_NoTree [.type "ValueError", .type "Exception", .type "BaseException", .type "object"] "ValueError.__new__" = true)
    (xk_NoTree : PySem.W.keepIn K (.ref e_NoTree) = true)
    (xb_NoTree : PySem.W.subIn K (.ref e_NoTree) (.type "BaseException") = some true)
    (xt_NoTree : PySem.W.typeIn K (.ref e_NoTree) = some (.type "type"))
    (xg_NoWish : PySem.W.nsIn K mainGlobals "NoWish" = some (some (.ref e_NoWish)))
    (xx_NoWish : PySem.W.excIn K e_NoWish [.type "ValueError", .type "Exception", .type "BaseException", .type "object"] "ValueError.__new__" = true)
    (xk_NoWish : PySem.W.keepIn K (.ref e_NoWish) = true)
    (xb_NoWish : PySem.W.subIn K (.ref e_NoWish) (.type "BaseException") = some true)
    (xt_NoWish : PySem.W.typeIn K (.ref e_NoWish) = some (.type "type"))
    (xg_NoWishes : PySem.W.nsIn K mainGlobals "NoWishes" = some (some (.ref e_NoWishes)))
    (xx_NoWishes : PySem.W.excIn K e_NoWishes [.type "ValueError", .type "Exception", .type "BaseException", .type "object"] "ValueError.__new__" = true)
    (xk_NoWishes : PySem.W.keepIn K (.ref e_NoWishes) = true)
    (xb_NoWishes : PySem.W.subIn K (.ref e_NoWishes) (.type "BaseException") = some true)
    (xt_NoWishes : PySem.W.typeIn K (.ref e_NoWishes) = some (.type "type"))
    (xg_Taken : PySem.W.nsIn K mainGlobals "Taken" = some (some (.ref e_Taken)))
    (xx_Taken : PySem.W.excIn K e_Taken [.type "ValueError", .type "Exception", .type "BaseException", .type "object"] "ValueError.__new__" = true)
    (xk_Taken : PySem.W.keepIn K (.ref e_Taken) = true)
    (xb_Taken : PySem.W.subIn K (.ref e_Taken) (.type "BaseException") = some true)
    (xt_Taken : PySem.W.typeIn K (.ref e_Taken) = some (.type "type"))
    (xg_TooMany : PySem.W.nsIn K mainGlobals "TooMany" = some (some (.ref e_TooMany)))
    (xx_TooMany : PySem.W.excIn K e_TooMany [.type "ValueError", .type "Exception", .type "BaseException", .type "object"] "ValueError.__new__" = true)
    (xk_TooMany : PySem.W.keepIn K (.ref e_TooMany) = true)
    (xb_TooMany : PySem.W.subIn K (.ref e_TooMany) (.type "BaseException") = some true)
    (xt_TooMany : PySem.W.typeIn K (.ref e_TooMany) = some (.type "type"))
    (v_hn : PySem.W.specialIn K (.builtin "object.__class__") "__get__" = some (some (.builtin "getset_descriptor.__get__")))
    (v_ht : PySem.W.takesIn K (.builtin "object.__class__") = some true)
    (vhg_BerthError : PySem.W.findIn K (.ref e_BerthError) "__getattribute__" = some (some (.builtin "BaseException.__getattribute__")))
    (vhk_BerthError : PySem.W.findIn K (.ref e_BerthError) "__getattr__" = some none)
    (vhs_BerthError : PySem.W.subIn K (.ref e_BerthError) (.type "BaseException") = some true)
    (vhd_BerthError : PySem.W.hasDictIn K e_BerthError = true)
    (vha_BerthError : PySem.W.findIn K (.ref e_BerthError) "__class__" = some (some (.builtin "object.__class__")))
    (vhm_BerthError : PySem.W.mroIn K e_BerthError (.type "object") = some true)
    (vty_BerthError : PySem.W.typeIn K (.ref e_BerthError) = some (.type "type"))
    (vse_BerthError : PySem.W.subIn K (.ref e_BerthError) (.ref e_BerthError) = some true)
    (vhg_NoCount : PySem.W.findIn K (.ref e_NoCount) "__getattribute__" = some (some (.builtin "BaseException.__getattribute__")))
    (vhk_NoCount : PySem.W.findIn K (.ref e_NoCount) "__getattr__" = some none)
    (vhs_NoCount : PySem.W.subIn K (.ref e_NoCount) (.type "BaseException") = some true)
    (vhd_NoCount : PySem.W.hasDictIn K e_NoCount = true)
    (vha_NoCount : PySem.W.findIn K (.ref e_NoCount) "__class__" = some (some (.builtin "object.__class__")))
    (vhm_NoCount : PySem.W.mroIn K e_NoCount (.type "object") = some true)
    (vty_NoCount : PySem.W.typeIn K (.ref e_NoCount) = some (.type "type"))
    (vse_NoCount : PySem.W.subIn K (.ref e_NoCount) (.ref e_NoCount) = some true)
    (vhg_NoOrder : PySem.W.findIn K (.ref e_NoOrder) "__getattribute__" = some (some (.builtin "BaseException.__getattribute__")))
    (vhk_NoOrder : PySem.W.findIn K (.ref e_NoOrder) "__getattr__" = some none)
    (vhs_NoOrder : PySem.W.subIn K (.ref e_NoOrder) (.type "BaseException") = some true)
    (vhd_NoOrder : PySem.W.hasDictIn K e_NoOrder = true)
    (vha_NoOrder : PySem.W.findIn K (.ref e_NoOrder) "__class__" = some (some (.builtin "object.__class__")))
    (vhm_NoOrder : PySem.W.mroIn K e_NoOrder (.type "object") = some true)
    (vty_NoOrder : PySem.W.typeIn K (.ref e_NoOrder) = some (.type "type"))
    (vse_NoOrder : PySem.W.subIn K (.ref e_NoOrder) (.ref e_NoOrder) = some true)
    (vhg_NoQuay : PySem.W.findIn K (.ref e_NoQuay) "__getattribute__" = some (some (.builtin "BaseException.__getattribute__")))
    (vhk_NoQuay : PySem.W.findIn K (.ref e_NoQuay) "__getattr__" = some none)
    (vhs_NoQuay : PySem.W.subIn K (.ref e_NoQuay) (.type "BaseException") = some true)
    (vhd_NoQuay : PySem.W.hasDictIn K e_NoQuay = true)
    (vha_NoQuay : PySem.W.findIn K (.ref e_NoQuay) "__class__" = some (some (.builtin "object.__class__")))
    (vhm_NoQuay : PySem.W.mroIn K e_NoQuay (.type "object") = some true)
    (vty_NoQuay : PySem.W.typeIn K (.ref e_NoQuay) = some (.type "type"))
    (vse_NoQuay : PySem.W.subIn K (.ref e_NoQuay) (.ref e_NoQuay) = some true)
    (vhg_NoName : PySem.W.findIn K (.ref e_NoName) "__getattribute__" = some (some (.builtin "BaseException.__getattribute__")))
    (vhk_NoName : PySem.W.findIn K (.ref e_NoName) "__getattr__" = some none)
    (vhs_NoName : PySem.W.subIn K (.ref e_NoName) (.type "BaseException") = some true)
    (vhd_NoName : PySem.W.hasDictIn K e_NoName = true)
    (vha_NoName : PySem.W.findIn K (.ref e_NoName) "__class__" = some (some (.builtin "object.__class__")))
    (vhm_NoName : PySem.W.mroIn K e_NoName (.type "object") = some true)
    (vty_NoName : PySem.W.typeIn K (.ref e_NoName) = some (.type "type"))
    (vse_NoName : PySem.W.subIn K (.ref e_NoName) (.ref e_NoName) = some true)
    (vhg_NoTree : PySem.W.findIn K (.ref e_NoTree) "__getattribute__" = some (some (.builtin "BaseException.__getattribute__")))
    (vhk_NoTree : PySem.W.findIn K (.ref e_NoTree) "__getattr__" = some none)
    (vhs_NoTree : PySem.W.subIn K (.ref e_NoTree) (.type "BaseException") = some true)
    (vhd_NoTree : PySem.W.hasDictIn K e_NoTree = true)
    (vha_NoTree : PySem.W.findIn K (.ref e_NoTree) "__class__" = some (some (.builtin "object.__class__")))
    (vhm_NoTree : PySem.W.mroIn K e_NoTree (.type "object") = some true)
    (vty_NoTree : PySem.W.typeIn K (.ref e_NoTree) = some (.type "type"))
    (vse_NoTree : PySem.W.subIn K (.ref e_NoTree) (.ref e_NoTree) = some true)
    (vhg_NoWishes : PySem.W.findIn K (.ref e_NoWishes) "__getattribute__" = some (some (.builtin "BaseException.__getattribute__")))
    (vhk_NoWishes : PySem.W.findIn K (.ref e_NoWishes) "__getattr__" = some none)
    (vhs_NoWishes : PySem.W.subIn K (.ref e_NoWishes) (.type "BaseException") = some true)
    (vhd_NoWishes : PySem.W.hasDictIn K e_NoWishes = true)
    (vha_NoWishes : PySem.W.findIn K (.ref e_NoWishes) "__class__" = some (some (.builtin "object.__class__")))
    (vhm_NoWishes : PySem.W.mroIn K e_NoWishes (.type "object") = some true)
    (vty_NoWishes : PySem.W.typeIn K (.ref e_NoWishes) = some (.type "type"))
    (vse_NoWishes : PySem.W.subIn K (.ref e_NoWishes) (.ref e_NoWishes) = some true)
    (vhg_TooMany : PySem.W.findIn K (.ref e_TooMany) "__getattribute__" = some (some (.builtin "BaseException.__getattribute__")))
    (vhk_TooMany : PySem.W.findIn K (.ref e_TooMany) "__getattr__" = some none)
    (vhs_TooMany : PySem.W.subIn K (.ref e_TooMany) (.type "BaseException") = some true)
    (vhd_TooMany : PySem.W.hasDictIn K e_TooMany = true)
    (vha_TooMany : PySem.W.findIn K (.ref e_TooMany) "__class__" = some (some (.builtin "object.__class__")))
    (vhm_TooMany : PySem.W.mroIn K e_TooMany (.type "object") = some true)
    (vty_TooMany : PySem.W.typeIn K (.ref e_TooMany) = some (.type "type"))
    (vse_TooMany : PySem.W.subIn K (.ref e_TooMany) (.ref e_TooMany) = some true)
    (vhg_NoShip : PySem.W.findIn K (.ref e_NoShip) "__getattribute__" = some (some (.builtin "BaseException.__getattribute__")))
    (vhk_NoShip : PySem.W.findIn K (.ref e_NoShip) "__getattr__" = some none)
    (vhs_NoShip : PySem.W.subIn K (.ref e_NoShip) (.type "BaseException") = some true)
    (vhd_NoShip : PySem.W.hasDictIn K e_NoShip = true)
    (vha_NoShip : PySem.W.findIn K (.ref e_NoShip) "__class__" = some (some (.builtin "object.__class__")))
    (vhm_NoShip : PySem.W.mroIn K e_NoShip (.type "object") = some true)
    (vty_NoShip : PySem.W.typeIn K (.ref e_NoShip) = some (.type "type"))
    (vse_NoShip : PySem.W.subIn K (.ref e_NoShip) (.ref e_NoShip) = some true)
    (vhg_NoText : PySem.W.findIn K (.ref e_NoText) "__getattribute__" = some (some (.builtin "BaseException.__getattribute__")))
    (vhk_NoText : PySem.W.findIn K (.ref e_NoText) "__getattr__" = some none)
    (vhs_NoText : PySem.W.subIn K (.ref e_NoText) (.type "BaseException") = some true)
    (vhd_NoText : PySem.W.hasDictIn K e_NoText = true)
    (vha_NoText : PySem.W.findIn K (.ref e_NoText) "__class__" = some (some (.builtin "object.__class__")))
    (vhm_NoText : PySem.W.mroIn K e_NoText (.type "object") = some true)
    (vty_NoText : PySem.W.typeIn K (.ref e_NoText) = some (.type "type"))
    (vse_NoText : PySem.W.subIn K (.ref e_NoText) (.ref e_NoText) = some true)
    (vhg_Taken : PySem.W.findIn K (.ref e_Taken) "__getattribute__" = some (some (.builtin "BaseException.__getattribute__")))
    (vhk_Taken : PySem.W.findIn K (.ref e_Taken) "__getattr__" = some none)
    (vhs_Taken : PySem.W.subIn K (.ref e_Taken) (.type "BaseException") = some true)
    (vhd_Taken : PySem.W.hasDictIn K e_Taken = true)
    (vha_Taken : PySem.W.findIn K (.ref e_Taken) "__class__" = some (some (.builtin "object.__class__")))
    (vhm_Taken : PySem.W.mroIn K e_Taken (.type "object") = some true)
    (vty_Taken : PySem.W.typeIn K (.ref e_Taken) = some (.type "type"))
    (vse_Taken : PySem.W.subIn K (.ref e_Taken) (.ref e_Taken) = some true)
    (vhg_NoWish : PySem.W.findIn K (.ref e_NoWish) "__getattribute__" = some (some (.builtin "BaseException.__getattribute__")))
    (vhk_NoWish : PySem.W.findIn K (.ref e_NoWish) "__getattr__" = some none)
    (vhs_NoWish : PySem.W.subIn K (.ref e_NoWish) (.type "BaseException") = some true)
    (vhd_NoWish : PySem.W.hasDictIn K e_NoWish = true)
    (vha_NoWish : PySem.W.findIn K (.ref e_NoWish) "__class__" = some (some (.builtin "object.__class__")))
    (vhm_NoWish : PySem.W.mroIn K e_NoWish (.type "object") = some true)
    (vty_NoWish : PySem.W.typeIn K (.ref e_NoWish) = some (.type "type"))
    (vse_NoWish : PySem.W.subIn K (.ref e_NoWish) (.ref e_NoWish) = some true)
    (vhg_NoRoom : PySem.W.findIn K (.ref e_NoRoom) "__getattribute__" = some (some (.builtin "BaseException.__getattribute__")))
    (vhk_NoRoom : PySem.W.findIn K (.ref e_NoRoom) "__getattr__" = some none)
    (vhs_NoRoom : PySem.W.subIn K (.ref e_NoRoom) (.type "BaseException") = some true)
    (vhd_NoRoom : PySem.W.hasDictIn K e_NoRoom = true)
    (vha_NoRoom : PySem.W.findIn K (.ref e_NoRoom) "__class__" = some (some (.builtin "object.__class__")))
    (vhm_NoRoom : PySem.W.mroIn K e_NoRoom (.type "object") = some true)
    (vty_NoRoom : PySem.W.typeIn K (.ref e_NoRoom) = some (.type "type"))
    (vse_NoRoom : PySem.W.subIn K (.ref e_NoRoom) (.ref e_NoRoom) = some true)
    (w_NoText_BerthError : PySem.W.subIn K (.ref e_NoText) (.ref e_BerthError) = some true)
    (w_NoText_NoCount : PySem.W.subIn K (.ref e_NoText) (.ref e_NoCount) = some false)
    (w_NoText_NoOrder : PySem.W.subIn K (.ref e_NoText) (.ref e_NoOrder) = some false)
    (w_NoText_NoQuay : PySem.W.subIn K (.ref e_NoText) (.ref e_NoQuay) = some false)
    (w_NoText_NoName : PySem.W.subIn K (.ref e_NoText) (.ref e_NoName) = some false)
    (w_NoText_NoTree : PySem.W.subIn K (.ref e_NoText) (.ref e_NoTree) = some false)
    (w_NoText_NoWishes : PySem.W.subIn K (.ref e_NoText) (.ref e_NoWishes) = some false)
    (w_NoText_TooMany : PySem.W.subIn K (.ref e_NoText) (.ref e_TooMany) = some false)
    (w_NoText_NoShip : PySem.W.subIn K (.ref e_NoText) (.ref e_NoShip) = some false)
    (w_NoText_NoText : PySem.W.subIn K (.ref e_NoText) (.ref e_NoText) = some true)
    (w_NoText_Taken : PySem.W.subIn K (.ref e_NoText) (.ref e_Taken) = some false)
    (w_NoText_NoWish : PySem.W.subIn K (.ref e_NoText) (.ref e_NoWish) = some false)
    (w_NoText_NoRoom : PySem.W.subIn K (.ref e_NoText) (.ref e_NoRoom) = some false)
    (w_Taken_BerthError : PySem.W.subIn K (.ref e_Taken) (.ref e_BerthError) = some true)
    (w_Taken_NoCount : PySem.W.subIn K (.ref e_Taken) (.ref e_NoCount) = some false)
    (w_Taken_NoOrder : PySem.W.subIn K (.ref e_Taken) (.ref e_NoOrder) = some false)
    (w_Taken_NoQuay : PySem.W.subIn K (.ref e_Taken) (.ref e_NoQuay) = some false)
    (w_Taken_NoName : PySem.W.subIn K (.ref e_Taken) (.ref e_NoName) = some false)
    (w_Taken_NoTree : PySem.W.subIn K (.ref e_Taken) (.ref e_NoTree) = some false)
    (w_Taken_NoWishes : PySem.W.subIn K (.ref e_Taken) (.ref e_NoWishes) = some false)
    (w_Taken_TooMany : PySem.W.subIn K (.ref e_Taken) (.ref e_TooMany) = some false)
    (w_Taken_NoShip : PySem.W.subIn K (.ref e_Taken) (.ref e_NoShip) = some false)
    (w_Taken_NoText : PySem.W.subIn K (.ref e_Taken) (.ref e_NoText) = some false)
    (w_Taken_Taken : PySem.W.subIn K (.ref e_Taken) (.ref e_Taken) = some true)
    (w_Taken_NoWish : PySem.W.subIn K (.ref e_Taken) (.ref e_NoWish) = some false)
    (w_Taken_NoRoom : PySem.W.subIn K (.ref e_Taken) (.ref e_NoRoom) = some false)
    (w_NoWish_BerthError : PySem.W.subIn K (.ref e_NoWish) (.ref e_BerthError) = some true)
    (w_NoWish_NoCount : PySem.W.subIn K (.ref e_NoWish) (.ref e_NoCount) = some false)
    (w_NoWish_NoOrder : PySem.W.subIn K (.ref e_NoWish) (.ref e_NoOrder) = some false)
    (w_NoWish_NoQuay : PySem.W.subIn K (.ref e_NoWish) (.ref e_NoQuay) = some false)
    (w_NoWish_NoName : PySem.W.subIn K (.ref e_NoWish) (.ref e_NoName) = some false)
    (w_NoWish_NoTree : PySem.W.subIn K (.ref e_NoWish) (.ref e_NoTree) = some false)
    (w_NoWish_NoWishes : PySem.W.subIn K (.ref e_NoWish) (.ref e_NoWishes) = some false)
    (w_NoWish_TooMany : PySem.W.subIn K (.ref e_NoWish) (.ref e_TooMany) = some false)
    (w_NoWish_NoShip : PySem.W.subIn K (.ref e_NoWish) (.ref e_NoShip) = some false)
    (w_NoWish_NoText : PySem.W.subIn K (.ref e_NoWish) (.ref e_NoText) = some false)
    (w_NoWish_Taken : PySem.W.subIn K (.ref e_NoWish) (.ref e_Taken) = some false)
    (w_NoWish_NoWish : PySem.W.subIn K (.ref e_NoWish) (.ref e_NoWish) = some true)
    (w_NoWish_NoRoom : PySem.W.subIn K (.ref e_NoWish) (.ref e_NoRoom) = some false)
    (w_NoRoom_BerthError : PySem.W.subIn K (.ref e_NoRoom) (.ref e_BerthError) = some true)
    (w_NoRoom_NoCount : PySem.W.subIn K (.ref e_NoRoom) (.ref e_NoCount) = some false)
    (w_NoRoom_NoOrder : PySem.W.subIn K (.ref e_NoRoom) (.ref e_NoOrder) = some false)
    (w_NoRoom_NoQuay : PySem.W.subIn K (.ref e_NoRoom) (.ref e_NoQuay) = some false)
    (w_NoRoom_NoName : PySem.W.subIn K (.ref e_NoRoom) (.ref e_NoName) = some false)
    (w_NoRoom_NoTree : PySem.W.subIn K (.ref e_NoRoom) (.ref e_NoTree) = some false)
    (w_NoRoom_NoWishes : PySem.W.subIn K (.ref e_NoRoom) (.ref e_NoWishes) = some false)
    (w_NoRoom_TooMany : PySem.W.subIn K (.ref e_NoRoom) (.ref e_TooMany) = some false)
    (w_NoRoom_NoShip : PySem.W.subIn K (.ref e_NoRoom) (.ref e_NoShip) = some false)
    (w_NoRoom_NoText : PySem.W.subIn K (.ref e_NoRoom) (.ref e_NoText) = some false)
    (w_NoRoom_Taken : PySem.W.subIn K (.ref e_NoRoom) (.ref e_Taken) = some false)
    (w_NoRoom_NoWish : PySem.W.subIn K (.ref e_NoRoom) (.ref e_NoWish) = some false)
    (w_NoRoom_NoRoom : PySem.W.subIn K (.ref e_NoRoom) (.ref e_NoRoom) = some true)
    (ic_Quay : PySem.W.findIn K (.ref c_Quay) "__class__" = some (some (.builtin "object.__class__")))
    (im2_Quay : PySem.W.mroIn K c_Quay (.type "object") = some true)
    (kt_Quay : PySem.W.typeIn K (.ref c_Quay) = some (.type "type"))
    (ic_Round : PySem.W.findIn K (.ref c_Round) "__class__" = some (some (.builtin "object.__class__")))
    (im2_Round : PySem.W.mroIn K c_Round (.type "object") = some true)
    (kt_Round : PySem.W.typeIn K (.ref c_Round) = some (.type "type"))
    (ks_QR : PySem.W.subIn K (.ref c_Quay) (.ref c_Round) = some false)
    (ks_RQ : PySem.W.subIn K (.ref c_Round) (.ref c_Quay) = some true)
    : ∃ fd : FuncData, (∀ (s : Shared) (v : Value), BindsTo s fd ⟨[v], []⟩ [("_law_script", v)]) ∧ ∀ base : Heap, K.In base → base.Ns mainGlobals mg → FnOk P w K mg base CX0 9 fa fd ["_law_script"] (sp_law K) := by
  have e := hfa.symm.trans (PySem.W.mg_of X G a_law)
  cases e
  have T : Txt K mg ({ f_is_number := f_is_number, f_is_from_to := f_is_from_to, f_is_name := f_is_name, f_check_quay := f_check_quay, f_first_free := f_first_free, f_first_free_round := f_first_free_round, f_Q_init := f_Q_init, f_p_check_name := f_p_check_name, f_Q_first_free := f_Q_first_free, f_R_first_free := f_R_first_free, f_Q_held := f_Q_held, f_Q_come := f_Q_come, f_Q_check_there := f_Q_check_there, f_Q_all_ships := f_Q_all_ships, f_R_all_ships := f_R_all_ships, f_Q_leave := f_Q_leave, f_Q_where := f_Q_where, f_Q_free_ones := f_Q_free_ones, f_Q_size := f_Q_size, f_Q_kind := f_Q_kind, f_R_init := f_R_init, f_R_come := f_R_come, f_R_leave := f_R_leave, f_R_where := f_R_where, f_R_free_ones := f_R_free_ones, f_R_size := f_R_size, f_R_kind := f_R_kind, f_written := f_written, f_p_number := f_p_number, f_p_pair := f_p_pair, f_p_parts := f_p_parts, f_read := f_read, f_l_cell_at := f_l_cell_at, f_l_mix := f_l_mix, f_l_words := f_l_words, f_l_read := f_l_read, f_l_text := f_l_text, f_l_drawn := f_l_drawn, f_l_odd_text := f_l_odd_text, e_BerthError := e_BerthError, e_NoCount := e_NoCount, e_NoName := e_NoName, e_NoOrder := e_NoOrder, e_NoQuay := e_NoQuay, e_NoRoom := e_NoRoom, e_NoShip := e_NoShip, e_NoText := e_NoText, e_NoTree := e_NoTree, e_NoWish := e_NoWish, e_NoWishes := e_NoWishes, e_Taken := e_Taken, e_TooMany := e_TooMany, c_Quay := c_Quay, c_Round := c_Round } : Ad) := ⟨trivial,
    PySem.W.mg_none_of X G z_int,
    PySem.W.mg_none_of X G z_isinstance,
    PySem.W.mg_none_of X G z_len,
    PySem.W.mg_none_of X G z_range,
    PySem.W.mg_none_of X G z_str,
    PySem.W.mg_none_of X G z_type,
    ⟨_, PySem.W.mg_of X G y_MOST, ⟨_, rfl⟩⟩,
    ⟨_, PySem.W.mg_of X G y_LONGEST, ⟨_, rfl⟩⟩,
    ⟨PySem.W.mg_of X G xg_BerthError, xx_BerthError, xk_BerthError, xb_BerthError, xt_BerthError⟩,
    ⟨PySem.W.mg_of X G xg_NoCount, xx_NoCount, xk_NoCount, xb_NoCount, xt_NoCount⟩,
    ⟨PySem.W.mg_of X G xg_NoName, xx_NoName, xk_NoName, xb_NoName, xt_NoName⟩,
    ⟨PySem.W.mg_of X G xg_NoOrder, xx_NoOrder, xk_NoOrder, xb_NoOrder, xt_NoOrder⟩,
    ⟨PySem.W.mg_of X G xg_NoQuay, xx_NoQuay, xk_NoQuay, xb_NoQuay, xt_NoQuay⟩,
    ⟨PySem.W.mg_of X G xg_NoRoom, xx_NoRoom, xk_NoRoom, xb_NoRoom, xt_NoRoom⟩,
    ⟨PySem.W.mg_of X G xg_NoShip, xx_NoShip, xk_NoShip, xb_NoShip, xt_NoShip⟩,
    ⟨PySem.W.mg_of X G xg_NoText, xx_NoText, xk_NoText, xb_NoText, xt_NoText⟩,
    ⟨PySem.W.mg_of X G xg_NoTree, xx_NoTree, xk_NoTree, xb_NoTree, xt_NoTree⟩,
    ⟨PySem.W.mg_of X G xg_NoWish, xx_NoWish, xk_NoWish, xb_NoWish, xt_NoWish⟩,
    ⟨PySem.W.mg_of X G xg_NoWishes, xx_NoWishes, xk_NoWishes, xb_NoWishes, xt_NoWishes⟩,
    ⟨PySem.W.mg_of X G xg_Taken, xx_Taken, xk_Taken, xb_Taken, xt_Taken⟩,
    ⟨PySem.W.mg_of X G xg_TooMany, xx_TooMany, xk_TooMany, xb_TooMany, xt_TooMany⟩,
    ⟨⟨vhg_BerthError, vhk_BerthError, vhs_BerthError, vhd_BerthError, vha_BerthError, v_hn, v_ht, vhm_BerthError⟩, vty_BerthError, vse_BerthError⟩,
    ⟨⟨vhg_NoCount, vhk_NoCount, vhs_NoCount, vhd_NoCount, vha_NoCount, v_hn, v_ht, vhm_NoCount⟩, vty_NoCount, vse_NoCount⟩,
    ⟨⟨vhg_NoOrder, vhk_NoOrder, vhs_NoOrder, vhd_NoOrder, vha_NoOrder, v_hn, v_ht, vhm_NoOrder⟩, vty_NoOrder, vse_NoOrder⟩,
    ⟨⟨vhg_NoQuay, vhk_NoQuay, vhs_NoQuay, vhd_NoQuay, vha_NoQuay, v_hn, v_ht, vhm_NoQuay⟩, vty_NoQuay, vse_NoQuay⟩,
    ⟨⟨vhg_NoName, vhk_NoName, vhs_NoName, vhd_NoName, vha_NoName, v_hn, v_ht, vhm_NoName⟩, vty_NoName, vse_NoName⟩,
    ⟨⟨vhg_NoTree, vhk_NoTree, vhs_NoTree, vhd_NoTree, vha_NoTree, v_hn, v_ht, vhm_NoTree⟩, vty_NoTree, vse_NoTree⟩,
    ⟨⟨vhg_NoWishes, vhk_NoWishes, vhs_NoWishes, vhd_NoWishes, vha_NoWishes, v_hn, v_ht, vhm_NoWishes⟩, vty_NoWishes, vse_NoWishes⟩,
    ⟨⟨vhg_TooMany, vhk_TooMany, vhs_TooMany, vhd_TooMany, vha_TooMany, v_hn, v_ht, vhm_TooMany⟩, vty_TooMany, vse_TooMany⟩,
    ⟨⟨vhg_NoShip, vhk_NoShip, vhs_NoShip, vhd_NoShip, vha_NoShip, v_hn, v_ht, vhm_NoShip⟩, vty_NoShip, vse_NoShip⟩,
    ⟨⟨vhg_NoText, vhk_NoText, vhs_NoText, vhd_NoText, vha_NoText, v_hn, v_ht, vhm_NoText⟩, vty_NoText, vse_NoText⟩,
    ⟨⟨vhg_Taken, vhk_Taken, vhs_Taken, vhd_Taken, vha_Taken, v_hn, v_ht, vhm_Taken⟩, vty_Taken, vse_Taken⟩,
    ⟨⟨vhg_NoWish, vhk_NoWish, vhs_NoWish, vhd_NoWish, vha_NoWish, v_hn, v_ht, vhm_NoWish⟩, vty_NoWish, vse_NoWish⟩,
    ⟨⟨vhg_NoRoom, vhk_NoRoom, vhs_NoRoom, vhd_NoRoom, vha_NoRoom, v_hn, v_ht, vhm_NoRoom⟩, vty_NoRoom, vse_NoRoom⟩,
    w_NoText_BerthError,
    w_NoText_NoCount,
    w_NoText_NoOrder,
    w_NoText_NoQuay,
    w_NoText_NoName,
    w_NoText_NoTree,
    w_NoText_NoWishes,
    w_NoText_TooMany,
    w_NoText_NoShip,
    w_NoText_NoText,
    w_NoText_Taken,
    w_NoText_NoWish,
    w_NoText_NoRoom,
    w_Taken_BerthError,
    w_Taken_NoCount,
    w_Taken_NoOrder,
    w_Taken_NoQuay,
    w_Taken_NoName,
    w_Taken_NoTree,
    w_Taken_NoWishes,
    w_Taken_TooMany,
    w_Taken_NoShip,
    w_Taken_NoText,
    w_Taken_Taken,
    w_Taken_NoWish,
    w_Taken_NoRoom,
    w_NoWish_BerthError,
    w_NoWish_NoCount,
    w_NoWish_NoOrder,
    w_NoWish_NoQuay,
    w_NoWish_NoName,
    w_NoWish_NoTree,
    w_NoWish_NoWishes,
    w_NoWish_TooMany,
    w_NoWish_NoShip,
    w_NoWish_NoText,
    w_NoWish_Taken,
    w_NoWish_NoWish,
    w_NoWish_NoRoom,
    w_NoRoom_BerthError,
    w_NoRoom_NoCount,
    w_NoRoom_NoOrder,
    w_NoRoom_NoQuay,
    w_NoRoom_NoName,
    w_NoRoom_NoTree,
    w_NoRoom_NoWishes,
    w_NoRoom_TooMany,
    w_NoRoom_NoShip,
    w_NoRoom_NoText,
    w_NoRoom_Taken,
    w_NoRoom_NoWish,
    w_NoRoom_NoRoom,
    (fun b => match b with | false => ⟨⟨pg_Quay, hd_Quay, po_Quay, sa_Quay⟩, nB_Quay, nS_Quay⟩ | true => ⟨⟨pg_Round, hd_Round, po_Round, sa_Round⟩, nB_Round, nS_Round⟩),
    ⟨mk_Quay, am_Q_init, im_Q_init, kc_Quay⟩,
    PySem.W.mg_of X G aC_Quay,
    ⟨mk_Round, am_R_init, im_R_init, kc_Round⟩,
    PySem.W.mg_of X G aC_Round,
    ⟨⟨rd_Quay, ga_Quay⟩, fc_Quay, kI_Q_init⟩,
    (fun b => match b with | false => ⟨⟨pg_Quay, hd_Quay, po_Quay, sa_Quay⟩, ic_Quay, v_hn, v_ht, im2_Quay, kit_self⟩ | true => ⟨⟨pg_Round, hd_Round, po_Round, sa_Round⟩, ic_Round, v_hn, v_ht, im2_Round, kit_self⟩),
    (kk_of (cls_some hd_Quay) (cls_some hd_Round) kt_Quay kt_Round ks_QR ks_RQ)⟩
  have D_is_number : DF K mg "is_number" s_is_number ["thing"] f_is_number := df_mk (fun_mk (st := s_is_number) l_is_number cI_is_number kI_is_number) (fun _ _ _ _ _ _ us hl => match us, hl with | [_], _ => rfl) (PySem.W.mg_of X G a_is_number)
  have D_is_from_to : DF K mg "is_from_to" s_is_from_to ["low", "high", "thing"] f_is_from_to := df_mk (fun_mk (st := s_is_from_to) l_is_from_to cI_is_from_to kI_is_from_to) (fun _ _ _ _ _ _ us hl => match us, hl with | [_, _, _], _ => rfl) (PySem.W.mg_of X G a_is_from_to)
  have D_is_name : DF K mg "is_name" s_is_name ["thing"] f_is_name := df_mk (fun_mk (st := s_is_name) l_is_name cI_is_name kI_is_name) (fun _ _ _ _ _ _ us hl => match us, hl with | [_], _ => rfl) (PySem.W.mg_of X G a_is_name)
  have D_check_quay : DF K mg "check_quay" s_check_quay ["berths"] f_check_quay := df_mk (fun_mk (st := s_check_quay) l_check_quay cI_check_quay kI_check_quay) (fun _ _ _ _ _ _ us hl => match us, hl with | [_], _ => rfl) (PySem.W.mg_of X G a_check_quay)
  have D_first_free : DF K mg "first_free" s_first_free ["held", "wish"] f_first_free := df_mk (fun_mk (st := s_first_free) l_first_free cI_first_free kI_first_free) (fun _ _ _ _ _ _ us hl => match us, hl with | [_, _], _ => rfl) (PySem.W.mg_of X G a_first_free)
  have D_first_free_round : DF K mg "first_free_round" s_first_free_round ["held", "wish"] f_first_free_round := df_mk (fun_mk (st := s_first_free_round) l_first_free_round cI_first_free_round kI_first_free_round) (fun _ _ _ _ _ _ us hl => match us, hl with | [_, _], _ => rfl) (PySem.W.mg_of X G a_first_free_round)
  have F_Q_init := fun_mk (x := "__init__") (qual := "Quay.__init__") (st := s_Q_init) l_Q_init cI_Q_init kI_Q_init
  have D_Q_init : ∃ fd, Fun K "__init__" "Quay.__init__" s_Q_init f_Q_init fd ∧ Binds K fd ["self", "berths"] [] := ⟨_, F_Q_init, F_Q_init.binds (ps := ["self", "berths"]) (fun _ _ _ _ _ _ us hl => match us, hl with | [_, _], _ => rfl)⟩
  have D_p_check_name : DF K mg "_check_name" s_p_check_name ["name"] f_p_check_name := df_mk (fun_mk (st := s_p_check_name) l_p_check_name cI_p_check_name kI_p_check_name) (fun _ _ _ _ _ _ us hl => match us, hl with | [_], _ => rfl) (PySem.W.mg_of X G a_p_check_name)
  have F_Q_first_free := fun_mk (x := "_first_free") (qual := "Quay._first_free") (st := s_Q_first_free) l_Q_first_free cI_Q_first_free kI_Q_first_free
  have D_Q_first_free : ∃ fd, Fun K "_first_free" "Quay._first_free" s_Q_first_free f_Q_first_free fd ∧ Binds K fd ["self", "held", "wish"] [] := ⟨_, F_Q_first_free, F_Q_first_free.binds (ps := ["self", "held", "wish"]) (fun _ _ _ _ _ _ us hl => match us, hl with | [_, _, _], _ => rfl)⟩
  have F_R_first_free := fun_mk (x := "_first_free") (qual := "Round._first_free") (st := s_R_first_free) l_R_first_free cI_R_first_free kI_R_first_free
  have D_R_first_free : ∃ fd, Fun K "_first_free" "Round._first_free" s_R_first_free f_R_first_free fd ∧ Binds K fd ["self", "held", "wish"] [] := ⟨_, F_R_first_free, F_R_first_free.binds (ps := ["self", "held", "wish"]) (fun _ _ _ _ _ _ us hl => match us, hl with | [_, _, _], _ => rfl)⟩
  have F_Q_held := fun_mk (x := "_held") (qual := "Quay._held") (st := s_Q_held) l_Q_held cI_Q_held kI_Q_held
  have D_Q_held : ∃ fd, Fun K "_held" "Quay._held" s_Q_held f_Q_held fd ∧ Binds K fd ["self"] [] := ⟨_, F_Q_held, F_Q_held.binds (ps := ["self"]) (fun _ _ _ _ _ _ us hl => match us, hl with | [_], _ => rfl)⟩
  have F_Q_come := fun_mk (x := "come") (qual := "Quay.come") (st := s_Q_come) l_Q_come cI_Q_come kI_Q_come
  have D_Q_come : ∃ fd, Fun K "come" "Quay.come" s_Q_come f_Q_come fd ∧ Binds K fd ["self", "name", "wish"] [] := ⟨_, F_Q_come, F_Q_come.binds (ps := ["self", "name", "wish"]) (fun _ _ _ _ _ _ us hl => match us, hl with | [_, _, _], _ => rfl)⟩
  have F_Q_check_there := fun_mk (x := "_check_there") (qual := "Quay._check_there") (st := s_Q_check_there) l_Q_check_there cI_Q_check_there kI_Q_check_there
  have D_Q_check_there : ∃ fd, Fun K "_check_there" "Quay._check_there" s_Q_check_there f_Q_check_there fd ∧ Binds K fd ["self", "name"] [] := ⟨_, F_Q_check_there, F_Q_check_there.binds (ps := ["self", "name"]) (fun _ _ _ _ _ _ us hl => match us, hl with | [_, _], _ => rfl)⟩
  have F_Q_all_ships := fun_mk (x := "all_ships") (qual := "Quay.all_ships") (st := s_Q_all_ships) l_Q_all_ships cI_Q_all_ships kI_Q_all_ships
  have D_Q_all_ships : ∃ fd, Fun K "all_ships" "Quay.all_ships" s_Q_all_ships f_Q_all_ships fd ∧ Binds K fd ["self"] [] := ⟨_, F_Q_all_ships, F_Q_all_ships.binds (ps := ["self"]) (fun _ _ _ _ _ _ us hl => match us, hl with | [_], _ => rfl)⟩
  have D_R_all_ships : SupDef P K mg c_Round f_R_all_ships f_Q_all_ships "all_ships" "Round.all_ships" s_R_all_ships := ⟨⟨_, _, _, _, _, _, _, _, _, _, _, _, _, _, _, _, _, _, _, l_R_all_ships, cI_R_all_ships, lc_R_all_ships, lf_R_all_ships, vf_R_all_ships, fe_R_all_ships⟩, su_ns, PySem.W.mg_none_of X G su_mg, supM_of su_lR su_lQ su_mR su_mQ am_Q_all_ships su_R su_any hd_Round fi_R_all_ships l_Q_all_ships⟩
  have F_Q_leave := fun_mk (x := "leave") (qual := "Quay.leave") (st := s_Q_leave) l_Q_leave cI_Q_leave kI_Q_leave
  have D_Q_leave : ∃ fd, Fun K "leave" "Quay.leave" s_Q_leave f_Q_leave fd ∧ Binds K fd ["self", "name"] [] := ⟨_, F_Q_leave, F_Q_leave.binds (ps := ["self", "name"]) (fun _ _ _ _ _ _ us hl => match us, hl with | [_, _], _ => rfl)⟩
  have F_Q_where := fun_mk (x := "where") (qual := "Quay.where") (st := s_Q_where) l_Q_where cI_Q_where kI_Q_where
  have D_Q_where : ∃ fd, Fun K "where" "Quay.where" s_Q_where f_Q_where fd ∧ Binds K fd ["self", "name"] [] := ⟨_, F_Q_where, F_Q_where.binds (ps := ["self", "name"]) (fun _ _ _ _ _ _ us hl => match us, hl with | [_, _], _ => rfl)⟩
  have F_Q_free_ones := fun_mk (x := "free_ones") (qual := "Quay.free_ones") (st := s_Q_free_ones) l_Q_free_ones cI_Q_free_ones kI_Q_free_ones
  have D_Q_free_ones : ∃ fd, Fun K "free_ones" "Quay.free_ones" s_Q_free_ones f_Q_free_ones fd ∧ Binds K fd ["self"] [] := ⟨_, F_Q_free_ones, F_Q_free_ones.binds (ps := ["self"]) (fun _ _ _ _ _ _ us hl => match us, hl with | [_], _ => rfl)⟩
  have F_Q_size := fun_mk (x := "size") (qual := "Quay.size") (st := s_Q_size) l_Q_size cI_Q_size kI_Q_size
  have D_Q_size : ∃ fd, Fun K "size" "Quay.size" s_Q_size f_Q_size fd ∧ Binds K fd ["self"] [] := ⟨_, F_Q_size, F_Q_size.binds (ps := ["self"]) (fun _ _ _ _ _ _ us hl => match us, hl with | [_], _ => rfl)⟩
  have F_Q_kind := fun_mk (x := "kind") (qual := "Quay.kind") (st := s_Q_kind) l_Q_kind cI_Q_kind kI_Q_kind
  have D_Q_kind : ∃ fd, Fun K "kind" "Quay.kind" s_Q_kind f_Q_kind fd ∧ Binds K fd ["self"] [] := ⟨_, F_Q_kind, F_Q_kind.binds (ps := ["self"]) (fun _ _ _ _ _ _ us hl => match us, hl with | [_], _ => rfl)⟩
  have F_R_init := fun_mk (x := "__init__") (qual := "Round.__init__") (st := s_R_init) l_R_init cI_R_init kI_R_init
  have D_R_init : ∃ fd, Fun K "__init__" "Round.__init__" s_R_init f_R_init fd ∧ Binds K fd ["self", "berths"] [] := ⟨_, F_R_init, F_R_init.binds (ps := ["self", "berths"]) (fun _ _ _ _ _ _ us hl => match us, hl with | [_, _], _ => rfl)⟩
  have D_R_come : SupDef P K mg c_Round f_R_come f_Q_come "come" "Round.come" s_R_come := ⟨⟨_, _, _, _, _, _, _, _, _, _, _, _, _, _, _, _, _, _, _, l_R_come, cI_R_come, lc_R_come, lf_R_come, vf_R_come, fe_R_come⟩, su_ns, PySem.W.mg_none_of X G su_mg, supM_of su_lR su_lQ su_mR su_mQ am_Q_come su_R su_any hd_Round fi_R_come l_Q_come⟩
  have D_R_leave : SupDef P K mg c_Round f_R_leave f_Q_leave "leave" "Round.leave" s_R_leave := ⟨⟨_, _, _, _, _, _, _, _, _, _, _, _, _, _, _, _, _, _, _, l_R_leave, cI_R_leave, lc_R_leave, lf_R_leave, vf_R_leave, fe_R_leave⟩, su_ns, PySem.W.mg_none_of X G su_mg, supM_of su_lR su_lQ su_mR su_mQ am_Q_leave su_R su_any hd_Round fi_R_leave l_Q_leave⟩
  have D_R_where : SupDef P K mg c_Round f_R_where f_Q_where "where" "Round.where" s_R_where := ⟨⟨_, _, _, _, _, _, _, _, _, _, _, _, _, _, _, _, _, _, _, l_R_where, cI_R_where, lc_R_where, lf_R_where, vf_R_where, fe_R_where⟩, su_ns, PySem.W.mg_none_of X G su_mg, supM_of su_lR su_lQ su_mR su_mQ am_Q_where su_R su_any hd_Round fi_R_where l_Q_where⟩
  have D_R_free_ones : SupDef P K mg c_Round f_R_free_ones f_Q_free_ones "free_ones" "Round.free_ones" s_R_free_ones := ⟨⟨_, _, _, _, _, _, _, _, _, _, _, _, _, _, _, _, _, _, _, l_R_free_ones, cI_R_free_ones, lc_R_free_ones, lf_R_free_ones, vf_R_free_ones, fe_R_free_ones⟩, su_ns, PySem.W.mg_none_of X G su_mg, supM_of su_lR su_lQ su_mR su_mQ am_Q_free_ones su_R su_any hd_Round fi_R_free_ones l_Q_free_ones⟩
  have D_R_size : SupDef P K mg c_Round f_R_size f_Q_size "size" "Round.size" s_R_size := ⟨⟨_, _, _, _, _, _, _, _, _, _, _, _, _, _, _, _, _, _, _, l_R_size, cI_R_size, lc_R_size, lf_R_size, vf_R_size, fe_R_size⟩, su_ns, PySem.W.mg_none_of X G su_mg, supM_of su_lR su_lQ su_mR su_mQ am_Q_size su_R su_any hd_Round fi_R_size l_Q_size⟩
  have F_R_kind := fun_mk (x := "kind") (qual := "Round.kind") (st := s_R_kind) l_R_kind cI_R_kind kI_R_kind
  have D_R_kind : ∃ fd, Fun K "kind" "Round.kind" s_R_kind f_R_kind fd ∧ Binds K fd ["self"] [] := ⟨_, F_R_kind, F_R_kind.binds (ps := ["self"]) (fun _ _ _ _ _ _ us hl => match us, hl with | [_], _ => rfl)⟩
  have D_written : DF K mg "written" s_written ["quay"] f_written := df_mk (fun_mk (st := s_written) l_written cI_written kI_written) (fun _ _ _ _ _ _ us hl => match us, hl with | [_], _ => rfl) (PySem.W.mg_of X G a_written)
  have D_p_number : DF K mg "_number" s_p_number ["word"] f_p_number := df_mk (fun_mk (st := s_p_number) l_p_number cI_p_number kI_p_number) (fun _ _ _ _ _ _ us hl => match us, hl with | [_], _ => rfl) (PySem.W.mg_of X G a_p_number)
  have D_p_pair : DF K mg "_pair" s_p_pair ["row"] f_p_pair := df_mk (fun_mk (st := s_p_pair) l_p_pair cI_p_pair kI_p_pair) (fun _ _ _ _ _ _ us hl => match us, hl with | [_], _ => rfl) (PySem.W.mg_of X G a_p_pair)
  have D_p_parts : DF K mg "_parts" s_p_parts ["text"] f_p_parts := df_mk (fun_mk (st := s_p_parts) l_p_parts cI_p_parts kI_p_parts) (fun _ _ _ _ _ _ us hl => match us, hl with | [_], _ => rfl) (PySem.W.mg_of X G a_p_parts)
  have D_read : DF K mg "read" s_read ["text"] f_read := df_mk (fun_mk (st := s_read) l_read cI_read kI_read) (fun _ _ _ _ _ _ us hl => match us, hl with | [_], _ => rfl) (PySem.W.mg_of X G a_read)
  have D_l_cell_at : DF K mg "_law_cell_at" s_l_cell_at ["_law_script", "_law_k"] f_l_cell_at := df_mk (fun_mk (st := s_l_cell_at) l_l_cell_at cI_l_cell_at kI_l_cell_at) (fun _ _ _ _ _ _ us hl => match us, hl with | [_, _], _ => rfl) (PySem.W.mg_of X G a_l_cell_at)
  have D_l_mix : DF K mg "_law_mix" s_l_mix ["_law_state", "_law_cell"] f_l_mix := df_mk (fun_mk (st := s_l_mix) l_l_mix cI_l_mix kI_l_mix) (fun _ _ _ _ _ _ us hl => match us, hl with | [_, _], _ => rfl) (PySem.W.mg_of X G a_l_mix)
  have D_l_words : DF K mg "_law_words" s_l_words ["_law_e"] f_l_words := df_mk (fun_mk (st := s_l_words) l_l_words cI_l_words kI_l_words) (fun _ _ _ _ _ _ us hl => match us, hl with | [_], _ => rfl) (PySem.W.mg_of X G a_l_words)
  have D_l_read : DF K mg "_law_read" s_l_read ["_law_text_here"] f_l_read := df_mk (fun_mk (st := s_l_read) l_l_read cI_l_read kI_l_read) (fun _ _ _ _ _ _ us hl => match us, hl with | [_], _ => rfl) (PySem.W.mg_of X G a_l_read)
  have D_l_text : DF K mg "_law_text" s_l_text ["_law_quay"] f_l_text := df_mk (fun_mk (st := s_l_text) l_l_text cI_l_text kI_l_text) (fun _ _ _ _ _ _ us hl => match us, hl with | [_], _ => rfl) (PySem.W.mg_of X G a_l_text)
  have D_l_drawn : DF K mg "_law_drawn" s_l_drawn ["_law_script"] f_l_drawn := df_mk (fun_mk (st := s_l_drawn) l_l_drawn cI_l_drawn kI_l_drawn) (fun _ _ _ _ _ _ us hl => match us, hl with | [_], _ => rfl) (PySem.W.mg_of X G a_l_drawn)
  have D_l_odd_text : DF K mg "_law_odd_text" s_l_odd_text ["_law_text_here", "_law_quay", "_law_cell"] f_l_odd_text := df_mk (fun_mk (st := s_l_odd_text) l_l_odd_text cI_l_odd_text kI_l_odd_text) (fun _ _ _ _ _ _ us hl => match us, hl with | [_, _, _], _ => rfl) (PySem.W.mg_of X G a_l_odd_text)
  refine ⟨PySem.W.fnOf "law" "law" (defArgs s_law) (defBody s_law) (defScope s_law) .none kV_law dc_law pm_law an_law cd_law ct_law, fun s v => .of_eq rfl, fun base _ _ => ?_⟩
  have g_is_number := ok_is_number (P := P) (w := w) (base := base) D_is_number T
  have g_is_from_to := ok_is_from_to (P := P) (w := w) (base := base) D_is_from_to T g_is_number
  have g_is_name := ok_is_name (P := P) (w := w) (base := base) D_is_name T
  have g_check_quay := ok_check_quay (P := P) (w := w) (base := base) D_check_quay T g_is_from_to
  have g_first_free := ok_first_free (P := P) (w := w) (base := base) D_first_free T
  have g_first_free_round := ok_first_free_round (P := P) (w := w) (base := base) D_first_free_round T g_first_free
  have M_Q_init := fun b => ok_Q_init (P := P) (w := w) (base := base) b D_Q_init T g_check_quay
  have G_Q_init := M_Q_init
  have g_p_check_name := ok_p_check_name (P := P) (w := w) (base := base) D_p_check_name T g_is_name
  have M_Q_first_free := ok_Q_first_free (P := P) (w := w) (base := base) D_Q_first_free T g_first_free
  have M_R_first_free := ok_R_first_free (P := P) (w := w) (base := base) D_R_first_free T g_first_free_round
  have G_first_free := mb_two (k := 3) (m := "_first_free") (sp := fun a b => sp_M_first_free K a b) T M_Q_first_free M_R_first_free ⟨am_Q_first_free, im_Q_first_free, kI_Q_first_free⟩ ⟨am_R_first_free, im_R_first_free, kI_R_first_free⟩ (by decide) (by decide)
  have M_Q_held := fun b => ok_Q_held (P := P) (w := w) (base := base) b D_Q_held T
  have G_held := mb_one (k := 1) (m := "_held") (sp := fun a b => sp_M_held K a b) T M_Q_held ⟨am_Q_held, im_Q_held, kI_Q_held⟩ ⟨ai_Q_held, im_Q_held, kI_Q_held⟩ (by decide)
  have M_Q_come := fun b => ok_Q_come (P := P) (w := w) (base := base) b D_Q_come T g_is_from_to G_first_free G_held g_p_check_name
  have M_Q_check_there := fun b => ok_Q_check_there (P := P) (w := w) (base := base) b D_Q_check_there T g_p_check_name
  have G_check_there := mb_one (k := 3) (m := "_check_there") (sp := fun a b => sp_M_check_there K a b) T M_Q_check_there ⟨am_Q_check_there, im_Q_check_there, kI_Q_check_there⟩ ⟨ai_Q_check_there, im_Q_check_there, kI_Q_check_there⟩ (by decide)
  have M_Q_all_ships := fun b => ok_Q_all_ships (P := P) (w := w) (base := base) b D_Q_all_ships T
  have M_R_all_ships := ok_R_all_ships (P := P) (w := w) (base := base) D_R_all_ships (M_Q_all_ships true)
  have G_all_ships := mb_two (k := 2) (m := "all_ships") (sp := fun a b => sp_M_all_ships K a b) T (M_Q_all_ships false) M_R_all_ships ⟨am_Q_all_ships, im_Q_all_ships, kI_Q_all_ships⟩ ⟨am_R_all_ships, im_R_all_ships, kI_R_all_ships⟩ (by decide) (by decide)
  have M_Q_leave := fun b => ok_Q_leave (P := P) (w := w) (base := base) b D_Q_leave T G_all_ships G_first_free G_check_there
  have M_Q_where := fun b => ok_Q_where (P := P) (w := w) (base := base) b D_Q_where T G_check_there
  have M_Q_free_ones := fun b => ok_Q_free_ones (P := P) (w := w) (base := base) b D_Q_free_ones T G_held
  have M_Q_size := fun b => ok_Q_size (P := P) (w := w) (base := base) b D_Q_size T
  have M_Q_kind := ok_Q_kind (P := P) (w := w) (base := base) D_Q_kind T
  have M_R_init := ok_R_init (P := P) (w := w) (base := base) D_R_init T G_Q_init
  have G_R_init := M_R_init
  have M_R_come := ok_R_come (P := P) (w := w) (base := base) D_R_come (M_Q_come true)
  have G_come := mb_two (k := 5) (m := "come") (sp := fun a b => sp_M_come K a b) T (M_Q_come false) M_R_come ⟨am_Q_come, im_Q_come, kI_Q_come⟩ ⟨am_R_come, im_R_come, kI_R_come⟩ (by decide) (by decide)
  have M_R_leave := ok_R_leave (P := P) (w := w) (base := base) D_R_leave (M_Q_leave true)
  have G_leave := mb_two (k := 5) (m := "leave") (sp := fun a b => sp_M_leave K a b) T (M_Q_leave false) M_R_leave ⟨am_Q_leave, im_Q_leave, kI_Q_leave⟩ ⟨am_R_leave, im_R_leave, kI_R_leave⟩ (by decide) (by decide)
  have M_R_where := ok_R_where (P := P) (w := w) (base := base) D_R_where (M_Q_where true)
  have G_where := mb_two (k := 5) (m := "where") (sp := fun a b => sp_M_where K a b) T (M_Q_where false) M_R_where ⟨am_Q_where, im_Q_where, kI_Q_where⟩ ⟨am_R_where, im_R_where, kI_R_where⟩ (by decide) (by decide)
  have M_R_free_ones := ok_R_free_ones (P := P) (w := w) (base := base) D_R_free_ones (M_Q_free_ones true)
  have G_free_ones := mb_two (k := 3) (m := "free_ones") (sp := fun a b => sp_M_free_ones K a b) T (M_Q_free_ones false) M_R_free_ones ⟨am_Q_free_ones, im_Q_free_ones, kI_Q_free_ones⟩ ⟨am_R_free_ones, im_R_free_ones, kI_R_free_ones⟩ (by decide) (by decide)
  have M_R_size := ok_R_size (P := P) (w := w) (base := base) D_R_size (M_Q_size true)
  have G_size := mb_two (k := 2) (m := "size") (sp := fun a b => sp_M_size K a b) T (M_Q_size false) M_R_size ⟨am_Q_size, im_Q_size, kI_Q_size⟩ ⟨am_R_size, im_R_size, kI_R_size⟩ (by decide) (by decide)
  have M_R_kind := ok_R_kind (P := P) (w := w) (base := base) D_R_kind T
  have G_kind := mb_two (k := 1) (m := "kind") (sp := fun a b => sp_M_kind K a b) T M_Q_kind M_R_kind ⟨am_Q_kind, im_Q_kind, kI_Q_kind⟩ ⟨am_R_kind, im_R_kind, kI_R_kind⟩ (by decide) (by decide)
  have g_written := ok_written (P := P) (w := w) (base := base) D_written T G_all_ships G_size G_kind
  have g_p_number := ok_p_number (P := P) (w := w) (base := base) D_p_number T
  have g_p_pair := ok_p_pair (P := P) (w := w) (base := base) D_p_pair T g_p_number
  have g_p_parts := ok_p_parts (P := P) (w := w) (base := base) D_p_parts T g_is_name g_p_pair
  have g_read := ok_read (P := P) (w := w) (base := base) D_read T G_Q_init G_come G_R_init g_p_parts
  have g_l_cell_at := ok_l_cell_at (P := P) (w := w) (base := base) D_l_cell_at T
  have g_l_mix := ok_l_mix (P := P) (w := w) (base := base) D_l_mix T
  have g_l_words := ok_l_words (P := P) (w := w) (base := base) D_l_words T
  have g_l_read := ok_l_read (P := P) (w := w) (base := base) D_l_read T g_read g_l_words
  have g_l_text := ok_l_text (P := P) (w := w) (base := base) D_l_text T G_all_ships G_size G_kind
  have g_l_drawn := ok_l_drawn (P := P) (w := w) (base := base) D_l_drawn T G_Q_init G_come G_leave G_all_ships G_free_ones G_kind G_R_init g_l_cell_at g_l_mix
  have g_l_odd_text := ok_l_odd_text (P := P) (w := w) (base := base) D_l_odd_text T G_size
  exact ok_law (fun_mk (st := s_law) l_law cI_law kI_law) T G_all_ships G_free_ones G_size g_written g_read g_l_read g_l_text g_l_drawn g_l_odd_text
end Br
open PySem PySem.W PyProof.Rows
set_option maxHeartbeats 0 in
theorem PySem.Challenge.cw_berthrow_k13_books_holds : PySem.Challenge.rw_berthrow_k13_books.Holds := by
  w_on; o_law; k_head; (case hw => w_witness2)
  k_fill
  refine L2.walk_of (l := PySem.Challenge.rw_berthrow_k13_books) (n := 63) (k := 9) (x := "_law_script") (CX := fun _ => L2.CX0) (sp := fun w => Br.sp_law _) rfl (by decide) rfl ⟨rfl, by decide, by decide⟩ (fun w h Y => PySem.W.kIn_of Y) ?F (fun _ _ a ns hl _ hS => ⟨a, ns, rfl, hS, hl, fun _ => rfl⟩) (fun _ _ _ _ _ h => h)
  case F =>
    intro w mg fa h KX G hmg
    refine' Br.all_mk KX G hmg ?aC_Quay ?pg_Quay ?hd_Quay ?po_Quay ?sa_Quay ?mk_Quay ?kc_Quay ?nB_Quay ?nS_Quay ?aC_Round ?pg_Round ?hd_Round ?po_Round ?sa_Round ?mk_Round ?kc_Round ?nB_Round ?nS_Round ?a_is_number ?l_is_number ?cI_is_number ?kI_is_number ?a_is_from_to ?l_is_from_to ?cI_is_from_to ?kI_is_from_to ?a_is_name ?l_is_name ?cI_is_name ?kI_is_name ?a_check_quay ?l_check_quay ?cI_check_quay ?kI_check_quay ?a_first_free ?l_first_free ?cI_first_free ?kI_first_free ?a_first_free_round ?l_first_free_round ?cI_first_free_round ?kI_first_free_round ?am_Q_init ?im_Q_init ?l_Q_init ?cI_Q_init ?kI_Q_init ?a_p_check_name ?l_p_check_name ?cI_p_check_name ?kI_p_check_name ?am_Q_first_free ?im_Q_first_free ?l_Q_first_free ?cI_Q_first_free ?kI_Q_first_free ?am_R_first_free ?im_R_first_free ?l_R_first_free ?cI_R_first_free ?kI_R_first_free ?am_Q_held ?im_Q_held ?l_Q_held ?cI_Q_held ?kI_Q_held ?ai_Q_held ?am_Q_come ?im_Q_come ?l_Q_come ?cI_Q_come ?kI_Q_come ?am_Q_check_there ?im_Q_check_there ?l_Q_check_there ?cI_Q_check_there ?kI_Q_check_there ?ai_Q_check_there ?am_Q_all_ships ?im_Q_all_ships ?l_Q_all_ships ?cI_Q_all_ships ?kI_Q_all_ships ?am_R_all_ships ?im_R_all_ships ?l_R_all_ships ?cI_R_all_ships ?lc_R_all_ships ?lf_R_all_ships ?vf_R_all_ships ?fe_R_all_ships ?fi_R_all_ships ?kI_R_all_ships ?am_Q_leave ?im_Q_leave ?l_Q_leave ?cI_Q_leave ?kI_Q_leave ?am_Q_where ?im_Q_where ?l_Q_where ?cI_Q_where ?kI_Q_where ?am_Q_free_ones ?im_Q_free_ones ?l_Q_free_ones ?cI_Q_free_ones ?kI_Q_free_ones ?am_Q_size ?im_Q_size ?l_Q_size ?cI_Q_size ?kI_Q_size ?am_Q_kind ?im_Q_kind ?l_Q_kind ?cI_Q_kind ?kI_Q_kind ?am_R_init ?im_R_init ?l_R_init ?cI_R_init ?kI_R_init ?am_R_come ?im_R_come ?l_R_come ?cI_R_come ?lc_R_come ?lf_R_come ?vf_R_come ?fe_R_come ?fi_R_come ?kI_R_come ?am_R_leave ?im_R_leave ?l_R_leave ?cI_R_leave ?lc_R_leave ?lf_R_leave ?vf_R_leave ?fe_R_leave ?fi_R_leave ?kI_R_leave ?am_R_where ?im_R_where ?l_R_where ?cI_R_where ?lc_R_where ?lf_R_where ?vf_R_where ?fe_R_where ?fi_R_where ?kI_R_where ?am_R_free_ones ?im_R_free_ones ?l_R_free_ones ?cI_R_free_ones ?lc_R_free_ones ?lf_R_free_ones ?vf_R_free_ones ?fe_R_free_ones ?fi_R_free_ones ?kI_R_free_ones ?am_R_size ?im_R_size ?l_R_size ?cI_R_size ?lc_R_size ?lf_R_size ?vf_R_size ?fe_R_size ?fi_R_size ?kI_R_size ?am_R_kind ?im_R_kind ?l_R_kind ?cI_R_kind ?kI_R_kind ?a_written ?l_written ?cI_written ?kI_written ?a_p_number ?l_p_number ?cI_p_number ?kI_p_number ?a_p_pair ?l_p_pair ?cI_p_pair ?kI_p_pair ?a_p_parts ?l_p_parts ?cI_p_parts ?kI_p_parts ?a_read ?l_read ?cI_read ?kI_read ?a_l_cell_at ?l_l_cell_at ?cI_l_cell_at ?kI_l_cell_at ?a_l_mix ?l_l_mix ?cI_l_mix ?kI_l_mix ?a_l_words ?l_l_words ?cI_l_words ?kI_l_words ?a_l_read ?l_l_read ?cI_l_read ?kI_l_read ?a_l_text ?l_l_text ?cI_l_text ?kI_l_text ?a_l_drawn ?l_l_drawn ?cI_l_drawn ?kI_l_drawn ?a_l_odd_text ?l_l_odd_text ?cI_l_odd_text ?kI_l_odd_text ?a_law ?l_law ?cI_law ?kI_law ?rd_Quay ?ga_Quay ?fc_Quay ?su_lR ?su_lQ ?su_mR ?su_mQ ?su_R ?su_any ?su_ns ?su_mg ?z_int ?z_isinstance ?z_len ?z_range ?z_str ?z_type ?y_MOST ?y_LONGEST ?xg_BerthError ?xx_BerthError ?xk_BerthError ?xb_BerthError ?xt_BerthError ?xg_NoCount ?xx_NoCount ?xk_NoCount ?xb_NoCount ?xt_NoCount ?xg_NoName ?xx_NoName ?xk_NoName ?xb_NoName ?xt_NoName ?xg_NoOrder ?xx_NoOrder ?xk_NoOrder ?xb_NoOrder ?xt_NoOrder ?xg_NoQuay ?xx_NoQuay ?xk_NoQuay ?xb_NoQuay ?xt_NoQuay ?xg_NoRoom ?xx_NoRoom ?xk_NoRoom ?xb_NoRoom ?xt_NoRoom ?xg_NoShip ?xx_NoShip ?xk_NoShip ?xb_NoShip ?xt_NoShip ?xg_NoText ?xx_NoText ?xk_NoText ?xb_NoText ?xt_NoText ?xg_NoTree ?xx_NoTree ?xk_NoTree ?xb_NoTree ?xt_NoTree ?xg_NoWish ?xx_NoWish ?xk_NoWish ?xb_NoWish ?xt_NoWish ?xg_NoWishes ?xx_NoWishes ?xk_NoWishes ?xb_NoWishes ?xt_NoWishes ?xg_Taken ?xx_Taken ?xk_Taken ?xb_Taken ?xt_Taken ?xg_TooMany ?xx_TooMany ?xk_TooMany ?xb_TooMany ?xt_TooMany ?v_hn ?v_ht ?vhg_BerthError ?vhk_BerthError ?vhs_BerthError ?vhd_BerthError ?vha_BerthError ?vhm_BerthError ?vty_BerthError ?vse_BerthError ?vhg_NoCount ?vhk_NoCount ?vhs_NoCount ?vhd_NoCount ?vha_NoCount ?vhm_NoCount ?vty_NoCount ?vse_NoCount ?vhg_NoOrder ?vhk_NoOrder ?vhs_NoOrder ?vhd_NoOrder ?vha_NoOrder ?vhm_NoOrder ?vty_NoOrder ?vse_NoOrder ?vhg_NoQuay ?vhk_NoQuay ?vhs_NoQuay ?vhd_NoQuay ?vha_NoQuay ?vhm_NoQuay ?vty_NoQuay ?vse_NoQuay ?vhg_NoName ?vhk_NoName ?vhs_NoName ?vhd_NoName ?vha_NoName ?vhm_NoName ?vty_NoName ?vse_NoName ?vhg_NoTree ?vhk_NoTree ?vhs_NoTree ?vhd_NoTree ?vha_NoTree ?vhm_NoTree ?vty_NoTree ?vse_NoTree ?vhg_NoWishes ?vhk_NoWishes ?vhs_NoWishes ?vhd_NoWishes ?vha_NoWishes ?vhm_NoWishes ?vty_NoWishes ?vse_NoWishes ?vhg_TooMany ?vhk_TooMany ?vhs_TooMany ?vhd_TooMany ?vha_TooMany ?vhm_TooMany ?vty_TooMany ?vse_TooMany ?vhg_NoShip ?vhk_NoShip ?vhs_NoShip ?vhd_NoShip ?vha_NoShip ?vhm_NoShip ?vty_NoShip ?vse_NoShip ?vhg_NoText ?vhk_NoText ?vhs_NoText ?vhd_NoText ?vha_NoText ?vhm_NoText ?vty_NoText ?vse_NoText ?vhg_Taken ?vhk_Taken ?vhs_Taken ?vhd_Taken ?vha_Taken ?vhm_Taken ?vty_Taken ?vse_Taken ?vhg_NoWish ?vhk_NoWish ?vhs_NoWish ?vhd_NoWish ?vha_NoWish ?vhm_NoWish ?vty_NoWish ?vse_NoWish ?vhg_NoRoom ?vhk_NoRoom ?vhs_NoRoom ?vhd_NoRoom ?vha_NoRoom ?vhm_NoRoom ?vty_NoRoom ?vse_NoRoom ?w_NoText_BerthError ?w_NoText_NoCount ?w_NoText_NoOrder ?w_NoText_NoQuay ?w_NoText_NoName ?w_NoText_NoTree ?w_NoText_NoWishes ?w_NoText_TooMany ?w_NoText_NoShip ?w_NoText_NoText ?w_NoText_Taken ?w_NoText_NoWish ?w_NoText_NoRoom ?w_Taken_BerthError ?w_Taken_NoCount ?w_Taken_NoOrder ?w_Taken_NoQuay ?w_Taken_NoName ?w_Taken_NoTree ?w_Taken_NoWishes ?w_Taken_TooMany ?w_Taken_NoShip ?w_Taken_NoText ?w_Taken_Taken ?w_Taken_NoWish ?w_Taken_NoRoom ?w_NoWish_BerthError ?w_NoWish_NoCount ?w_NoWish_NoOrder ?w_NoWish_NoQuay ?w_NoWish_NoName ?w_NoWish_NoTree ?w_NoWish_NoWishes ?w_NoWish_TooMany ?w_NoWish_NoShip ?w_NoWish_NoText ?w_NoWish_Taken ?w_NoWish_NoWish ?w_NoWish_NoRoom ?w_NoRoom_BerthError ?w_NoRoom_NoCount ?w_NoRoom_NoOrder ?w_NoRoom_NoQuay ?w_NoRoom_NoName ?w_NoRoom_NoTree ?w_NoRoom_NoWishes ?w_NoRoom_TooMany ?w_NoRoom_NoShip ?w_NoRoom_NoText ?w_NoRoom_Taken ?w_NoRoom_NoWish ?w_NoRoom_NoRoom ?ic_Quay ?im2_Quay ?kt_Quay ?ic_Round ?im2_Round ?kt_Round ?ks_QR ?ks_RQ
    (case aC_Quay => k_is)
    (case pg_Quay => k_is)
    (case hd_Quay => k_is)
    (case po_Quay => k_is)
    (case sa_Quay => k_is)
    (case mk_Quay => k_is)
    (case kc_Quay => k_is)
    (case nB_Quay => k_is)
    (case nS_Quay => k_is)
    (case aC_Round => k_is)
    (case pg_Round => k_is)
    (case hd_Round => k_is)
    (case po_Round => k_is)
    (case sa_Round => k_is)
    (case mk_Round => k_is)
    (case kc_Round => k_is)
    (case nB_Round => k_is)
    (case nS_Round => k_is)
    (case a_is_number => k_is)
    (case l_is_number => k_is)
    (case cI_is_number => k_is)
    (case kI_is_number => k_is)
    (case a_is_from_to => k_is)
    (case l_is_from_to => k_is)
    (case cI_is_from_to => k_is)
    (case kI_is_from_to => k_is)
    (case a_is_name => k_is)
    (case l_is_name => k_is)
    (case cI_is_name => k_is)
    (case kI_is_name => k_is)
    (case a_check_quay => k_is)
    (case l_check_quay => k_is)
    (case cI_check_quay => k_is)
    (case kI_check_quay => k_is)
    (case a_first_free => k_is)
    (case l_first_free => k_is)
    (case cI_first_free => k_is)
    (case kI_first_free => k_is)
    (case a_first_free_round => k_is)
    (case l_first_free_round => k_is)
    (case cI_first_free_round => k_is)
    (case kI_first_free_round => k_is)
    (case am_Q_init => k_is)
    (case im_Q_init => k_is)
    (case l_Q_init => k_is)
    (case cI_Q_init => k_is)
    (case kI_Q_init => k_is)
    (case a_p_check_name => k_is)
    (case l_p_check_name => k_is)
    (case cI_p_check_name => k_is)
    (case kI_p_check_name => k_is)
    (case am_Q_first_free => k_is)
    (case im_Q_first_free => k_is)
    (case l_Q_first_free => k_is)
    (case cI_Q_first_free => k_is)
    (case kI_Q_first_free => k_is)
    (case am_R_first_free => k_is)
    (case im_R_first_free => k_is)
    (case l_R_first_free => k_is)
    (case cI_R_first_free => k_is)
    (case kI_R_first_free => k_is)
    (case am_Q_held => k_is)
    (case im_Q_held => k_is)
    (case l_Q_held => k_is)
    (case cI_Q_held => k_is)
    (case kI_Q_held => k_is)
    (case ai_Q_held => k_is)
    (case am_Q_come => k_is)
    (case im_Q_come => k_is)
    (case l_Q_come => k_is)
    (case cI_Q_come => k_is)
    (case kI_Q_come => k_is)
    (case am_Q_check_there => k_is)
    (case im_Q_check_there => k_is)
    (case l_Q_check_there => k_is)
    (case cI_Q_check_there => k_is)
    (case kI_Q_check_there => k_is)
    (case ai_Q_check_there => k_is)
    (case am_Q_all_ships => k_is)
    (case im_Q_all_ships => k_is)
    (case l_Q_all_ships => k_is)
    (case cI_Q_all_ships => k_is)
    (case kI_Q_all_ships => k_is)
    (case am_R_all_ships => k_is)
    (case im_R_all_ships => k_is)
    (case l_R_all_ships => k_is)
    (case cI_R_all_ships => k_is)
    (case lc_R_all_ships => k_is)
    (case lf_R_all_ships => k_is)
    (case vf_R_all_ships => rfl)
    (case fe_R_all_ships => rfl)
    (case fi_R_all_ships => k_is)
    (case kI_R_all_ships => k_is)
    (case am_Q_leave => k_is)
    (case im_Q_leave => k_is)
    (case l_Q_leave => k_is)
    (case cI_Q_leave => k_is)
    (case kI_Q_leave => k_is)
    (case am_Q_where => k_is)
    (case im_Q_where => k_is)
    (case l_Q_where => k_is)
    (case cI_Q_where => k_is)
    (case kI_Q_where => k_is)
    (case am_Q_free_ones => k_is)
    (case im_Q_free_ones => k_is)
    (case l_Q_free_ones => k_is)
    (case cI_Q_free_ones => k_is)
    (case kI_Q_free_ones => k_is)
    (case am_Q_size => k_is)
    (case im_Q_size => k_is)
    (case l_Q_size => k_is)
    (case cI_Q_size => k_is)
    (case kI_Q_size => k_is)
    (case am_Q_kind => k_is)
    (case im_Q_kind => k_is)
    (case l_Q_kind => k_is)
    (case cI_Q_kind => k_is)
    (case kI_Q_kind => k_is)
    (case am_R_init => k_is)
    (case im_R_init => k_is)
    (case l_R_init => k_is)
    (case cI_R_init => k_is)
    (case kI_R_init => k_is)
    (case am_R_come => k_is)
    (case im_R_come => k_is)
    (case l_R_come => k_is)
    (case cI_R_come => k_is)
    (case lc_R_come => k_is)
    (case lf_R_come => k_is)
    (case vf_R_come => rfl)
    (case fe_R_come => rfl)
    (case fi_R_come => k_is)
    (case kI_R_come => k_is)
    (case am_R_leave => k_is)
    (case im_R_leave => k_is)
    (case l_R_leave => k_is)
    (case cI_R_leave => k_is)
    (case lc_R_leave => k_is)
    (case lf_R_leave => k_is)
    (case vf_R_leave => rfl)
    (case fe_R_leave => rfl)
    (case fi_R_leave => k_is)
    (case kI_R_leave => k_is)
    (case am_R_where => k_is)
    (case im_R_where => k_is)
    (case l_R_where => k_is)
    (case cI_R_where => k_is)
    (case lc_R_where => k_is)
    (case lf_R_where => k_is)
    (case vf_R_where => rfl)
    (case fe_R_where => rfl)
    (case fi_R_where => k_is)
    (case kI_R_where => k_is)
    (case am_R_free_ones => k_is)
    (case im_R_free_ones => k_is)
    (case l_R_free_ones => k_is)
    (case cI_R_free_ones => k_is)
    (case lc_R_free_ones => k_is)
    (case lf_R_free_ones => k_is)
    (case vf_R_free_ones => rfl)
    (case fe_R_free_ones => rfl)
    (case fi_R_free_ones => k_is)
    (case kI_R_free_ones => k_is)
    (case am_R_size => k_is)
    (case im_R_size => k_is)
    (case l_R_size => k_is)
    (case cI_R_size => k_is)
    (case lc_R_size => k_is)
    (case lf_R_size => k_is)
    (case vf_R_size => rfl)
    (case fe_R_size => rfl)
    (case fi_R_size => k_is)
    (case kI_R_size => k_is)
    (case am_R_kind => k_is)
    (case im_R_kind => k_is)
    (case l_R_kind => k_is)
    (case cI_R_kind => k_is)
    (case kI_R_kind => k_is)
    (case a_written => k_is)
    (case l_written => k_is)
    (case cI_written => k_is)
    (case kI_written => k_is)
    (case a_p_number => k_is)
    (case l_p_number => k_is)
    (case cI_p_number => k_is)
    (case kI_p_number => k_is)
    (case a_p_pair => k_is)
    (case l_p_pair => k_is)
    (case cI_p_pair => k_is)
    (case kI_p_pair => k_is)
    (case a_p_parts => k_is)
    (case l_p_parts => k_is)
    (case cI_p_parts => k_is)
    (case kI_p_parts => k_is)
    (case a_read => k_is)
    (case l_read => k_is)
    (case cI_read => k_is)
    (case kI_read => k_is)
    (case a_l_cell_at => k_is)
    (case l_l_cell_at => k_is)
    (case cI_l_cell_at => k_is)
    (case kI_l_cell_at => k_is)
    (case a_l_mix => k_is)
    (case l_l_mix => k_is)
    (case cI_l_mix => k_is)
    (case kI_l_mix => k_is)
    (case a_l_words => k_is)
    (case l_l_words => k_is)
    (case cI_l_words => k_is)
    (case kI_l_words => k_is)
    (case a_l_read => k_is)
    (case l_l_read => k_is)
    (case cI_l_read => k_is)
    (case kI_l_read => k_is)
    (case a_l_text => k_is)
    (case l_l_text => k_is)
    (case cI_l_text => k_is)
    (case kI_l_text => k_is)
    (case a_l_drawn => k_is)
    (case l_l_drawn => k_is)
    (case cI_l_drawn => k_is)
    (case kI_l_drawn => k_is)
    (case a_l_odd_text => k_is)
    (case l_l_odd_text => k_is)
    (case cI_l_odd_text => k_is)
    (case kI_l_odd_text => k_is)
    (case a_law => k_is)
    (case l_law => k_is)
    (case cI_law => k_is)
    (case kI_law => k_is)
    (case rd_Quay => k_is)
    (case ga_Quay => k_is)
    (case fc_Quay => k_is)
    (case su_lR => k_is)
    (case su_lQ => k_is)
    (case su_mR => rfl)
    (case su_mQ => rfl)
    (case su_R => k_is)
    (case su_any => k_is)
    (case su_ns => rfl)
    (case su_mg => k_is)
    (case z_int => k_is)
    (case z_isinstance => k_is)
    (case z_len => k_is)
    (case z_range => k_is)
    (case z_str => k_is)
    (case z_type => k_is)
    (case y_MOST => k_is)
    (case y_LONGEST => k_is)
    (case xg_BerthError => k_is)
    (case xx_BerthError => k_exc)
    (case xk_BerthError => k_is)
    (case xb_BerthError => k_is)
    (case xt_BerthError => k_is)
    (case xg_NoCount => k_is)
    (case xx_NoCount => k_exc)
    (case xk_NoCount => k_is)
    (case xb_NoCount => k_is)
    (case xt_NoCount => k_is)
    (case xg_NoName => k_is)
    (case xx_NoName => k_exc)
    (case xk_NoName => k_is)
    (case xb_NoName => k_is)
    (case xt_NoName => k_is)
    (case xg_NoOrder => k_is)
    (case xx_NoOrder => k_exc)
    (case xk_NoOrder => k_is)
    (case xb_NoOrder => k_is)
    (case xt_NoOrder => k_is)
    (case xg_NoQuay => k_is)
    (case xx_NoQuay => k_exc)
    (case xk_NoQuay => k_is)
    (case xb_NoQuay => k_is)
    (case xt_NoQuay => k_is)
    (case xg_NoRoom => k_is)
    (case xx_NoRoom => k_exc)
    (case xk_NoRoom => k_is)
    (case xb_NoRoom => k_is)
    (case xt_NoRoom => k_is)
    (case xg_NoShip => k_is)
    (case xx_NoShip => k_exc)
    (case xk_NoShip => k_is)
    (case xb_NoShip => k_is)
    (case xt_NoShip => k_is)
    (case xg_NoText => k_is)
    (case xx_NoText => k_exc)
    (case xk_NoText => k_is)
    (case xb_NoText => k_is)
    (case xt_NoText => k_is)
    (case xg_NoTree => k_is)
    (case xx_NoTree => k_exc)
    (case xk_NoTree => k_is)
    (case xb_NoTree => k_is)
    (case xt_NoTree => k_is)
    (case xg_NoWish => k_is)
    (case xx_NoWish => k_exc)
    (case xk_NoWish => k_is)
    (case xb_NoWish => k_is)
    (case xt_NoWish => k_is)
    (case xg_NoWishes => k_is)
    (case xx_NoWishes => k_exc)
    (case xk_NoWishes => k_is)
    (case xb_NoWishes => k_is)
    (case xt_NoWishes => k_is)
    (case xg_Taken => k_is)
    (case xx_Taken => k_exc)
    (case xk_Taken => k_is)
    (case xb_Taken => k_is)
    (case xt_Taken => k_is)
    (case xg_TooMany => k_is)
    (case xx_TooMany => k_exc)
    (case xk_TooMany => k_is)
    (case xb_TooMany => k_is)
    (case xt_TooMany => k_is)
    (case v_hn => k_is)
    (case v_ht => k_is)
    (case vhg_BerthError => k_is)
    (case vhk_BerthError => k_is)
    (case vhs_BerthError => k_is)
    (case vhd_BerthError => k_is)
    (case vha_BerthError => k_is)
    (case vhm_BerthError => k_is)
    (case vty_BerthError => k_is)
    (case vse_BerthError => k_is)
    (case vhg_NoCount => k_is)
    (case vhk_NoCount => k_is)
    (case vhs_NoCount => k_is)
    (case vhd_NoCount => k_is)
    (case vha_NoCount => k_is)
    (case vhm_NoCount => k_is)
    (case vty_NoCount => k_is)
    (case vse_NoCount => k_is)
    (case vhg_NoOrder => k_is)
    (case vhk_NoOrder => k_is)
    (case vhs_NoOrder => k_is)
    (case vhd_NoOrder => k_is)
    (case vha_NoOrder => k_is)
    (case vhm_NoOrder => k_is)
    (case vty_NoOrder => k_is)
    (case vse_NoOrder => k_is)
    (case vhg_NoQuay => k_is)
    (case vhk_NoQuay => k_is)
    (case vhs_NoQuay => k_is)
    (case vhd_NoQuay => k_is)
    (case vha_NoQuay => k_is)
    (case vhm_NoQuay => k_is)
    (case vty_NoQuay => k_is)
    (case vse_NoQuay => k_is)
    (case vhg_NoName => k_is)
    (case vhk_NoName => k_is)
    (case vhs_NoName => k_is)
    (case vhd_NoName => k_is)
    (case vha_NoName => k_is)
    (case vhm_NoName => k_is)
    (case vty_NoName => k_is)
    (case vse_NoName => k_is)
    (case vhg_NoTree => k_is)
    (case vhk_NoTree => k_is)
    (case vhs_NoTree => k_is)
    (case vhd_NoTree => k_is)
    (case vha_NoTree => k_is)
    (case vhm_NoTree => k_is)
    (case vty_NoTree => k_is)
    (case vse_NoTree => k_is)
    (case vhg_NoWishes => k_is)
    (case vhk_NoWishes => k_is)
    (case vhs_NoWishes => k_is)
    (case vhd_NoWishes => k_is)
    (case vha_NoWishes => k_is)
    (case vhm_NoWishes => k_is)
    (case vty_NoWishes => k_is)
    (case vse_NoWishes => k_is)
    (case vhg_TooMany => k_is)
    (case vhk_TooMany => k_is)
    (case vhs_TooMany => k_is)
    (case vhd_TooMany => k_is)
    (case vha_TooMany => k_is)
    (case vhm_TooMany => k_is)
    (case vty_TooMany => k_is)
    (case vse_TooMany => k_is)
    (case vhg_NoShip => k_is)
    (case vhk_NoShip => k_is)
    (case vhs_NoShip => k_is)
    (case vhd_NoShip => k_is)
    (case vha_NoShip => k_is)
    (case vhm_NoShip => k_is)
    (case vty_NoShip => k_is)
    (case vse_NoShip => k_is)
    (case vhg_NoText => k_is)
    (case vhk_NoText => k_is)
    (case vhs_NoText => k_is)
    (case vhd_NoText => k_is)
    (case vha_NoText => k_is)
    (case vhm_NoText => k_is)
    (case vty_NoText => k_is)
    (case vse_NoText => k_is)
    (case vhg_Taken => k_is)
    (case vhk_Taken => k_is)
    (case vhs_Taken => k_is)
    (case vhd_Taken => k_is)
    (case vha_Taken => k_is)
    (case vhm_Taken => k_is)
    (case vty_Taken => k_is)
    (case vse_Taken => k_is)
    (case vhg_NoWish => k_is)
    (case vhk_NoWish => k_is)
    (case vhs_NoWish => k_is)
    (case vhd_NoWish => k_is)
    (case vha_NoWish => k_is)
    (case vhm_NoWish => k_is)
    (case vty_NoWish => k_is)
    (case vse_NoWish => k_is)
    (case vhg_NoRoom => k_is)
    (case vhk_NoRoom => k_is)
    (case vhs_NoRoom => k_is)
    (case vhd_NoRoom => k_is)
    (case vha_NoRoom => k_is)
    (case vhm_NoRoom => k_is)
    (case vty_NoRoom => k_is)
    (case vse_NoRoom => k_is)
    (case w_NoText_BerthError => k_is)
    (case w_NoText_NoCount => k_is)
    (case w_NoText_NoOrder => k_is)
    (case w_NoText_NoQuay => k_is)
    (case w_NoText_NoName => k_is)
    (case w_NoText_NoTree => k_is)
    (case w_NoText_NoWishes => k_is)
    (case w_NoText_TooMany => k_is)
    (case w_NoText_NoShip => k_is)
    (case w_NoText_NoText => k_is)
    (case w_NoText_Taken => k_is)
    (case w_NoText_NoWish => k_is)
    (case w_NoText_NoRoom => k_is)
    (case w_Taken_BerthError => k_is)
    (case w_Taken_NoCount => k_is)
    (case w_Taken_NoOrder => k_is)
    (case w_Taken_NoQuay => k_is)
    (case w_Taken_NoName => k_is)
    (case w_Taken_NoTree => k_is)
    (case w_Taken_NoWishes => k_is)
    (case w_Taken_TooMany => k_is)
    (case w_Taken_NoShip => k_is)
    (case w_Taken_NoText => k_is)
    (case w_Taken_Taken => k_is)
    (case w_Taken_NoWish => k_is)
    (case w_Taken_NoRoom => k_is)
    (case w_NoWish_BerthError => k_is)
    (case w_NoWish_NoCount => k_is)
    (case w_NoWish_NoOrder => k_is)
    (case w_NoWish_NoQuay => k_is)
    (case w_NoWish_NoName => k_is)
    (case w_NoWish_NoTree => k_is)
    (case w_NoWish_NoWishes => k_is)
    (case w_NoWish_TooMany => k_is)
    (case w_NoWish_NoShip => k_is)
    (case w_NoWish_NoText => k_is)
    (case w_NoWish_Taken => k_is)
    (case w_NoWish_NoWish => k_is)
    (case w_NoWish_NoRoom => k_is)
    (case w_NoRoom_BerthError => k_is)
    (case w_NoRoom_NoCount => k_is)
    (case w_NoRoom_NoOrder => k_is)
    (case w_NoRoom_NoQuay => k_is)
    (case w_NoRoom_NoName => k_is)
    (case w_NoRoom_NoTree => k_is)
    (case w_NoRoom_NoWishes => k_is)
    (case w_NoRoom_TooMany => k_is)
    (case w_NoRoom_NoShip => k_is)
    (case w_NoRoom_NoText => k_is)
    (case w_NoRoom_Taken => k_is)
    (case w_NoRoom_NoWish => k_is)
    (case w_NoRoom_NoRoom => k_is)
    (case ic_Quay => k_is)
    (case im2_Quay => k_is)
    (case kt_Quay => k_is)
    (case ic_Round => k_is)
    (case im2_Round => k_is)
    (case kt_Round => k_is)
    (case ks_QR => k_is)
    (case ks_RQ => k_is)
