import PyProof.Rows.All
import Wide.All
import OpenK.AllK
import Wide.FinOn
import KE.KStateDown
import Lean
import PyProof.ReprRoads
import HandS.ForMost
import HandS.More
import HandS.Exc
import HandS.ExcOwn
import HandS.ExcIs
import HandS.TryOnly
import HandS.WordsExc
import HandS.Defaults
import HandS.Wide
import HandS.StrMore
import HandS.Replace
import HandS.Style
import HandS.Flow
import HandS.Zip
import HandS.Walk
import HandS.Evl
import HandS.Sort
import HandS.TupAny
import HandS.Head0
import HandS.Head1
import HandS.Head2
import HandS.HeadEnd
import HandS.HeadHook1
import HandS.HeadHook2
import KE.GoesMore
import KE.GoesEnum
import PyProof.CollectStr
import PyProof.ListStr
import HandS.Set
import HandS.TupMul
import KE.KRevSl
import PyProof.StrOps2
import PyProof.ReprLen
import KE.DataEq
import KE.DataFind
import KE.KeyNested
import HandS.Steps
import HandS.Deep
import HandS.WideBits
import HandS.Star
import HandS.IsInst
import HandS.ExcCtx
import HandS.HotCalls
import KE.GoesZip
import HandS.HeadHook3
import HandS.HeadHook4
import HandS.HeadNt
import HandS.SortInts
import KE.Datum
import PyProof.Rows.StrLawsPart
import HandS.Conv
import HandS.MakeKwOnly
import HandS.CallSlots
import HandS.Text
import HandS.Dict
import KE.KDictDisplayH
import HandS.ExcInit
import HandS.ExcField
import HandS.DictComp
import HandS.TupLen
import HandS.WordsDict
import KE.DataCmp
import HandS.SetKeys
import PyProof.DictMoreH
import HandS.DictTup
import HandS.SetFor
import KE.SortKeyHeap
import PySem.Challenge.RW_soundturns_k00_words_and_their_order
set_option Elab.async false
set_option linter.all false
set_option maxRecDepth 100000
set_option maxHeartbeats 4000000
namespace Sv
open PySem PySem.Spec PyProof.Rows L2
section
variable {X : Cx} {k : Nat} {sp : Sp} {x : Str} {p pos : Pos} {e : Expr} {es : List Expr} {t : TA} {E : XK}
theorem pe_gl {y : Str} {v : V} {q : Pos} (hg : Gl X y) (h : ∃ u, X.mg y = some u ∧ RelV v u) (hdb : (y == ("__debug__" : Str)) = false := by decide) : PE X (.Name y q) (tC v) := by
  obtain ⟨u, hm, r⟩ := h
  exact pe_glob hg hm r hdb
end
theorem gS {mg : Str → Option Value} {x z : Str} (h : ∃ t, mg x = some (.str z t)) : ∃ u, mg x = some u ∧ RelV (.str z) u := h.elim fun t e => ⟨_, e, ⟨t, rfl⟩⟩
theorem gI {mg : Str → Option Value} {x : Str} {i : Int} (h : ∃ t, mg x = some (.int i t)) : ∃ u, mg x = some u ∧ RelV (.int i) u := h.elim fun t e => ⟨_, e, ⟨t, rfl⟩⟩
end Sv
set_option Elab.async false
set_option linter.all false
set_option maxRecDepth 100000
set_option maxHeartbeats 4000000
namespace Sv
open PySem PySem.Spec PyProof.Rows L2
abbrev tx (l : List Nat) : Str := ⟨l.toArray⟩
theorem tx_len (l : List Nat) : (tx l).length = l.length := by simp [Str.length]
theorem tx_list (l : List Nat) : (tx l).cps.toList = l := by simp
theorem tx_of (s : Str) : s = tx s.cps.toList := by
  cases s
  simp
theorem tx_app (l m : List Nat) : tx l ++ tx m = tx (l ++ m) := by
  show (⟨l.toArray ++ m.toArray⟩ : Str) = _
  simp
inductive Er where
  | word | rule | machine | number | large
  deriving DecidableEq
def Er.nm : Er → Str
  | .word => "NotWord"
  | .rule => "NotRule"
  | .machine => "NotMachine"
  | .number => "BadNumber"
  | .large => "TooLarge"
def Out (K : PySem.W.Frag) (H : Hp) (Q : VK) (E : XK) : Except Er PyData → Prop
  | .ok d => ∀ v H', Same H H' → Dp K H' v d → Q v H'
  | .error e => ∀ H', Same H H' → E (.ref (He.ga K e.nm)) none H'
theorem Out.mono {K : PySem.W.Frag} {H H1 : Hp} {Q : VK} {E : XK} {r : Except Er PyData} (h : Out K H Q E r) (s : Same H H1) : Out K H1 Q E r := by
  cases r with
  | ok d => exact fun v H' s' hd => h v H' (s.trans s') hd
  | error e => exact fun H' s' => h H' (s.trans s')
theorem Same.new {H : Hp} {p : Addr} {o : HO} (h : H p = none) : Same H (upd H p o) := Evl.Ex.new h
theorem same_t {K : PySem.W.Frag} {H H' : Hp} {a : Addr} {xs : List V} (e : Same H H') (h : SqT K H a xs) : SqT K H' a xs := Evl.ex_t e h
theorem same_l {K : PySem.W.Frag} {H H' : Hp} {a : Addr} {xs : List V} (e : Same H H') (h : SqL K H a xs) : SqL K H' a xs := Evl.ex_l e h
mutual
theorem Dp.same {K : PySem.W.Frag} {H H' : Hp} (e : Same H H') : ∀ {d : PyData} {v : V}, Dp K H v d → Dp K H' v d
  | .none, _, .non => .non
  | .bool _, _, .bl b => .bl b
  | .int _, _, .int i => .int i
  | .str _, _, .str x => .str x
  | .list _, _, .lst h a => .lst (same_l e h) (DpAll.same e a)
  | .tuple _, _, .tup h a => .tup (same_t e h) (DpAll.same e a)
theorem DpAll.same {K : PySem.W.Frag} {H H' : Hp} (e : Same H H') : ∀ {ds : List PyData} {vs : List V}, DpAll K H vs ds → DpAll K H' vs ds
  | [], _, .nil => .nil
  | _ :: _, _, .cons h a => .cons (Dp.same e h) (DpAll.same e a)
end
structure ExcF (K : PySem.W.Frag) (mg : Str → Option Value) (x : Str) : Prop where
  g : mg x = some (.ref (He.ga K x))
  q : PySem.W.excIn K (He.ga K x) He.veBase "ValueError.__new__" = true
  kp : PySem.W.keepIn K (.ref (He.ga K x)) = true
  sb : PySem.W.subIn K (.ref (He.ga K x)) (.type "BaseException") = some true
  ty : PySem.W.typeIn K (.ref (He.ga K x)) = some (.type "type")
theorem gX {K : PySem.W.Frag} {mg : Str → Option Value} {x : Str} (e : ExcF K mg x) : ∃ u, mg x = some u ∧ RelV (.ref (He.ga K x)) u := ⟨_, e.g, rfl⟩
section
variable {X : Cx} {x m : Str} {j : Nat} {p p2 pos pos2 : Pos} {W : WX}
end
abbrev WX0 (E : XK) : WX := fun cls d _ H => E cls d H
end Sv
set_option Elab.async false
set_option linter.all false
set_option maxRecDepth 100000
set_option maxHeartbeats 4000000
namespace Sv
open PySem PySem.Spec PyProof.Rows L2
section
variable {prog : Program} {w : World} {A : Around} {E : Value → Shared → Prop} {s : Shared}
end
section
variable {X : Cx} {e : Expr} {ta : TA} {p pos tpos : Pos} {elts : List Expr} {kk : Nat}
end
end Sv
set_option Elab.async false
set_option linter.all false
set_option maxRecDepth 100000
set_option maxHeartbeats 4000000
namespace Sv
open PySem PySem.Spec PyProof.Rows L2
structure ShowOk (d : PyData) : Prop where
  sh : d.showable = true
  nd : d.hasDict = false
  dp : d.depth ≤ 50
  sz : d.shown.length ≤ sizeLine
section
variable {X : Cx}
theorem call_repr (hg : X.A.guards = some []) (hu : X.A.units + 64 < cLine) : CallR X (.builtin "repr") (fun xs H Q => ∃ x d, xs = [x] ∧ Dp X.K H x d ∧ ShowOk d ∧ Q (.str d.shown) H) := by
  intro pins s σ H xs us Q I r h
  obtain ⟨x, d, rfl, hd, ok, q⟩ := h
  cases r with
  | cons rx rr =>
    rename_i u us'
    cases rr
    have fl : ∀ tk, EP X pins σ Q (.str d.shown s.toks) { s with toks := tk } := fun tk => ⟨.str _, H, I.tok _, ⟨_, rfl⟩, q⟩
    cases hd with
    | non =>
      cases rx
      have e : PyData.shown .none = "None" := by simp only [PyData.shown]
      rw [e] at fl
      exact PySem.P.repr_of_none (fl _)
    | bl b =>
      cases rx
      have e : PyData.shown (.bool b) = (if b = true then Str.ofString "True" else Str.ofString "False") := by simp only [PyData.shown]
      rw [e] at fl
      exact PySem.P.repr_of_bool (fl _)
    | int i =>
      obtain ⟨t, rfl⟩ := rx
      have e : PyData.shown (.int i) = (toString i : String) := by simp only [PyData.shown]
      have s1 := ok.sh
      simp only [PyData.showable] at s1
      rw [e] at fl
      exact PySem.P.repr_of_int (of_decide_eq_true s1) (fl _)
    | str z =>
      obtain ⟨t, rfl⟩ := rx
      have e : PyData.shown (.str z) = reprText z := by simp only [PyData.shown]
      have s1 := ok.sz
      rw [e] at fl s1
      exact PySem.P.repr_of_str (fl _) s1
    | lst h1 h2 =>
      obtain ⟨as, rd⟩ := Dp.reads I _ _ u (.lst h1 h2) rx
      cases rx
      have dp := ok.dp
      exact repr_of_reads' rd ok.sh (fun z => absurd (ok.nd.symm.trans z) Bool.false_ne_true) hg (by omega) (fun _ _ e => e)
        (fun h' u' tk k => ⟨.str _, H, I.kept k, ⟨_, rfl⟩, q⟩) ok.sz
    | tup h1 h2 =>
      obtain ⟨as, rd⟩ := Dp.reads I _ _ u (.tup h1 h2) rx
      cases rx
      have dp := ok.dp
      exact repr_of_reads' rd ok.sh (fun z => absurd (ok.nd.symm.trans z) Bool.false_ne_true) hg (by omega) (fun _ _ e => e)
        (fun h' u' tk k => ⟨.str _, H, I.kept k, ⟨_, rfl⟩, q⟩) ok.sz
def signs (x : Str) : List Str := x.cps.toList.map fun c => tx [c]
theorem signs_len (x : Str) : (signs x).length = x.cps.size := by simp [signs]
theorem vals_of : ∀ {xs : List V} {us : List Value}, xs.length = us.length → (∀ (i : Nat) (x : V) (u : Value), xs[i]? = some x → us[i]? = some u → RelV x u) → Vals xs us
  | [], [], _, _ => .nil
  | [], _ :: _, h, _ => by simp at h
  | _ :: _, [], h, _ => by simp at h
  | x :: xs, u :: us, h, f => .cons (f 0 x u rfl rfl) (vals_of (by simpa using h) fun i y v h1 h2 => f (i + 1) y v (by simpa using h1) (by simpa using h2))
theorem vals_signs {x : Str} {acc : Array Value} (h : ItemsOf (SignAt x) acc x.cps.size) : Vals ((signs x).map V.str) acc.toList := by
  refine vals_of (by rw [List.length_map, signs_len, Array.length_toList, h.1]) fun i v u h1 h2 => ?_
  obtain ⟨c, k, hc, rfl⟩ := h.2 i u (by simpa using h2)
  have e : x.cps.toList[i]? = some c := by simpa using hc
  unfold signs at h1
  rw [List.getElem?_map, List.getElem?_map, e] at h1
  cases h1
  exact ⟨k, rfl⟩
theorem call_list_text (hc : X.calm = true) : CallR X (.type "list") (fun xs H Q => ∃ x : Str, xs = [.str x] ∧ x.length ≤ sizeLine ∧ ∀ p, H p = none → Q (.ref p) (upd H p (.lst ((signs x).map V.str)))) := by
  intro pins s σ H xs us Q I r h
  obtain ⟨x, rfl, hz, q⟩ := h
  cases r with
  | cons rx rr =>
    cases rr
    obtain ⟨t, rfl⟩ := rx
    refine call_list_str (I.ok.hd hc) x t (fun h' tk acc c k made its => ?_) hz
    have new : ObjOk X.prog X.w (upd H s.heap.objs.size (.lst ((signs x).map V.str))) h' s.heap.objs.size (.lst ((signs x).map V.str)) :=
      ⟨by rw [List.length_map, signs_len]; exact hz, acc.toList, c, vals_signs its, by simpa using made⟩
    exact ⟨.ref _, _, I.laid k (Nat.le_refl _) new, rfl, q _ (I.hok.fresh (Nat.le_refl _))⟩
end
theorem hu64 {k : Nat} {A : Around} (hr : Room k A) : A.units + 64 < cLine := hr.units
end Sv
set_option Elab.async false
set_option linter.all false
set_option maxRecDepth 100000
set_option maxHeartbeats 4000000
namespace Sv
open PySem PySem.Spec PyProof.Rows L2 HT
def revS (z : Str) : Str := tx z.cps.toList.reverse
theorem strIdx_rev (n : Nat) : Builtin.Str.strSliceIndices none none (-1) n = (List.range n).reverse := by
  show sliceRange ((n : Int) - 1) (-1) (-1) = _
  rw [PySem.W.krv_sliceRange, PySem.W.krv_range]
theorem getStr_rev {x : Str} : (((List.range x.length).reverse).filterMap (x.cps[·]?)).toArray = (revS x).cps := by
  rw [List.filterMap_reverse]
  show ((List.filterMap (fun k => x.cps[k]?) (List.range x.cps.size)).reverse).toArray = _
  rw [PySem.W.krv_all]
  rfl
section
variable {prog : Program} {w : World} {A : Around} {E : Value → Shared → Prop} {s : Shared}
theorem adjust_rev (n : Nat) : Builtin.Slice.sliceAdjust none none (-1) (n : Int) = ((n : Int) - 1, -1) := rfl
theorem places_rev (n : Nat) : Builtin.Slice.slicePlaces ((n : Int) - 1) (-1) (-1) = n := by
  unfold Builtin.Slice.slicePlaces
  have h1 : ¬ ((-1 : Int) > 0) := by decide
  simp only [h1, if_false]
  by_cases h : (n : Int) - 1 > -1
  · rw [if_pos h, show (- -1 : Int) = 1 by decide, Int.ediv_one]
    omega
  · rw [if_neg h]
    omega
theorem sliceApplied_rev {sl : Addr} {vl vu vs : Value} {n : Nat} {Q : Int × Int × Nat → Shared → Prop} (hs : s.heap.IsSliceOf sl vl vu vs) (pl : IsPart vl none) (pu : IsPart vu none) (ps : IsPart vs (some (-1)))
    (h : Q ((n : Int) - 1, -1, n) s) : wpAny (model prog w) A (Builtin.Slice.sliceApplied (.ref sl) (pure (n : Int))) Q E s := by
  obtain ⟨os, hos, hcs, hds⟩ := id hs
  unfold Builtin.Slice.sliceApplied Builtin.Slice.sliceFields
  refine wpAny_bind (wpAny_bind (wpAny_field hos hds (x := vl) rfl (wpAny_bind (wpAny_field hos hds (x := vu) rfl (wpAny_bind (wpAny_field hos hds (x := vs) rfl (wpAny_pure ?_)))))))
  refine wpAny_bind (slicePart_ ps ?_)
  show wpAny _ _ (if ((-1 : Int) == 0) = true then _ else _) _ _ s
  rw [if_neg (by decide)]
  refine wpAny_bind (slicePart_ pl (wpAny_bind (slicePart_ pu (wpAny_bind (wpAny_pure ?_)))))
  show wpAny _ _ (match Builtin.Slice.sliceAdjust none none (-1) (n : Int) with | (lo, hi) => pure (lo, (-1 : Int), Builtin.Slice.slicePlaces lo hi (-1))) _ _ s
  rw [adjust_rev n]
  show wpAny _ _ (pure ((n : Int) - 1, (-1 : Int), Builtin.Slice.slicePlaces ((n : Int) - 1) (-1) (-1))) _ _ s
  rw [places_rev]
  exact wpAny_pure h
theorem pick_rev (xs : Array Value) : ((List.range xs.size).filterMap fun (m : Nat) => xs[(((xs.size : Nat) : Int) - 1 + (m : Int) * (-1)).toNat]?).toArray = xs.toList.reverse.toArray := by
  have e : (List.range xs.size).filterMap (fun (m : Nat) => xs[(((xs.size : Nat) : Int) - 1 + (m : Int) * (-1)).toNat]?) = ((List.range xs.size).map (fun k => xs.size - 1 - k)).filterMap (xs[·]?) := by
    rw [List.filterMap_map]
    refine congrArg (fun f => List.filterMap f (List.range xs.size)) (funext fun m => ?_)
    have e2 : (((xs.size : Nat) : Int) - 1 + (m : Int) * (-1)).toNat = xs.size - 1 - m := by omega
    show xs[(((xs.size : Nat) : Int) - 1 + (m : Int) * (-1)).toNat]? = xs[xs.size - 1 - m]?
    rw [e2]
  rw [e, PySem.W.krv_range, List.filterMap_reverse, PySem.W.krv_all]
theorem getItem_tuple_rev {t sl : Addr} {items : Array Value} {vl vu vs : Value} {Q : Value → Shared → Prop} (ht : IsTup s.heap t items) (hs : s.heap.IsSliceOf sl vl vu vs) (pl : IsPart vl none) (pu : IsPart vu none) (ps : IsPart vs (some (-1)))
    (h : Q (.ref s.heap.objs.size) { s with heap := s.heap.push { cls := .type "tuple", data := .seq items.toList.reverse.toArray } })
    (hsz : items.size ≤ sizeLine) : wpAny (model prog w) A (getItem (.ref t) (.ref sl)) Q E s := by
  have htake : sizeOk (.seq items.toList.reverse.toArray) := by
    show items.toList.reverse.toArray.size ≤ sizeLine
    rw [List.size_toArray, List.length_reverse, Array.length_toList]
    exact hsz
  obtain ⟨os, hos, hcs, hds⟩ := id hs
  have hTs : s.TypeIs (.ref sl) "slice" := ⟨os, hos, hcs⟩
  unfold getItem
  try with_reducible refine wpAny_holding ?_
  first | refine wpAny_bind (wpAny_pure ?_) | skip
  refine wpAny_bind (wpAny_sequenceKey ht.typeIs (by decide) ?_)
  refine wpAny_bind (wpAny_callSpecial?_slot (name := Str.ofString "__getitem__") ht.typeIs PyProof.Rows.slot_tuple_getitem
    (wpAny_call_entry PyProof.Rows.slot_tuple_getitem ht.typeIs entry_tuple_getitem ?_ (args_tuple_getitem _ _)))
  show wpAny _ _ (Builtin.Tuple.tupleItemsOf (.ref t) >>= _) _ _ s
  refine wpAny_bind (tupleItemsOf_ ht ?_)
  refine wpAny_bind (wpAny_typeOf hTs ?_)
  rw [if_pos (by decide)]
  refine wpAny_bind (sliceApplied_rev hs pl pu ps ?_)
  have hno : ¬ ((((((items.size : Nat) : Int) - 1) == 0) && ((-1 : Int) == 1) && (items.size == items.size)) = true) := by
    rw [show ((-1 : Int) == 1) = false by decide, Bool.and_false, Bool.false_and]
    exact Bool.false_ne_true
  show wpAny _ _ (if ((((((items.size : Nat) : Int) - 1) == 0) && ((-1 : Int) == 1) && (items.size == items.size)) = true) then _ else _) _ _ s
  rw [if_neg hno, pick_rev]
  first
    | exact wpAny_bind (m := Builtin.Tuple.tupleExact _) (wpAny_newObj_type (wpAny_pure ⟨_, rfl, wpAny_pure h⟩) htake)
    | exact wpAny_bind (m := Builtin.Tuple.tupleExact _) (wpAny_newObj_type (wpAny_bind (wpAny_pure (wpAny_pure ⟨_, rfl, wpAny_pure h⟩))) htake)
    | exact wpAny_bind (wpAny_bind (m := Builtin.Tuple.tupleExact _) (wpAny_newObj_type (wpAny_pure (wpAny_pure ⟨_, rfl, wpAny_pure h⟩)) htake))
    | exact wpAny_bind (wpAny_bind (m := Builtin.Tuple.tupleExact _) (wpAny_newObj_type (wpAny_pure ⟨_, rfl, wpAny_pure h⟩) htake))
end
section
variable {X : Cx}
def tRevS (te : TE) : TE := fun σ H Q => te σ H fun x H1 => ∃ z, x = .str z ∧ z.length ≤ sizeLine ∧ Q (.str (revS z)) H1
theorem pe_rev_str {e : Expr} {te : TE} {k : Nat} {p1 p2 p3 pos : Pos} (he : PE X e te) : PE X (.Subscript e (.Slice none none (some (.UnaryOp .USub (.Constant (.int 1) k p1) p2)) p3) pos) (tRevS te) := by
  refine ⟨fun pins s σ H Q I h => ?_⟩
  refine Subscript_ (thn (he.run pins s σ H _ I h) fun v s1 ⟨x, H1, I1, r1, q1⟩ => ?_)
  obtain ⟨z, ex, hz, q⟩ := q1
  subst ex
  obtain ⟨t, rfl⟩ := r1
  have hst : PO X (some (.UnaryOp .USub (.Constant (.int 1) k p1) p2)) (tPart (tUn (rU fun i => .int (-i)) (tC (.int 1)))) := po_some (pe_un un_neg pe_int)
  refine wpAny_Slice (thn (po_none.run pins s1 σ H1 (fun o H2 => o = none ∧ H2 = H1) I1 ⟨rfl, rfl⟩) fun vl s2 ⟨l, H2, I2, pl, el, e2⟩ => ?_)
  subst el e2
  refine thn (po_none.run pins s2 σ H2 (fun o H3 => o = none ∧ H3 = H2) I2 ⟨rfl, rfl⟩) fun vu s3 ⟨u, H3, I3, pu, eu, e3⟩ => ?_
  subst eu e3
  refine thn (hst.run pins s3 σ H3 (fun o H4 => o = some (-1) ∧ H4 = H3) I3 ⟨1, rfl, -1, rfl, rfl, rfl⟩) fun vs s4 ⟨o, H4, I4, ps, eo, e4⟩ => ?_
  subst eo e4
  have I5 : Inv X pins σ H4 { s4 with heap := s4.heap.push { cls := .type "slice", data := .fields #[vl, vu, vs] } } := I4.kept (t' := s4.toks) fun b ob q => Heap.get?_push_of_some _ q
  show wpAny (model X.prog X.w) X.A (subscriptTail e (.Slice none none (some (.UnaryOp .USub (.Constant (.int 1) k p1) p2)) p3) (.str z t) (.ref s4.heap.objs.size)) (EP X pins σ Q) X.xe { s4 with heap := s4.heap.push { cls := .type "slice", data := .fields #[vl, vu, vs] } }
  refine tail_any (ops := [.str z t, .ref s4.heap.objs.size]) (typeIs_str _ _ _) (F.slot_str_getitem.lookup) ?_ (by with_unfolding_all rfl)
  obtain ⟨l, rfl, hl⟩ := IsPart.raw pl
  obtain ⟨u, rfl, hu⟩ := IsPart.raw pu
  obtain ⟨st, rfl, hs⟩ := IsPart.raw ps
  refine wpAny_getItem_str_slice (l := l) (u := u) (st := st) ⟨_, Heap.get?_push_size _ rfl, rfl, rfl⟩ (by rw [hs]; rfl) ?_
  unfold sliceMade slicePicked
  rw [hl, hu, hs]
  show Made.post (if ((-1 : Int) == 1 && (Builtin.Str.strSliceIndices none none (-1) z.length).length == z.length) = true then Made.val (.str z t)
    else Made.str ⟨((Builtin.Str.strSliceIndices none none (-1) z.length).filterMap (z.cps[·]?)).toArray⟩) (EP X pins σ Q) _
  rw [if_neg (by rw [show ((-1 : Int) == 1) = false by decide, Bool.false_and]; exact Bool.false_ne_true), strIdx_rev, getStr_rev]
  refine ⟨?_, .str _, H4, I5.tok _, ⟨_, rfl⟩, q⟩
  show (revS z).length ≤ sizeLine
  unfold revS
  rw [tx_len, List.length_reverse, Array.length_toList]
  exact hz
def tRevT (K : PySem.W.Frag) (te : TE) : TE := fun σ H Q => te σ H fun x H1 => ∃ a xs, x = .ref a ∧ SqT K H1 a xs ∧ ∀ p, H1 p = none → Q (.ref p) (upd H1 p (.tup xs.reverse))
theorem pe_rev_tup {e : Expr} {te : TE} {k : Nat} {p1 p2 p3 pos : Pos} (he : PE X e te) : PE X (.Subscript e (.Slice none none (some (.UnaryOp .USub (.Constant (.int 1) k p1) p2)) p3) pos) (tRevT X.K te) := by
  refine ⟨fun pins s σ H Q I h => ?_⟩
  refine Subscript_ (thn (he.run pins s σ H _ I h) fun v s1 ⟨x, H1, I1, r1, q1⟩ => ?_)
  obtain ⟨a, xs, ex, hx, q⟩ := q1
  subst ex
  cases r1
  have hst : PO X (some (.UnaryOp .USub (.Constant (.int 1) k p1) p2)) (tPart (tUn (rU fun i => .int (-i)) (tC (.int 1)))) := po_some (pe_un un_neg pe_int)
  refine wpAny_Slice (thn (po_none.run pins s1 σ H1 (fun o H2 => o = none ∧ H2 = H1) I1 ⟨rfl, rfl⟩) fun vl s2 ⟨l, H2, I2, pl, el, e2⟩ => ?_)
  subst el e2
  refine thn (po_none.run pins s2 σ H2 (fun o H3 => o = none ∧ H3 = H2) I2 ⟨rfl, rfl⟩) fun vu s3 ⟨u, H3, I3, pu, eu, e3⟩ => ?_
  subst eu e3
  refine thn (hst.run pins s3 σ H3 (fun o H4 => o = some (-1) ∧ H4 = H3) I3 ⟨1, rfl, -1, rfl, rfl, rfl⟩) fun vs s4 ⟨o, H4, I4, ps, eo, e4⟩ => ?_
  subst eo e4
  have I5 : Inv X pins σ H4 { s4 with heap := s4.heap.push { cls := .type "slice", data := .fields #[vl, vu, vs] } } := I4.kept (t' := s4.toks) fun b ob q => Heap.get?_push_of_some _ q
  obtain ⟨its, r, ht, hz⟩ := I5.tuple hx
  have hlen := r.length
  show wpAny (model X.prog X.w) X.A (subscriptTail e (.Slice none none (some (.UnaryOp .USub (.Constant (.int 1) k p1) p2)) p3) (.ref a) (.ref s4.heap.objs.size)) (EP X pins σ Q) X.xe { s4 with heap := s4.heap.push { cls := .type "slice", data := .fields #[vl, vu, vs] } }
  refine tail_any (ops := [.ref a, .ref s4.heap.objs.size]) ht.typeIs (PyProof.Rows.slot_tuple_getitem.lookup) ?_ (by with_unfolding_all rfl)
  refine getItem_tuple_rev ht (Heap.IsSliceOf.new _ vl vu vs) pl pu ps ?_ (by rw [List.size_toArray]; omega)
  refine ⟨.ref _, _, I5.laid (t' := s4.toks) (o := .tup xs.reverse) (fun b ob q => Heap.get?_push_of_some _ q) (Nat.le_refl _) ?_, rfl, q _ (I5.hok.fresh (Nat.le_refl _))⟩
  exact ⟨by rw [List.length_reverse]; exact hz, _, r.reverse, IsTup.new _ _⟩
def repS (z : Str) (n : Nat) : Str := tx (List.replicate n z.cps.toList).flatten
theorem foldl_rep1 (z : Array Nat) : ∀ (n : Nat) (a : Array Nat), ((List.replicate n z).foldl (· ++ ·) a) = a ++ ((List.replicate n z.toList).flatten).toArray
  | 0, a => by simp
  | n + 1, a => by
    rw [List.replicate_succ, List.foldl_cons, foldl_rep1 z n, List.replicate_succ, List.flatten_cons]
    apply Array.ext'
    simp
theorem repS_eq (z : Str) (n : Nat) : (⟨(List.replicate n z.cps).foldl (· ++ ·) #[]⟩ : Str) = repS z n := by
  rw [foldl_rep1]
  unfold repS tx
  simp
theorem repS_len (z : Str) (n : Nat) : (repS z n).length = n * z.length := by
  unfold repS
  rw [tx_len]
  simp [Str.length]
theorem op_mul_str : OpR X (binaryOp .Mult) (fun x y H Q => ∃ (z : Str) (n : Int), x = .str z ∧ y = .int n ∧ 0 ≤ n ∧ n ≤ 1000 ∧ z.length ≤ 1000 ∧ Q (.str (repS z n.toNat)) H) := by
  intro pins s σ H x y v u Q I rx ry h
  obtain ⟨z, n, rfl, rfl, h0, h1, hz, q⟩ := h
  obtain ⟨t, rfl⟩ := rx
  obtain ⟨t', rfl⟩ := ry
  have hle : z.length * n.toNat ≤ 1000000 := by
    have : z.length * n.toNat ≤ 1000 * 1000 := Nat.mul_le_mul hz (by omega)
    omega
  refine PySem.P.mul_str ?_ (fun a b => ?_) (fun a b => ?_) ?_
  · rw [decide_eq_false (by omega), decide_eq_false (by omega)]
    rfl
  · have : (9223372036854775807 : Int) / n ≥ 1000 := by
      rw [ge_iff_le, Int.le_ediv_iff_mul_le (by omega)]
      omega
    have e : ((2 : Int) ^ 63 - 1) = 9223372036854775807 := by decide
    rw [e]
    omega
  · unfold Builtin.Str.tooLong
    rw [sizeLine_eq]
    exact decide_eq_false (by omega)
  · by_cases c : n < 1
    · rw [if_pos c]
      have e : n.toNat = 0 := by omega
      rw [e] at q
      exact ⟨by decide, .str _, H, I.tok _, ⟨_, rfl⟩, q⟩
    · rw [if_neg c]
      by_cases d : (n == 1 || z.length == 0) = true
      · rw [if_pos d]
        have e : repS z n.toNat = z := by
          rw [Bool.or_eq_true] at d
          rcases d with d | d
          · have : n = 1 := eq_of_beq d
            subst this
            show tx (List.replicate 1 z.cps.toList).flatten = z
            rw [tx_of z]
            simp
          · have d : z.length = 0 := eq_of_beq d
            have e0 : (repS z n.toNat).length = 0 := by rw [repS_len, d, Nat.mul_zero]
            have f : ∀ s : Str, s.length = 0 → s = tx [] := by
              intro s hs
              rw [tx_of s]
              have : s.cps.toList.length = 0 := by rw [Array.length_toList]; exact hs
              rw [List.eq_nil_of_length_eq_zero this]
            rw [f _ e0, f _ d]
        rw [e] at q
        exact ⟨.str z, H, I, ⟨t, rfl⟩, q⟩
      · rw [if_neg d, repS_eq]
        refine ⟨?_, .str _, H, I.tok _, ⟨_, rfl⟩, q⟩
        show (repS z n.toNat).length ≤ sizeLine
        rw [repS_len, sizeLine_eq, Nat.mul_comm]
        omega
end
end Sv
set_option Elab.async false
set_option linter.all false
set_option maxRecDepth 100000
set_option maxHeartbeats 4000000
namespace Sv
open PySem PySem.Spec PyProof.Rows L2
theorem glued_foldl (r : List Str) : ∀ a : Array Nat, r.foldl (fun acc p => acc ++ (#[] : Array Nat) ++ p.cps) a = a ++ ((r.map fun y => y.cps.toList).flatten).toArray := by
  induction r with
  | nil => intro a; simp
  | cons y r ih =>
    intro a
    rw [List.foldl_cons, ih, List.map_cons, List.flatten_cons]
    apply Array.ext'
    simp
def jn (ys : List Str) : Str := tx (ys.map fun y => y.cps.toList).flatten
theorem join_jn (ys : List Str) : Txt.join "" ys = jn ys := by
  show (⟨(ys.drop 1).foldl (fun acc p => acc ++ (#[] : Array Nat) ++ p.cps) (ys.headD Str.empty).cps⟩ : Str) = _
  rw [glued_foldl]
  cases ys with
  | nil => rfl
  | cons y ys =>
    unfold jn tx
    simp
theorem jn_signs (l : List Nat) : jn (l.map fun c => tx [c]) = tx l := by
  unfold jn
  rw [List.map_map]
  congr 1
  congr 1
  induction l with
  | nil => rfl
  | cons a l ih => rw [List.map_cons, List.flatten_cons, ih]; rfl
theorem sum_signs (l : List Nat) : ((l.map fun c => tx [c]).map (·.length)).sum = l.length := by
  induction l with
  | nil => rfl
  | cons a l ih => rw [List.map_cons, List.map_cons, List.sum_cons, ih, List.length_cons, Nat.add_comm]; rfl
theorem takeWhile_whole {p : Nat → Bool} : ∀ {l : List Nat}, (∀ c ∈ l, p c = true) → l.takeWhile p = l
  | [], _ => rfl
  | a :: l, h => by rw [List.takeWhile_cons, if_pos (h a List.mem_cons_self), takeWhile_whole fun c m => h c (List.mem_cons_of_mem _ m)]
theorem strip_all {w l : Str} (h : ∀ c ∈ w.cps.toList, c ∈ l.cps.toList) : Txt.stripChars w l = "" := by
  have hc : ∀ c ∈ w.cps.toList, l.cps.contains c = true := fun c hm => by
    have := h c hm
    rw [Array.mem_toList_iff] at this
    exact Array.contains_iff_mem.mpr this
  have lo : stripLo l.cps.contains true w = w.length := by
    show (w.cps.toList.takeWhile l.cps.contains).length = w.cps.size
    rw [show w.cps.toList.takeWhile l.cps.contains = w.cps.toList from takeWhile_whole hc, Array.length_toList]
  have hi : stripHi l.cps.contains true w w.length = w.length := by
    show w.length - ((w.cps.toList.drop w.length).reverse.takeWhile l.cps.contains).length = w.length
    rw [List.drop_of_length_le (by rw [Array.length_toList]; exact Nat.le_refl _)]
    rfl
  show (if stripSame l.cps.contains true true w then w else stripped l.cps.contains true true w) = _
  by_cases e : stripSame l.cps.contains true true w = true
  · rw [if_pos e]
    unfold stripSame at e
    rw [lo, Bool.and_eq_true] at e
    have z : w.length = 0 := eq_of_beq e.1
    rw [tx_of w, List.eq_nil_of_length_eq_zero (show w.cps.toList.length = 0 by rw [Array.length_toList]; exact z)]
    rfl
  · rw [if_neg e]
    unfold stripped
    rw [lo, hi]
    show (⟨w.cps.extract w.length w.length⟩ : Str) = _
    have : w.cps.extract w.length w.length = #[] := by simp [Str.length]
    rw [this]
    rfl
theorem takeWhile_lt {p : Nat → Bool} : ∀ {l : List Nat} {c : Nat}, c ∈ l → p c = false → (l.takeWhile p).length < l.length
  | [], _, h, _ => by cases h
  | a :: l, c, h, hp => by
    rw [List.takeWhile_cons]
    by_cases ha : p a = true
    · rw [if_pos ha, List.length_cons, List.length_cons]
      rcases List.mem_cons.mp h with e | h
      · rw [e, ha] at hp
        cases hp
      · have := takeWhile_lt h hp
        omega
    · rw [if_neg ha]
      exact Nat.succ_pos _
theorem mem_drop_takeWhile {p : Nat → Bool} : ∀ {l : List Nat} {c : Nat}, c ∈ l → p c = false → c ∈ l.drop (l.takeWhile p).length
  | [], _, h, _ => by cases h
  | a :: l, c, h, hp => by
    rw [List.takeWhile_cons]
    by_cases ha : p a = true
    · rw [if_pos ha, List.length_cons, List.drop_succ_cons]
      rcases List.mem_cons.mp h with e | h
      · rw [e, ha] at hp
        cases hp
      · exact mem_drop_takeWhile h hp
    · rw [if_neg ha]
      exact h
theorem strip_not {w l : Str} {c : Nat} (h : c ∈ w.cps.toList) (hn : c ∉ l.cps.toList) : Txt.stripChars w l ≠ "" := by
  have hp : l.cps.contains c = false := by
    cases e : l.cps.contains c with
    | false => rfl
    | true => exact absurd (Array.mem_toList_iff.mpr (Array.contains_iff_mem.mp e)) hn
  have h0 : w.length ≠ 0 := fun z => by
    rw [List.eq_nil_of_length_eq_zero (show w.cps.toList.length = 0 by rw [Array.length_toList]; exact z)] at h
    cases h
  show (if stripSame l.cps.contains true true w then w else stripped l.cps.contains true true w) ≠ _
  by_cases e : stripSame l.cps.contains true true w = true
  · rw [if_pos e]
    intro z
    rw [z] at h0
    exact h0 rfl
  · rw [if_neg e]
    intro z
    have ll : w.cps.toList.length = w.cps.size := Array.length_toList
    have lt := takeWhile_lt (l := w.cps.toList) h hp
    have md := mem_drop_takeWhile (l := w.cps.toList) h hp
    have lt2 := takeWhile_lt (l := (w.cps.toList.drop (w.cps.toList.takeWhile l.cps.contains).length).reverse) (List.mem_reverse.mpr md) hp
    rw [List.length_reverse, List.length_drop] at lt2
    have zl := congrArg Str.length z
    have e2 : (stripped l.cps.contains true true w).length = min (w.cps.size - ((w.cps.toList.drop (w.cps.toList.takeWhile l.cps.contains).length).reverse.takeWhile l.cps.contains).length) w.cps.size - (w.cps.toList.takeWhile l.cps.contains).length := by
      show (w.cps.extract _ _).size = _
      rw [Array.size_extract]
      rfl
    rw [e2] at zl
    have z0 : ("" : Str).length = 0 := rfl
    rw [z0] at zl
    omega
theorem strip_iff (w l : Str) : decide (Txt.stripChars w l = "") = w.cps.toList.all fun c => decide (c ∈ l.cps.toList) := by
  by_cases h : ∀ c ∈ w.cps.toList, c ∈ l.cps.toList
  · rw [decide_eq_true (strip_all h)]
    exact (List.all_eq_true.mpr fun c m => decide_eq_true (h c m)).symm
  · have ⟨c, hc⟩ := Classical.not_forall.mp h
    have ⟨m, n⟩ := Classical.not_imp.mp hc
    rw [decide_eq_false (strip_not m n)]
    exact (List.all_eq_false.mpr ⟨c, m, by simpa using n⟩).symm
def keep (b : Bool) (v : V) : Option V := if b = true then some v else none
def sortN (l : List Nat) : List Nat := l.mergeSort fun a b => decide (a ≤ b)
theorem sortN_perm (l : List Nat) : (sortN l).Perm l := List.mergeSort_perm _ _
theorem sortN_le (l : List Nat) : (sortN l).Pairwise (· ≤ ·) := by
  have := List.pairwise_mergeSort (le := fun a b : Nat => decide (a ≤ b)) (fun a b c h1 h2 => decide_eq_true (Nat.le_trans (of_decide_eq_true h1) (of_decide_eq_true h2)))
    (fun a b => by rw [Bool.or_eq_true, decide_eq_true_eq, decide_eq_true_eq]; omega) l
  exact this.imp fun h => of_decide_eq_true h
theorem sortN_uniq {l m : List Nat} (h : m.Perm l) (s : m.Pairwise (· ≤ ·)) : m = sortN l :=
  List.Perm.eq_of_pairwise (le := (· ≤ ·)) (fun a b _ _ h1 h2 => Nat.le_antisymm h1 h2) s (sortN_le l) (h.trans (sortN_perm l).symm)
theorem signs_map (x : Str) : signs x = x.cps.toList.map fun c => tx [c] := rfl
theorem dT {p : Prop} [Decidable p] (h : p) : decide p = true := decide_eq_true h
theorem at_str {w : Str} {i : Int} (h0 : 0 ≤ i) (h1 : i < ((w.length : Nat) : Int)) : atI w.cps.toList i = some (w.cps.getD i.toNat 0) := by
  have e : i = ((i.toNat : Nat) : Int) := by omega
  have hi : i.toNat < w.cps.size := by
    have : w.cps.size = w.length := rfl
    omega
  rw [e]
  refine atI_nat ?_
  show w.cps.toList[i.toNat]? = _
  rw [Array.getElem?_toList, Array.getElem?_eq_getElem hi, Int.toNat_natCast, Array.getD_eq_getD_getElem?, Array.getElem?_eq_getElem hi]
  rfl
section
variable {X : Cx} {K : PySem.W.Frag} {pos apos cpos p2 : Pos} {e o : Expr} {es : List Expr} {to te : TE} {t : TA} {name : Str} {id T : String} {r : V → List V → Hp → VK → Prop}
end
end Sv
set_option Elab.async false
set_option linter.all false
set_option maxRecDepth 100000
set_option maxHeartbeats 4000000
namespace Sv
open PySem PySem.Spec PyProof.Rows L2
def Dw (H : Hp) (d : Addr) : Prop := ∃ ns : List Int, H d = some (.lst (ns.map V.int)) ∧ ∀ n ∈ ns, 0 ≤ n ∧ n < 1000
def KeepX (d : Addr) (H H' : Hp) : Prop := ∀ b o, b ≠ d → H b = some o → H' b = some o
theorem KeepX.refl {d : Addr} (H : Hp) : KeepX d H H := fun _ _ _ h => h
theorem KeepX.trans {d : Addr} {H H1 H2 : Hp} (a : KeepX d H H1) (b : KeepX d H1 H2) : KeepX d H H2 := fun c o n h => b c o n (a c o n h)
theorem KeepX.of {d : Addr} {H H' : Hp} (s : Same H H') : KeepX d H H' := fun b o _ h => s b o h
theorem KeepX.free {d D : Addr} {H H' : Hp} (k : KeepX d H H') (n : D ≠ d) (h : H' D = none) : H D = none := by
  cases e : H D with
  | none => rfl
  | some o => rw [k _ _ n e] at h; cases h
theorem Dw.same {d : Addr} {H H' : Hp} (h : Dw H d) (s : Same H H') : Dw H' d := h.elim fun ns z => ⟨ns, s _ _ z.1, z.2⟩
theorem Dw.ne {d D : Addr} {H : Hp} (h : Dw H d) (hD : H D = none) : D ≠ d := fun e => by
  obtain ⟨ns, z, _⟩ := h
  rw [← e, hD] at z
  cases z
theorem KeepX.rd {d b : Addr} {H H' : Hp} {u : HO} (k : KeepX d H H') (n : b ≠ d) (h : Rd H b u) : Rd H' b u := by
  rcases h with z | ⟨o, z⟩
  · exact .inl (k _ _ n z)
  · exact .inr ⟨o, k _ _ n z⟩
theorem mod_in {n m : Int} (h : 0 < m) : 0 ≤ n % m ∧ n % m < m := ⟨Int.emod_nonneg _ (by omega), Int.emod_lt_of_pos _ h⟩
end Sv
set_option Elab.async false
set_option linter.all false
set_option maxRecDepth 100000
set_option maxHeartbeats 4000000
namespace Sv
open PySem PySem.Spec PyProof.Rows L2
end Sv
set_option Elab.async false
set_option linter.all false
set_option maxRecDepth 100000
set_option maxHeartbeats 4000000
namespace Sv
open PySem PySem.Spec PyProof.Rows L2
structure Easy (n k : Nat) (d : PyData) : Prop where
  sh : d.showable = true
  nd : d.hasDict = false
  ls : d.leavesShort 13 = true
  dp : d.depth ≤ k
  wt : d.weight ≤ n
theorem Easy.mono {n m k j : Nat} {d : PyData} (h : Easy n k d) (a : n ≤ m) (b : k ≤ j) : Easy m j d := ⟨h.sh, h.nd, h.ls, Nat.le_trans h.dp b, Nat.le_trans h.wt a⟩
theorem Easy.bool (b : Bool) {n k : Nat} : Easy n k (.bool b) := ⟨rfl, rfl, rfl, Nat.zero_le _, Nat.zero_le _⟩
theorem Easy.none {n k : Nat} : Easy n k .none := ⟨rfl, rfl, rfl, Nat.zero_le _, Nat.zero_le _⟩
theorem Easy.str {x : Str} {n k : Nat} (h : ∀ c ∈ x.cps.toList, c < 1000) (l : x.length ≤ n) : Easy n k (.str x) :=
  ⟨rfl, rfl, by
    show (x.cps.toList.all fun c => decide (c < 16 ^ 8)) = true
    exact List.all_eq_true.mpr fun c m => decide_eq_true (Nat.lt_trans (h c m) (by decide)), Nat.zero_le _, l⟩
theorem Easy.int {i : Int} {n k : Nat} (h : i.natAbs < 10 ^ 12) (hn : 41 ≤ n) : Easy n k (.int i) := by
  have hl : i.natAbs.log2 < 40 := by
    by_cases z : i.natAbs = 0
    · rw [z]; decide
    · exact (Nat.log2_lt z).mpr (Nat.lt_trans h (by decide))
  refine ⟨?_, rfl, ?_, Nat.zero_le _, ?_⟩
  · show decide (i.natAbs.log2 < 1920) = true
    exact decide_eq_true (by omega)
  · show decide ((PyData.shown (.int i)).length ≤ 13) = true
    exact decide_eq_true (PyData.shown_int_le h)
  · show (if i == 0 then 0 else i.natAbs.log2 + 1) ≤ n
    split <;> omega
theorem easy_all {n k : Nat} : ∀ {ds : List PyData}, (∀ d ∈ ds, Easy n k d) → PyData.showableAll ds = true ∧ PyData.hasDictAll ds = false ∧ PyData.leavesShortAll 13 ds = true ∧ PyData.depthAll ds ≤ k ∧ PyData.weightAll ds ≤ ds.length * (n + 1)
  | [], _ => ⟨rfl, rfl, rfl, Nat.zero_le _, Nat.zero_le _⟩
  | d :: ds, h => by
    obtain ⟨a, b, c, e, f⟩ := easy_all (ds := ds) fun z m => h z (List.mem_cons_of_mem _ m)
    have g := h d List.mem_cons_self
    refine ⟨?_, ?_, ?_, ?_, ?_⟩
    · show (d.showable && PyData.showableAll ds) = true
      rw [g.sh, a]; rfl
    · show (d.hasDict || PyData.hasDictAll ds) = false
      rw [g.nd, b]; rfl
    · show (d.leavesShort 13 && PyData.leavesShortAll 13 ds) = true
      rw [g.ls, c]; rfl
    · show max d.depth (PyData.depthAll ds) ≤ k
      have := g.dp
      omega
    · show d.weight + 1 + PyData.weightAll ds ≤ _
      have := g.wt
      rw [List.length_cons, Nat.succ_mul]
      omega
theorem Easy.list {n k m : Nat} {ds : List PyData} (h : ∀ d ∈ ds, Easy n k d) (hm : ds.length * (n + 1) ≤ m) : Easy m (k + 1) (.list ds) := by
  obtain ⟨a, b, c, e, f⟩ := easy_all h
  exact ⟨a, b, c, Nat.succ_le_succ e, Nat.le_trans f hm⟩
theorem Easy.tup {n k m : Nat} {ds : List PyData} (h : ∀ d ∈ ds, Easy n k d) (hm : ds.length * (n + 1) ≤ m) : Easy m (k + 1) (.tuple ds) := by
  obtain ⟨a, b, c, e, f⟩ := easy_all h
  exact ⟨a, b, c, Nat.succ_le_succ e, Nat.le_trans f hm⟩
theorem Easy.show {n k : Nat} {d : PyData} (h : Easy n k d) (hn : n ≤ 1000000) (hk : k ≤ 50) : ShowOk d := by
  refine ⟨h.sh, h.nd, Nat.le_trans h.dp hk, ?_⟩
  have := PyData.shown_le 13 (by decide) d h.ls
  have := h.wt
  rw [sizeLine_eq]
  omega
end Sv
set_option Elab.async false
set_option linter.all false
set_option maxRecDepth 100000
set_option maxHeartbeats 4000000
namespace M
open PySem PySem.Spec PyProof.Rows L2 Sv
abbrev D := PyData
class Wd where
  w : World
abbrev Ss := L2.St
inductive Ob where
  | L (ds : List D)
  | K (kvs : List (Key × D))
  | T (kvs : List (List Key × D))
  | N (kvs : List (D × D))
inductive Zp where
  | N (b : Ob)
  | F (f : D → Option D)
structure Exn where
  c : Str
  fld : Option (Str × Int)
inductive Vl where
  | d (x : D)
  | o (f : Bool) (b : Ob)
  | r (i : Nat)
  | x (e : Exn)
  | s (ns : List Int)
  | z (p : Zp)
abbrev S := List (Option Vl)
inductive ER (α : Type) where
  | ok (a : α) (s : S)
  | er (e : Exn) (s : S)
  | no
def ER.bind {α β : Type} (r : ER α) (g : α → S → ER β) : ER β := match r with
  | .ok a s => g a s
  | .er e s => .er e s
  | .no => .no
abbrev XI := Option (Addr × Value × Option Addr)
mutual
/-- data at any depth: lists that the program made, tuples -/
inductive Rp (K : PySem.W.Frag) (H : Hp) : V → D → Prop
  | non : Rp K H .non .none
  | bl (b : Bool) : Rp K H (.bl b) (.bool b)
  | int (i : Int) : Rp K H (.int i) (.int i)
  | str {x : Str} (h : x.length ≤ sizeLine) : Rp K H (.str x) (.str x)
  | lst {a : Addr} {xs : List V} {ds : List D} : H a = some (.lst xs) → RpAll K H xs ds → Rp K H (.ref a) (.list ds)
  | tup {a : Addr} {xs : List V} {ds : List D} : SqT K H a xs → RpAll K H xs ds → Rp K H (.ref a) (.tuple ds)
inductive RpAll (K : PySem.W.Frag) (H : Hp) : List V → List D → Prop
  | nil : RpAll K H [] []
  | cons {v : V} {vs : List V} {d : D} {ds : List D} : Rp K H v d → RpAll K H vs ds → RpAll K H (v :: vs) (d :: ds)
end
mutual
theorem Rp.same {K : PySem.W.Frag} {H H' : Hp} (e : Same H H') : ∀ {d : D} {v : V}, Rp K H v d → Rp K H' v d
  | .none, _, .non => .non
  | .bool _, _, .bl b => .bl b
  | .int _, _, .int i => .int i
  | .str _, _, .str h => .str h
  | .list _, _, .lst h a => .lst (e _ _ h) (RpAll.same e a)
  | .tuple _, _, .tup h a => .tup (same_t e h) (RpAll.same e a)
theorem RpAll.same {K : PySem.W.Frag} {H H' : Hp} (e : Same H H') : ∀ {ds : List D} {vs : List V}, RpAll K H vs ds → RpAll K H' vs ds
  | [], _, .nil => .nil
  | _ :: _, _, .cons h a => .cons (Rp.same e h) (RpAll.same e a)
end
mutual
theorem Rp.dp {K : PySem.W.Frag} {H : Hp} : ∀ {d : D} {v : V}, Rp K H v d → Dp K H v d
  | .none, _, .non => .non
  | .bool _, _, .bl b => .bl b
  | .int _, _, .int i => .int i
  | .str _, _, .str _ => .str _
  | .list _, _, .lst h a => .lst (.inl (.inl h)) (RpAll.dp a)
  | .tuple _, _, .tup h a => .tup h (RpAll.dp a)
theorem RpAll.dp {K : PySem.W.Frag} {H : Hp} : ∀ {ds : List D} {vs : List V}, RpAll K H vs ds → DpAll K H vs ds
  | [], _, .nil => .nil
  | _ :: _, _, .cons h a => .cons (Rp.dp h) (RpAll.dp a)
end
mutual
theorem Rp.pl {K : PySem.W.Frag} {H : Hp} : ∀ {d : D} {v : V}, Rp K H v d → d.plain = true
  | .none, _, .non => rfl
  | .bool _, _, .bl b => rfl
  | .int _, _, .int i => rfl
  | .str _, _, .str _ => rfl
  | .list _, _, .lst h a => by rw [PyData.plain]; exact RpAll.pl a
  | .tuple _, _, .tup h a => by rw [PyData.plain]; exact RpAll.pl a
theorem RpAll.pl {K : PySem.W.Frag} {H : Hp} : ∀ {ds : List D} {vs : List V}, RpAll K H vs ds → PyData.plainAll ds = true
  | [], _, .nil => rfl
  | _ :: _, _, .cons h a => by rw [PyData.plainAll, Rp.pl h, RpAll.pl a]; rfl
end
theorem RpAll.len {K : PySem.W.Frag} {H : Hp} : ∀ {vs : List V} {ds : List D}, RpAll K H vs ds → vs.length = ds.length
  | _, _, .nil => rfl
  | _, _, .cons _ a => by rw [List.length_cons, List.length_cons, RpAll.len a]
theorem RpAll.app {K : PySem.W.Frag} {H : Hp} : ∀ {vs us : List V} {ds es : List D}, RpAll K H vs ds → RpAll K H us es → RpAll K H (vs ++ us) (ds ++ es)
  | _, _, _, _, .nil, b => b
  | _, _, _, _, .cons h a, b => .cons h (RpAll.app a b)
theorem RpAll.at {K : PySem.W.Frag} {H : Hp} : ∀ {vs : List V} {ds : List D} {i : Nat} {d : D}, RpAll K H vs ds → ds[i]? = some d → ∃ v, vs[i]? = some v ∧ Rp K H v d
  | _, _, _, _, .nil, e => by simp at e
  | _, _, 0, _, .cons h _, e => by simp at e; subst e; exact ⟨_, rfl, h⟩
  | _, _, i + 1, _, .cons _ a, e => by
    obtain ⟨v, h1, h2⟩ := RpAll.at (i := i) a (by simpa using e)
    exact ⟨v, by simpa using h1, h2⟩
theorem RpAll.take {K : PySem.W.Frag} {H : Hp} : ∀ {vs : List V} {ds : List D} (n : Nat), RpAll K H vs ds → RpAll K H (vs.take n) (ds.take n)
  | _, _, 0, _ => .nil
  | _, _, _ + 1, .nil => .nil
  | _, _, n + 1, .cons h a => .cons h (RpAll.take n a)
theorem RpAll.drop {K : PySem.W.Frag} {H : Hp} : ∀ {vs : List V} {ds : List D} (n : Nat), RpAll K H vs ds → RpAll K H (vs.drop n) (ds.drop n)
  | _, _, 0, h => h
  | _, _, _ + 1, .nil => .nil
  | _, _, n + 1, .cons _ a => RpAll.drop n a
theorem RpAll.set {K : PySem.W.Frag} {H : Hp} {v : V} {d : D} (h : Rp K H v d) : ∀ {vs : List V} {ds : List D} (n : Nat), RpAll K H vs ds → RpAll K H (vs.set n v) (ds.set n d)
  | _, _, _, .nil => .nil
  | _, _, 0, .cons _ a => .cons h a
  | _, _, n + 1, .cons q a => .cons q (RpAll.set h n a)
theorem RpAll.rev {K : PySem.W.Frag} {H : Hp} : ∀ {vs : List V} {ds : List D}, RpAll K H vs ds → RpAll K H vs.reverse ds.reverse
  | _, _, .nil => .nil
  | _, _, .cons h a => by rw [List.reverse_cons, List.reverse_cons]; exact (RpAll.rev a).app (.cons h .nil)
mutual
/-- the key that data is -/
def nk : D → Option NestedKey
  | .none => some .none
  | .int i => some (.num i)
  | .str x => some (.text x)
  | .tuple ds => match nks ds with
    | some ks => some (.tup ks)
    | none => none
  | _ => none
def nks : List D → Option (List NestedKey)
  | [] => some []
  | d :: ds => match nk d, nks ds with
    | some k, some ks => some (k :: ks)
    | _, _ => none
end
def keyN : D → Option NestedKey
  | .tuple ds => match nk (.tuple ds) with
    | some k => if k.depth ≤ 8 then some k else none
    | none => none
  | _ => none
def entN (w : World) (x : NestedKey × Addr × Value) : DictEntry := ⟨x.1.hash w, .ref x.2.1, x.2.2⟩
def NRel (a : NestedKey × Addr × V) (q : NestedKey × Addr × Value) : Prop := a.1 = q.1 ∧ a.2.1 = q.2.1 ∧ RelV a.2.2 q.2.2
def NE (w : World) (p : Addr) (us : List (NestedKey × Addr × V)) : Heap → Prop := fun h => us.length ≤ sizeLine ∧ (p == sysModules) = false ∧ (us.map (·.1)).Nodup ∧
  ∃ xs, Paired NRel us xs ∧ ∃ o es ep, h.get? p = some o ∧ o.ExactDict ∧ o.data = .dict es ep ∧ es.toList = xs.map (entN w)
section
variable (K : PySem.W.Frag) [Wd] (xi : XI)
def NK (G : Hp) (a : NestedKey × Addr × V) (kv : D × D) : Prop := keyN kv.1 = some a.1 ∧ Rp K G (.ref a.2.1) kv.1 ∧ Rp K G a.2.2 kv.2
def ObR (G H : Hp) (p : Addr) : Ob → Prop
  | .L ds => ∃ vs, H p = some (.lst vs) ∧ RpAll K G vs ds
  | .K kvs => ∃ us : List (Key × V), H p = some (.dK us) ∧ us.map (·.1) = kvs.map (·.1) ∧ RpAll K G (us.map (·.2)) (kvs.map (·.2))
  | .T kvs => ∃ us : List (List Key × V), H p = some (.dT us) ∧ us.map (·.1) = kvs.map (·.1) ∧ RpAll K G (us.map (·.2)) (kvs.map (·.2))
  | .N kvs => ∃ us : List (NestedKey × Addr × V), H p = some (.ext (NE Wd.w p us)) ∧ Paired (NK K G) us kvs
def XR (H : Hp) (v : V) (e : Exn) : Prop := ∃ a cls d, xi = some (a, cls, d) ∧ v = .ref a ∧ (cls = .ref (He.ga K e.c) ∧ (e.fld = none → d = none)) ∧ ∀ nm n, e.fld = some (nm, n) → ∃ dd, d = some dd ∧ H dd = some (.xd [(nm, .int n)])
def ZR (G : Hp) (v : V) : Zp → Prop
  | .N (.K kvs) => ∃ p o, ∃ us : List (Key × V), v = .ref p ∧ G p = some (.frz o (.dK us)) ∧ us.map (·.1) = kvs.map (·.1) ∧ RpAll K G (us.map (·.2)) (kvs.map (·.2))
  | .N (.N kvs) => ∃ p o, ∃ us : List (NestedKey × Addr × V), v = .ref p ∧ G p = some (.frz o (.ext (NE Wd.w p us))) ∧ Paired (NK K G) us kvs
  | _ => False
def SvR (G H : Hp) (v : V) : Vl → Prop
  | .d x => Rp K G v x
  | .o _ b => ∃ p, v = .ref p ∧ G p = none ∧ ObR K G H p b
  | .r _ => False
  | .x e => XR K xi H v e
  | .s ns => ∃ a, v = .ref a ∧ SqL K G a (ns.map V.int)
  | .z p => ZR K G v p
def Own (σ : Ss) (s : S) (f : Bool) (p : Addr) : Prop := ∃ (i : Nat) (b : Ob), s[i]? = some (some (.o f b)) ∧ σ[i]? = some (some (.ref p))
structure Rep (G H : Hp) (σ : Ss) (s : S) : Prop where
  len : s.length = σ.length
  gh : Same G H
  sl : ∀ (i : Nat) (vl : Vl), s[i]? = some (some vl) → ∃ v, σ[i]? = some (some v) ∧ SvR K xi G H v vl
  ap : ∀ (i j : Nat) (f g : Bool) (b c : Ob) (p : Addr), s[i]? = some (some (.o f b)) → s[j]? = some (some (.o g c)) → σ[i]? = some (some (.ref p)) → σ[j]? = some (some (.ref p)) → i = j
end
structure Stp (G H : Hp) (σ : Ss) (s : S) (G' H' : Hp) (σ' : Ss) (s' : S) : Prop where
  gg : Same G G'
  fr : ∀ b o, H b = some o → (∀ f, ¬ Own σ s f b) → H' b = some o
  lv : ∀ b, H b ≠ none → H' b ≠ none
  gn : ∀ b, G b = none → H b ≠ none → G' b ≠ none → Own σ s true b
  ow : ∀ f p, Own σ' s' f p → (H p = none ∧ f = true) ∨ Own σ s f p
  io : ∀ (i : Nat) (b : Ob), s[i]? = some (some (.o false b)) → σ'[i]? = σ[i]? ∧ ∃ b', s'[i]? = some (some (.o false b'))
theorem ne_none {α : Type} {o : Option α} {a : α} (h : o = some a) : o ≠ none := by rw [h]; exact fun z => nomatch z
theorem Stp.refl {G H : Hp} {σ : Ss} {s : S} : Stp G H σ s G H σ s :=
  ⟨fun _ _ h => h, fun _ _ h _ => h, fun _ h => h, fun _ h _ n => absurd h n, fun _ _ h => .inr h, fun _ b h => ⟨rfl, b, h⟩⟩
theorem Stp.trans {G H G1 H1 G2 H2 : Hp} {σ σ1 σ2 : Ss} {s s1 s2 : S} (a : Stp G H σ s G1 H1 σ1 s1) (b : Stp G1 H1 σ1 s1 G2 H2 σ2 s2) : Stp G H σ s G2 H2 σ2 s2 where
  gg := a.gg.trans b.gg
  fr := fun c o h n => b.fr c o (a.fr c o h n) fun f w => by
    rcases a.ow f c w with ⟨z, _⟩ | z
    · rw [h] at z; cases z
    · exact n f z
  lv := fun c h => b.lv c (a.lv c h)
  gn := fun c h1 h2 h3 => by
    cases e : G1 c with
    | some o => exact a.gn c h1 h2 (ne_none e)
    | none =>
      rcases a.ow true c (b.gn c e (a.lv c h2) h3) with ⟨z, _⟩ | z
      · exact absurd z h2
      · exact z
  ow := fun f p w => by
    rcases b.ow f p w with ⟨z, e⟩ | z
    · refine .inl ⟨?_, e⟩
      cases q : H p with
      | none => rfl
      | some o => exact absurd z (a.lv p (ne_none q))
    · exact a.ow f p z
  io := fun i c h => by
    obtain ⟨e1, c1, h1⟩ := a.io i c h
    obtain ⟨e2, c2, h2⟩ := b.io i c1 h1
    exact ⟨e2.trans e1, c2, h2⟩
section
variable {K : PySem.W.Frag} [Wd] {xi : XI} {G H G' H' G1 H1 : Hp} {σ σ' σ1 : Ss} {s s' s1 : S}
theorem ZR.same {v : V} {p : Zp} (h : ZR K G v p) (g : Same G G') : ZR K G' v p := by
  cases p with
  | F f => exact h
  | N b => cases b with
    | L ds => exact h
    | T kvs => exact h
    | K kvs => obtain ⟨p, o, us, e, h1, h2, h3⟩ := h; exact ⟨p, o, us, e, g _ _ h1, h2, RpAll.same g h3⟩
    | N kvs => obtain ⟨p, o, us, e, h1, h2⟩ := h; exact ⟨p, o, us, e, g _ _ h1, Paired.mapP h2 fun a b z => ⟨z.1, Rp.same g z.2.1, Rp.same g z.2.2⟩⟩
theorem ObR.mono {p : Addr} {b : Ob} (h : ObR K G H p b) (g : Same G G') (e : H' p = H p) : ObR K G' H' p b := by
  cases b with
  | L ds => obtain ⟨vs, h1, h2⟩ := h; exact ⟨vs, e.trans h1, RpAll.same g h2⟩
  | K kvs => obtain ⟨us, h1, h2, h3⟩ := h; exact ⟨us, e.trans h1, h2, RpAll.same g h3⟩
  | T kvs => obtain ⟨us, h1, h2, h3⟩ := h; exact ⟨us, e.trans h1, h2, RpAll.same g h3⟩
  | N kvs => obtain ⟨us, h1, h2⟩ := h; exact ⟨us, e.trans h1, Paired.mapP h2 fun a b z => ⟨z.1, Rp.same g z.2.1, Rp.same g z.2.2⟩⟩
theorem ObR.here {p : Addr} {b : Ob} (h : ObR K G H p b) : H p ≠ none := by
  cases b with
  | L ds => obtain ⟨vs, h1, h2⟩ := h; exact ne_none h1
  | K kvs => obtain ⟨us, h1, h2, h3⟩ := h; exact ne_none h1
  | T kvs => obtain ⟨us, h1, h2, h3⟩ := h; exact ne_none h1
  | N kvs => obtain ⟨us, h1, h2⟩ := h; exact ne_none h1
theorem ObR.noxd {p : Addr} {b : Ob} {fs : List (Str × V)} (h : ObR K G H p b) (e : H p = some (.xd fs)) : False := by
  cases b with
  | L ds => obtain ⟨vs, h1, h2⟩ := h; rw [e] at h1; cases h1
  | K kvs => obtain ⟨us, h1, h2, h3⟩ := h; rw [e] at h1; cases h1
  | T kvs => obtain ⟨us, h1, h2, h3⟩ := h; rw [e] at h1; cases h1
  | N kvs => obtain ⟨us, h1, h2⟩ := h; rw [e] at h1; cases h1
theorem Rep.own (R : Rep K xi G H σ s) {f : Bool} {p : Addr} (w : Own σ s f p) : G p = none ∧ ∃ b, ObR K G H p b := by
  obtain ⟨i, b, h1, h2⟩ := w
  obtain ⟨v, e, q, e2, h3, h4⟩ := R.sl i _ h1
  rw [h2] at e
  cases e
  cases e2
  exact ⟨h3, b, h4⟩
theorem Rep.free (R : Rep K xi G H σ s) {p : Addr} (h : H p = none) : G p = none := by
  cases e : G p with
  | none => rfl
  | some o => rw [R.gh p o e] at h; cases h
theorem Rep.noOwn (R : Rep K xi G H σ s) {p : Addr} (h : H p = none) (f : Bool) : ¬ Own σ s f p := fun w => by
  obtain ⟨_, b, q⟩ := R.own w
  exact q.here h
def VR (K : PySem.W.Frag) [Wd] (xi : XI) (H0 : Hp) (σ0 : Ss) (s0 : S) (G H : Hp) (σ : Ss) (s : S) (v : V) : Vl → Prop
  | .d x => Rp K G v x
  | .o f b => f = true ∧ ∃ p, v = .ref p ∧ G p = none ∧ (H0 p = none ∨ Own σ0 s0 true p) ∧ ObR K G H p b ∧ ∀ g, ¬ Own σ s g p
  | .r i => σ[i]? = some (some v)
  | .x e => XR K xi H v e
  | .s ns => ∃ a, v = .ref a ∧ SqL K G a (ns.map V.int)
  | .z p => ZR K G v p
theorem VR.step {H0 : Hp} {σ0 : Ss} {s0 : S} {v : V} {vl : Vl} (h : VR K xi H0 σ0 s0 G H σ s v vl) (R : Rep K xi G H σ s) (t : Stp G H σ s G' H' σ s') : VR K xi H0 σ0 s0 G' H' σ s' v vl := by
  cases vl with
  | d x => exact Rp.same t.gg h
  | o f b =>
    obtain ⟨e0, p, e, h1, h2, h3, h4⟩ := h
    have hp : H' p = H p := by
      cases q : H p with
      | none => exact absurd q h3.here
      | some o => exact t.fr p o q h4
    refine ⟨e0, p, e, ?_, h2, h3.mono t.gg hp, fun g w => ?_⟩
    · cases q : G' p with
      | none => rfl
      | some o => exact absurd (t.gn p h1 h3.here (ne_none q)) (h4 true)
    · rcases t.ow g p w with ⟨z, _⟩ | z
      · exact h3.here z
      · exact h4 g z
  | r i => exact h
  | x e =>
    obtain ⟨a, cls, d, h1, h2, h3, h4⟩ := h
    refine ⟨a, cls, d, h1, h2, h3, fun nm n e => ?_⟩
    obtain ⟨dd, q1, q2⟩ := h4 nm n e
    refine ⟨dd, q1, t.fr _ _ q2 fun f w => ?_⟩
    obtain ⟨_, b, z⟩ := R.own w
    exact z.noxd q2
  | s ns =>
    obtain ⟨a, e, h⟩ := h
    exact ⟨a, e, same_l t.gg h⟩
  | z zp => exact ZR.same h t.gg
theorem VR.back {H0 : Hp} {σ0 : Ss} {s0 : S} {v : V} {vl : Vl} {Ga Gb : Hp} {σa : Ss} {sa : S} (h : VR K xi H σa sa G' H' σ s' v vl) (t : Stp Ga H0 σ0 s0 Gb H σa sa) : VR K xi H0 σ0 s0 G' H' σ s' v vl := by
  cases vl with
  | d x => exact h
  | o f b =>
    obtain ⟨e0, p, e, h1, h2, h3, h4⟩ := h
    refine ⟨e0, p, e, h1, ?_, h3, h4⟩
    rcases h2 with z | z
    · left
      cases q : H0 p with
      | none => rfl
      | some o => exact absurd z (t.lv p (ne_none q))
    · rcases t.ow true p z with ⟨q, _⟩ | q
      · exact .inl q
      · exact .inr q
  | r i => exact h
  | x e => exact h
  | s ns => exact h
  | z zp => exact h
inductive RdR (K : PySem.W.Frag) (G H : Hp) : V → D → Prop
  | non : RdR K G H .non .none
  | bl (b : Bool) : RdR K G H (.bl b) (.bool b)
  | int (i : Int) : RdR K G H (.int i) (.int i)
  | str {x : Str} (h : x.length ≤ sizeLine) : RdR K G H (.str x) (.str x)
  | lst {a : Addr} {xs : List V} {ds : List D} : H a = some (.lst xs) → RpAll K G xs ds → RdR K G H (.ref a) (.list ds)
  | tup {a : Addr} {xs : List V} {ds : List D} : SqT K G a xs → RpAll K G xs ds → RdR K G H (.ref a) (.tuple ds)
def rd (s : S) : Vl → Option D
  | .d x => some x
  | .o _ (.L ds) => some (.list ds)
  | .r i => match s[i]? with
    | some (some (.d x)) => some x
    | some (some (.o _ (.L ds))) => some (.list ds)
    | _ => none
  | _ => none
theorem RdR.of {v : V} {x : D} (h : Rp K G v x) (g : Same G H) : RdR K G H v x := by
  cases h with
  | non => exact .non
  | bl b => exact .bl b
  | int i => exact .int i
  | str h => exact .str h
  | lst h a => exact .lst (g _ _ h) a
  | tup h a => exact .tup h a
theorem RdR.dp {v : V} {x : D} (h : RdR K G H v x) (g : Same G H) : Rp K H v x := by
  cases h with
  | non => exact .non
  | bl b => exact .bl b
  | int i => exact .int i
  | str h => exact .str h
  | lst h a => exact .lst h (RpAll.same g a)
  | tup h a => exact .tup (same_t g h) (RpAll.same g a)
theorem SvR.rdr {v : V} {vl : Vl} {x : D} {i : Nat} (h : SvR K xi G H v vl) (g : Same G H) (hi : s[i]? = some (some vl)) (e : rd s (.r i) = some x) : RdR K G H v x := by
  have e2 : (match s[i]? with | some (some (.d x)) => some x | some (some (.o _ (.L ds))) => some (.list ds) | _ => none : Option D) = some x := e
  rw [hi] at e2
  cases vl with
  | d y => cases e2; exact RdR.of h g
  | o f b =>
    cases b with
    | L ds =>
      cases e2
      obtain ⟨p, rfl, _, vs, h1, h2⟩ := h
      exact .lst h1 h2
    | K kvs => cases e2
    | T kvs => cases e2
    | N kvs => cases e2
  | r j => cases e2
  | x e => cases e2
  | s ns => cases e2
  | z zp => cases e2
theorem rd_ok {H0 : Hp} {σ0 : Ss} {s0 : S} {v : V} {vl : Vl} {x : D} (R : Rep K xi G H σ s) (h : VR K xi H0 σ0 s0 G H σ s v vl) (e : rd s vl = some x) : RdR K G H v x := by
  cases vl with
  | d y => cases e; exact RdR.of h R.gh
  | o f b =>
    cases b with
    | L ds =>
      cases e
      obtain ⟨_, p, rfl, _, _, ⟨vs, h1, h2⟩, _⟩ := h
      exact .lst h1 h2
    | K kvs => cases e
    | T kvs => cases e
    | N kvs => cases e
  | r i =>
    have h : σ[i]? = some (some v) := h
    have e2 : (match s[i]? with | some (some (.d x)) => some x | some (some (.o _ (.L ds))) => some (.list ds) | _ => none : Option D) = some x := e
    cases q : s[i]? with
    | none => rw [q] at e2; cases e2
    | some o =>
      cases o with
      | none => rw [q] at e2; cases e2
      | some u =>
        obtain ⟨w, e1, h1⟩ := R.sl i u q
        rw [h] at e1
        cases e1
        exact h1.rdr R.gh q e
  | x e1 => cases e
  | s ns => cases e
  | z zp => cases e
end
section
variable (K : PySem.W.Frag) [Wd] (xi : XI) (W : WX)
def EW (e : Exn) (σ : Ss) (H : Hp) : Prop := match e.fld with
  | none => W (.ref (He.ga K e.c)) none σ H
  | some (nm, n) => ∀ dd, H dd = some (.xd [(nm, .int n)]) → W (.ref (He.ga K e.c)) (some dd) σ H
abbrev Rl3 (α β : Type) := Hp → Ss → S → Hp → Hp → Ss → S → β → α → Prop
def Po {α β : Type} (rel : Rl3 α β) (G H : Hp) (σ : Ss) (s : S) (r : ER α) (Q : β → Hp → Prop) : Prop := match r with
  | .ok a s' => ∀ v G' H', Stp G H σ s G' H' σ s' → Rep K xi G' H' σ s' → rel H σ s G' H' σ s' v a → Q v H'
  | .er e s' => ∀ G' H', Stp G H σ s G' H' σ s' → Rep K xi G' H' σ s' → EW K W e σ H'
  | .no => False
def rB : Rl3 Bool Bool := fun _ _ _ _ _ _ _ b a => b = a
inductive VRs (H0 : Hp) (σ0 : Ss) (s0 : S) (G H : Hp) (σ : Ss) (s : S) : List V → List Vl → Prop
  | nil : VRs H0 σ0 s0 G H σ s [] []
  | cons {v : V} {vl : Vl} {vs : List V} {vls : List Vl} : VR K xi H0 σ0 s0 G H σ s v vl → VRs H0 σ0 s0 G H σ s vs vls → VRs H0 σ0 s0 G H σ s (v :: vs) (vl :: vls)
structure rAs (H0 : Hp) (σ0 : Ss) (s0 : S) (G H : Hp) (σ : Ss) (s : S) (vs : List V) (vls : List Vl) : Prop where
  all : VRs K xi H0 σ0 s0 G H σ s vs vls
  ap : ∀ (i j : Nat) (f g : Bool) (b c : Ob) (p : Addr), vls[i]? = some (.o f b) → vls[j]? = some (.o g c) → vs[i]? = some (.ref p) → vs[j]? = some (.ref p) → i = j
def tE (f : S → ER Vl) : TE := fun σ H Q => ∃ G s, Rep K xi G H σ s ∧ Po K xi W (VR K xi) G H σ s (f s) Q
def tA (f : S → ER (List Vl)) : TA := fun σ H Q => ∃ G s, Rep K xi G H σ s ∧ Po K xi W (rAs K xi) G H σ s (f s) Q
def tT (f : S → ER Bool) : TT := fun σ H Q => ∃ G s, Rep K xi G H σ s ∧ Po K xi W rB G H σ s (f s) Q
end
section
variable {K : PySem.W.Frag} [Wd] {xi : XI} {W : WX} {G H G' H' G1 H1 : Hp} {σ σ' σ1 : Ss} {s s' s1 : S} {α β γ δ : Type}
theorem VRs.step {H0 : Hp} {σ0 : Ss} {s0 : S} (R : Rep K xi G H σ s) (t : Stp G H σ s G' H' σ s') : ∀ {vs : List V} {vls : List Vl}, VRs K xi H0 σ0 s0 G H σ s vs vls → VRs K xi H0 σ0 s0 G' H' σ s' vs vls
  | _, _, .nil => .nil
  | _, _, .cons a b => .cons (a.step R t) (VRs.step R t b)
theorem VRs.back {H0 : Hp} {σ0 : Ss} {s0 : S} {Ga Gb : Hp} {σa : Ss} {sa : S} (t : Stp Ga H0 σ0 s0 Gb H σa sa) : ∀ {vs : List V} {vls : List Vl}, VRs K xi H σa sa G' H' σ s' vs vls → VRs K xi H0 σ0 s0 G' H' σ s' vs vls
  | _, _, .nil => .nil
  | _, _, .cons a b => .cons (a.back t) (VRs.back t b)
def Backs (rel : Rl3 α β) : Prop := ∀ (Ga H0 : Hp) (σ0 : Ss) (s0 : S) (Gb H : Hp) (σa : Ss) (sa : S) (G' H' : Hp) (σ : Ss) (s : S) (v : β) (a : α), Stp Ga H0 σ0 s0 Gb H σa sa → rel H σa sa G' H' σ s v a → rel H0 σ0 s0 G' H' σ s v a
theorem backs_V : Backs (VR K xi) := fun _ _ _ _ _ _ _ _ _ _ _ _ _ _ t h => VR.back h t
theorem backs_B : Backs rB := fun _ _ _ _ _ _ _ _ _ _ _ _ _ _ _ h => h
theorem Po.shift {rel : Rl3 α β} {r : ER α} {Q : β → Hp → Prop} (t : Stp G H σ s G1 H1 σ s1) (b : Backs rel) (h : Po K xi W rel G H σ s r Q) : Po K xi W rel G1 H1 σ s1 r Q := by
  cases r with
  | ok a s' => exact fun v G' H' t' R' q => h v G' H' (t.trans t') R' (b _ _ _ _ _ _ _ _ _ _ _ _ _ _ t q)
  | er e s' => exact fun G' H' t' R' => h G' H' (t.trans t') R'
  | no => exact h
theorem Po.bind {rel : Rl3 α β} {rel2 : Rl3 γ δ} {r : ER α} {g : α → S → ER γ} {Q : δ → Hp → Prop} {Z : β → Hp → Prop} (h : Po K xi W rel2 G H σ s (r.bind g) Q) (b : Backs rel2)
    (k : ∀ a s1, r = .ok a s1 → ∀ v G1 H1, Stp G H σ s G1 H1 σ s1 → Rep K xi G1 H1 σ s1 → rel H σ s G1 H1 σ s1 v a → Po K xi W rel2 G1 H1 σ s1 (g a s1) Q → Z v H1) : Po K xi W rel G H σ s r Z := by
  cases r with
  | ok a s1 => exact fun v G1 H1 t R q => k a s1 rfl v G1 H1 t R q (Po.shift t b h)
  | er e s1 => exact h
  | no => exact h
theorem Po.bindU {G0 H0 : Hp} {s0 : S} {rel : Rl3 α β} {rel2 : Rl3 γ δ} {r : ER α} {g : α → S → ER γ} {Q : δ → Hp → Prop} {Z : β → Hp → Prop} (t : Stp G0 H0 σ s0 G H σ s) (h : Po K xi W rel2 G0 H0 σ s0 (r.bind g) Q)
    (k : ∀ a s1, r = .ok a s1 → ∀ v G1 H1, Stp G H σ s G1 H1 σ s1 → Rep K xi G1 H1 σ s1 → rel H σ s G1 H1 σ s1 v a → Po K xi W rel2 G0 H0 σ s0 (g a s1) Q → Z v H1) : Po K xi W rel G H σ s r Z := by
  cases r with
  | ok a s1 => exact fun v G1 H1 t1 R q => k a s1 rfl v G1 H1 t1 R q h
  | er e s1 => exact fun G' H' t' R' => h G' H' (t.trans t') R'
  | no => exact h
theorem Po.mono {rel : Rl3 α β} {r : ER α} {Q Q' : β → Hp → Prop} (h : Po K xi W rel G H σ s r Q) (k : ∀ v H', Q v H' → Q' v H') : Po K xi W rel G H σ s r Q' := by
  cases r with
  | ok a s1 => exact fun v G1 H1 t R q => k _ _ (h v G1 H1 t R q)
  | er e s1 => exact h
  | no => exact h
inductive Ext (K : PySem.W.Frag) (G H : Hp) : V → Hp → Vl → Prop
  | same {v : V} {x : D} : Rp K G v x → Ext K G H v H (.d x)
  | tup {p : Addr} {us : List V} {ds : List D} : H p = none → RpAll K G us ds → Ext K G H (.ref p) (upd H p (.tup us)) (.d (.tuple ds))
  | lst {p : Addr} {us : List V} {ds : List D} : H p = none → RpAll K G us ds → Ext K G H (.ref p) (upd H p (.lst us)) (.o true (.L ds))
theorem Same.upd2 {G H : Hp} {p : Addr} {o : HO} (g : Same G H) (h : G p = none) : Same G (upd H p o) := fun b u q => by
  rw [upd_ne (fun e => by rw [e, h] at q; cases q)]
  exact g b u q
theorem Same.both {G H : Hp} {p : Addr} {o : HO} (g : Same G H) : Same (upd G p o) (upd H p o) := fun b u q => by
  by_cases e : b = p
  · subst e
    rw [upd_same] at q ⊢
    exact q
  · rw [upd_ne e] at q ⊢
    exact g b u q
theorem SvR.step (R : Rep K xi G H σ s) (t : Stp G H σ s G' H' σ s') {v : V} {vl : Vl} (h : SvR K xi G H v vl) (hn : ∀ p, v = .ref p → (∃ f b, vl = .o f b) → H' p = H p ∧ G' p = none) : SvR K xi G' H' v vl := by
  cases vl with
  | d x => exact Rp.same t.gg h
  | o f b =>
    obtain ⟨p, e, h1, h2⟩ := h
    obtain ⟨e1, e2⟩ := hn p e ⟨f, b, rfl⟩
    exact ⟨p, e, e2, h2.mono t.gg e1⟩
  | r i => exact h
  | x e =>
    obtain ⟨a, cls, d, h1, h2, h3, h4⟩ := h
    refine ⟨a, cls, d, h1, h2, h3, fun nm n e => ?_⟩
    obtain ⟨dd, q1, q2⟩ := h4 nm n e
    refine ⟨dd, q1, t.fr _ _ q2 fun f w => ?_⟩
    obtain ⟨_, b, z⟩ := R.own w
    exact z.noxd q2
  | s ns =>
    obtain ⟨a, e, h⟩ := h
    exact ⟨a, e, same_l t.gg h⟩
  | z zp => exact ZR.same h t.gg
theorem Rep.quiet (R : Rep K xi G H σ s) (t : Stp G H σ s G' H' σ s) (g : Same G' H') (hf : ∀ f p, Own σ s f p → H' p = H p ∧ G' p = none) : Rep K xi G' H' σ s :=
  ⟨R.len, g, fun i vl h => by
    obtain ⟨v, e, q⟩ := R.sl i vl h
    exact ⟨v, e, q.step R t fun p e1 ⟨f, b, e2⟩ => hf f p ⟨i, b, by rw [h, e2], by rw [e, e1]⟩⟩, R.ap⟩
theorem stp_new {p : Addr} {o : HO} {G1 : Hp} (R : Rep K xi G H σ s) (hp : H p = none) (hg : G1 = G ∨ G1 = upd G p o) : Stp G H σ s G1 (upd H p o) σ s := by
  have gp := R.free hp
  have g1 : Same G G1 := by
    rcases hg with rfl | rfl
    · exact Same.refl _
    · exact Same.new gp
  refine ⟨g1, fun b u h _ => ?_, fun b h => ?_, fun b h1 h2 h3 => ?_, fun f q w => .inr w, fun i b h => ⟨rfl, b, h⟩⟩
  · rw [upd_ne (fun e => by rw [e, hp] at h; cases h)]
    exact h
  · rw [upd_ne (fun e => h (by rw [e]; exact hp))]
    exact h
  · rcases hg with rfl | rfl
    · exact absurd h1 h3
    · rw [upd_ne (fun e => h2 (by rw [e]; exact hp))] at h3
      exact absurd h1 h3
theorem rep_new {p : Addr} {o : HO} {G1 : Hp} (R : Rep K xi G H σ s) (hp : H p = none) (hg : G1 = G ∨ G1 = upd G p o) : Rep K xi G1 (upd H p o) σ s := by
  have gp := R.free hp
  refine R.quiet (stp_new R hp hg) ?_ fun f q w => ?_
  · rcases hg with rfl | rfl
    · exact Same.upd2 R.gh gp
    · exact Same.both R.gh
  · have hq : q ≠ p := fun e => R.noOwn hp f (e ▸ w)
    refine ⟨upd_ne hq, ?_⟩
    rcases hg with rfl | rfl
    · exact (R.own w).1
    · rw [upd_ne hq]
      exact (R.own w).1
theorem Ext.fin {v : V} {H2 : Hp} {vl : Vl} {Q : VK} (e : Ext K G H v H2 vl) (R : Rep K xi G H σ s) (h : Po K xi W (VR K xi) G H σ s (.ok vl s) Q) : Q v H2 := by
  cases e with
  | same d => exact h _ _ _ .refl R d
  | tup hp a =>
    rename_i p us ds
    refine h _ (upd G p (.tup us)) _ (stp_new R hp (.inr rfl)) (rep_new R hp (.inr rfl)) ?_
    exact .tup (.inl (Rd.of upd_same)) (RpAll.same (Same.new (R.free hp)) a)
  | lst hp a =>
    rename_i p us ds
    refine h _ G _ (stp_new R hp (.inl rfl)) (rep_new R hp (.inl rfl)) ⟨rfl, p, rfl, R.free hp, .inl hp, ⟨us, upd_same, a⟩, fun g w => R.noOwn hp g w⟩
end
end M
set_option Elab.async false
set_option linter.all false
set_option maxRecDepth 100000
set_option maxHeartbeats 4000000
namespace M
open PySem PySem.Spec PyProof.Rows L2 Sv
theorem PE.mono {X : Cx} {e : Expr} {t t' : TE} (h : PE X e t) (k : ∀ σ H Q, t' σ H Q → t σ H Q) : PE X e t' := ⟨fun pins s σ H Q I w => h.run pins s σ H Q I (k σ H Q w)⟩
theorem PT.mono {X : Cx} {e : Expr} {t t' : TT} (h : PT X e t) (k : ∀ σ H Q, t' σ H Q → t σ H Q) : PT X e t' := ⟨fun pins s σ H Q I w => h.run pins s σ H Q I (k σ H Q w)⟩
theorem PW.mono {X : Cx} {e : Expr} {t t' : TT} (h : PW X e t) (k : ∀ σ H Q, t' σ H Q → t σ H Q) : PW X e t' := ⟨fun wh pins s σ H Q I w => h.run wh pins s σ H Q I (k σ H Q w)⟩
theorem PA.mono {X : Cx} {e : List Expr} {t t' : TA} (h : PA X e t) (k : ∀ σ H Q, t' σ H Q → t σ H Q) : PA X e t' := ⟨fun p pins s σ H Q I w => h.run p pins s σ H Q I (k σ H Q w)⟩
theorem PS.mono {X : Cx} {e : Stmt} {t t' : TS} (h : PS X e t) (k : ∀ D σ H, t' D σ H → t D σ H) : PS X e t' := ⟨fun pins s σ H D I w => h.run pins s σ H D I (k D σ H w)⟩
theorem PSs.mono {X : Cx} {e : List Stmt} {t t' : TS} (h : PSs X e t) (k : ∀ D σ H, t' D σ H → t D σ H) : PSs X e t' := ⟨fun pins s σ H D I w => h.run pins s σ H D I (k D σ H w)⟩
def cE (x : D) : S → ER Vl := fun s => .ok (.d x) s
def varE (i : Nat) : S → ER Vl := fun s => match s[i]? with
  | some (some (.d x)) => .ok (.d x) s
  | some (some (.o _ _)) => .ok (.r i) s
  | some (some (.x e)) => .ok (.x e) s
  | some (some (.s ns)) => .ok (.s ns) s
  | some (some (.z p)) => .ok (.z p) s
  | _ => .no
def un1 (f : D → Option Vl) (s : S) (a : Vl) : ER Vl := match rd s a with
  | some x => (match f x with | some z => .ok z s | none => .no)
  | none => .no
def bi2 (f : D → D → Option Vl) (s : S) (a b : Vl) : ER Vl := match rd s a with
  | some x => (match rd s b with
    | some y => (match f x y with | some z => .ok z s | none => .no)
    | none => .no)
  | none => .no
def unE (f : D → Option Vl) (fa : S → ER Vl) : S → ER Vl := fun s => (fa s).bind fun a s1 => un1 f s1 a
def opE (f : D → D → Option Vl) (fa fb : S → ER Vl) : S → ER Vl := fun s => (fa s).bind fun a s1 => (fb s1).bind fun b s2 => bi2 f s2 a b
def truD : D → Bool
  | .none => false
  | .bool b => b
  | .int i => i != 0
  | .str z => (z.length : Int) != 0
  | .list ds => !ds.isEmpty
  | .tuple ds => !ds.isEmpty
  | .dict _ => false
def tru (s : S) : Vl → Option Bool
  | .d x => some (truD x)
  | .o _ (.L ds) => some (!ds.isEmpty)
  | .o _ (.K kvs) => some (!kvs.isEmpty)
  | .r i => match s[i]? with
    | some (some (.d x)) => some (truD x)
    | some (some (.o _ (.L ds))) => some (!ds.isEmpty)
    | some (some (.o _ (.K kvs))) => some (!kvs.isEmpty)
    | _ => none
  | _ => none
def tru1 (s : S) (a : Vl) : ER Bool := match tru s a with
  | some b => .ok b s
  | none => .no
def truT (fa : S → ER Vl) : S → ER Bool := fun s => (fa s).bind fun a s1 => tru1 s1 a
def blT (fa : S → ER Vl) : S → ER Bool := fun s => (fa s).bind fun a s1 => match a with
  | .d (.bool b) => .ok b s1
  | _ => .no
def notT (f : S → ER Bool) : S → ER Bool := fun s => (f s).bind fun b s1 => .ok (!b) s1
def andT (f g : S → ER Bool) : S → ER Bool := fun s => (f s).bind fun b s1 => if b = true then g s1 else .ok false s1
def orT (f g : S → ER Bool) : S → ER Bool := fun s => (f s).bind fun b s1 => if b = true then .ok true s1 else g s1
def ifE (c : S → ER Bool) (fa fb : S → ER Vl) : S → ER Vl := fun s => (c s).bind fun b s1 => if b = true then fa s1 else fb s1
def notE (fa : S → ER Vl) : S → ER Vl := fun s => (truT fa s).bind fun b s1 => .ok (.d (.bool (!b))) s1
def andE (fa fb : S → ER Vl) : S → ER Vl := fun s => (fa s).bind fun a s1 => (tru1 s1 a).bind fun b s2 => if b = true then fb s2 else .ok a s2
def orE (fa fb : S → ER Vl) : S → ER Vl := fun s => (fa s).bind fun a s1 => (tru1 s1 a).bind fun b s2 => if b = true then .ok a s2 else fb s2
def ifB (z : Vl) (x y : ER Vl) : ER Vl := match z with
  | .d (.bool c) => if c = true then x else y
  | _ => .no
def chE (f g : D → D → Option Vl) (fa fb fc : S → ER Vl) : S → ER Vl := fun s => (fa s).bind fun a s1 => (fb s1).bind fun b s2 => (bi2 f s2 a b).bind fun z s3 => ifB z ((fc s3).bind fun c s4 => bi2 g s4 b c) (.ok (.d (.bool false)) s3)
section
variable {X : Cx} {K : PySem.W.Frag} [Wd] {xi : XI} {W : WX} {G H G' H' G1 H1 : Hp} {σ σ' σ1 : Ss} {s s' s1 : S} {e a b c : Expr} {rest : List Expr} {fa fb fc : S → ER Vl} {p pos : Pos}
theorem re_var {i : Nat} (h : PE X e (tVar i)) : PE X e (tE K xi W (varE i)) := PE.mono h fun σ H Q ⟨G, s, R, h⟩ => by
  unfold varE at h
  split at h
  · rename_i x q
    obtain ⟨v, e1, h1⟩ := R.sl i _ q
    exact ⟨v, e1, h v G H .refl R h1⟩
  · rename_i f b q
    obtain ⟨v, e1, h1⟩ := R.sl i _ q
    exact ⟨v, e1, h v G H .refl R e1⟩
  · rename_i x q
    obtain ⟨v, e1, h1⟩ := R.sl i _ q
    exact ⟨v, e1, h v G H .refl R h1⟩
  · rename_i x q
    obtain ⟨v, e1, h1⟩ := R.sl i _ q
    exact ⟨v, e1, h v G H .refl R h1⟩
  · rename_i x q
    obtain ⟨v, e1, h1⟩ := R.sl i _ q
    exact ⟨v, e1, h v G H .refl R h1⟩
  · exact h.elim
theorem re_c {v : V} {x : D} (h : PE X e (tC v)) (hx : ∀ G, Rp K G v x) : PE X e (tE K xi W (cE x)) := PE.mono h fun σ H Q ⟨G, s, R, h⟩ => h v G H .refl R (hx G)
theorem re_int {i : Int} {j : Nat} : PE X (.Constant (.int i) j pos) (tE K xi W (cE (.int i))) := re_c pe_int fun _ => .int i
theorem re_bl {i : Bool} {j : Nat} : PE X (.Constant (.bool i) j pos) (tE K xi W (cE (.bool i))) := re_c pe_bl fun _ => .bl i
theorem re_non {j : Nat} : PE X (.Constant .none j pos) (tE K xi W (cE .none)) := re_c pe_non fun _ => .non
theorem re_str {x : Str} {j : Nat} (h : x.length ≤ 1000 := by decide +kernel) : PE X (.Constant (.str x) j pos) (tE K xi W (cE (.str x))) := re_c pe_str fun _ => .str (by rw [sizeLine_eq]; omega)
def OpF (K : PySem.W.Frag) (r : R2) (f : D → D → Option Vl) : Prop :=
  ∀ (G H : Hp) (v w : V) (x y : D) (z : Vl) (Q : VK), Same G H → RdR K G H v x → RdR K G H w y → f x y = some z → (∀ u H', Ext K G H u H' z → Q u H') → r v w H Q
def UnF (K : PySem.W.Frag) (r : V → Hp → VK → Prop) (f : D → Option Vl) : Prop :=
  ∀ (G H : Hp) (v : V) (x : D) (z : Vl) (Q : VK), Same G H → RdR K G H v x → f x = some z → (∀ u H', Ext K G H u H' z → Q u H') → r v H Q
theorem bi2_of {r : R2} {f : D → D → Option Vl} {Q : VK} {va vb : Vl} {x y : V} {H0 H00 : Hp} {σ0 σ00 : Ss} {s0 s00 : S} (hf : OpF K r f) (R : Rep K xi G H σ s) (ra : VR K xi H0 σ0 s0 G H σ s x va) (rb : VR K xi H00 σ00 s00 G H σ s y vb)
    (h : Po K xi W (VR K xi) G H σ s (bi2 f s va vb) Q) : r x y H Q := by
  unfold bi2 at h
  split at h
  · rename_i dx ex
    split at h
    · rename_i dy ey
      split at h
      · rename_i z ez
        exact hf G H x y dx dy z Q R.gh (rd_ok R ra ex) (rd_ok R rb ey) ez fun u H' ext => ext.fin R h
      · exact h.elim
    · exact h.elim
  · exact h.elim
theorem un1_of {r : V → Hp → VK → Prop} {f : D → Option Vl} {Q : VK} {va : Vl} {x : V} {H0 : Hp} {σ0 : Ss} {s0 : S} (hf : UnF K r f) (R : Rep K xi G H σ s) (ra : VR K xi H0 σ0 s0 G H σ s x va)
    (h : Po K xi W (VR K xi) G H σ s (un1 f s va) Q) : r x H Q := by
  unfold un1 at h
  split at h
  · rename_i dx ex
    split at h
    · rename_i z ez
      exact hf G H x dx z Q R.gh (rd_ok R ra ex) ez fun u H' ext => ext.fin R h
    · exact h.elim
  · exact h.elim
theorem op_lift {r : R2} {f : D → D → Option Vl} (hf : OpF K r f) {Q : VK} (h : tE K xi W (opE f fa fb) σ H Q) : tOp r (tE K xi W fa) (tE K xi W fb) σ H Q := by
  obtain ⟨G, s, R, h⟩ := h
  exact ⟨G, s, R, Po.bind h backs_V fun va s1 _ x G1 H1 t1 R1 ra h1 => ⟨G1, s1, R1, Po.bind h1 backs_V fun vb s2 _ y G2 H2 t2 R2 rb h2 => bi2_of hf R2 (ra.step R1 t2) rb h2⟩⟩
theorem un_lift {r : V → Hp → VK → Prop} {f : D → Option Vl} (hf : UnF K r f) {Q : VK} (h : tE K xi W (unE f fa) σ H Q) : tUn r (tE K xi W fa) σ H Q := by
  obtain ⟨G, s, R, h⟩ := h
  exact ⟨G, s, R, Po.bind h backs_V fun va s1 _ x G1 H1 t1 R1 ra h1 => un1_of hf R1 ra h1⟩
theorem re_op {op : Operator} {r : R2} {f : D → D → Option Vl} (ho : OpR X (binaryOp op) r) (hf : OpF K r f) (ha : PE X a (tE K xi W fa)) (hb : PE X b (tE K xi W fb)) : PE X (.BinOp a op b pos) (tE K xi W (opE f fa fb)) :=
  PE.mono (pe_op ho ha hb) fun _ _ _ h => op_lift hf h
theorem re_un {op : UnaryOp} {r : V → Hp → VK → Prop} {f : D → Option Vl} (ho : UnR X (unaryOp op) r) (hf : UnF K r f) (ha : PE X a (tE K xi W fa)) : PE X (.UnaryOp op a pos) (tE K xi W (unE f fa)) :=
  PE.mono (pe_un ho ha) fun _ _ _ h => un_lift hf h
theorem re_cmp {op : CmpOp} {r : R2} {f : D → D → Option Vl} (ho : OpR X (compareOp op) r) (hf : OpF K r f) (ha : PE X a (tE K xi W fa)) (hb : PE X b (tE K xi W fb)) (hm : behindInMarks op b = false) : PE X (.Compare a [op] [b] pos) (tE K xi W (opE f fa fb)) :=
  PE.mono (pe_cmpR ho ha hb hm) fun _ _ _ h => op_lift hf h
theorem bl_lift {f : S → ER Vl} {Q : Bool → Hp → Prop} (h : tT K xi W (blT f) σ H Q) : tE K xi W f σ H fun x H' => ∃ k, x = .bl k ∧ Q k H' := by
  obtain ⟨G, s, R, h⟩ := h
  refine ⟨G, s, R, Po.bind h backs_B fun va s1 _ x G1 H1 t1 R1 ra h1 => ?_⟩
  split at h1
  · rename_i k _
    have ra : Rp K G1 x (.bool k) := ra
    cases ra
    exact ⟨k, rfl, h1 k G1 H1 .refl R1 rfl⟩
  · exact h1.elim
theorem rt_cmp {op : CmpOp} {r : R2} {f : D → D → Option Vl} (ho : OpR X (compareOp op) r) (hf : OpF K r f) (ha : PE X a (tE K xi W fa)) (hb : PE X b (tE K xi W fb)) (hm : behindInMarks op b = false) : PT X (.Compare a [op] [b] pos) (tT K xi W (blT (opE f fa fb))) :=
  PT.mono (pt_cmpR ho ha hb hm) fun _ _ _ h => op_lift hf (bl_lift h)
theorem ch_lift {r r' : R2} {f g : D → D → Option Vl} (hf : OpF K r f) (hg : OpF K r' g) {Q : VK} (h : tE K xi W (chE f g fa fb fc) σ H Q) : tChain r r' (tE K xi W fa) (tE K xi W fb) (tE K xi W fc) σ H Q := by
  obtain ⟨G, s, R, h⟩ := h
  refine ⟨G, s, R, Po.bind h backs_V fun va s1 _ x G1 H1 t1 R1 ra h1 => ⟨G1, s1, R1, Po.bind h1 backs_V fun vb s2 _ y G2 H2 t2 R2 rb h2 => bi2_of hf R2 (ra.step R1 t2) rb (Po.bind h2 backs_V fun vz s3 _ z G3 H3 t3 R3 rz h3 => ?_)⟩⟩
  unfold ifB at h3
  split at h3
  · rename_i c _
    have rz : Rp K G3 z (.bool c) := rz
    cases rz
    cases c with
    | false => exact ⟨false, rfl, h3 _ G3 H3 .refl R3 (.bl false)⟩
    | true => exact ⟨true, rfl, ⟨G3, s3, R3, Po.bind h3 backs_V fun vc s4 _ u G4 H4 t4 R4 rc h4 => bi2_of hg R4 ((rb.step R2 t3).step R3 t4) rc h4⟩⟩
  · exact h3.elim
theorem re_chain {op op' : CmpOp} {r r' : R2} {f g : D → D → Option Vl} (ho : OpR X (compareOp op) r) (hf : OpF K r f) (ho' : OpR X (compareOp op') r') (hg : OpF K r' g) (ha : PE X a (tE K xi W fa)) (hb : PE X b (tE K xi W fb)) (hc : PE X c (tE K xi W fc))
    (hm : lastMarks [op, op'] [b, c] = false := by with_unfolding_all rfl) : PE X (.Compare a [op, op'] [b, c] pos) (tE K xi W (chE f g fa fb fc)) :=
  PE.mono (pe_chain ho ho' ha hb hc hm) fun _ _ _ h => ch_lift hf hg h
theorem RpAll.emp {vs : List V} {ds : List D} (h : RpAll K H vs ds) : ds.isEmpty = vs.isEmpty := by
  cases h with
  | nil => rfl
  | cons a b => rfl
theorem tru_dat {x : D} {v : V} (g : Same G H) (r : RdR K G H v x) : TruV K v H (truD x) := by
  cases r with
  | non => rfl
  | bl b => rfl
  | int i => rfl
  | str h => exact ⟨h, rfl⟩
  | lst h a => exact .inl ⟨_, .inl (.inl h), by rw [← a.emp]; rfl⟩
  | tup h a => exact .inr (.inl ⟨_, same_t g h, by rw [← a.emp]; rfl⟩)
theorem tru_ob {p : Addr} {b : Ob} {k : Bool} (h : ObR K G H p b) (e : (match b with | .L ds => some (!ds.isEmpty) | .K kvs => some (!kvs.isEmpty) | .T _ => none | .N _ => none : Option Bool) = some k) : TruV K (.ref p) H k := by
  cases b with
  | L ds =>
    cases e
    obtain ⟨vs, h1, h2⟩ := h
    exact .inl ⟨vs, .inl (Rd.of h1), by rw [h2.emp]⟩
  | K kvs =>
    cases e
    obtain ⟨us, h1, h2, h3⟩ := h
    refine .inr (.inr ⟨us, h1, ?_⟩)
    cases us <;> cases kvs <;> first | rfl | cases h2
  | T kvs => cases e
  | N kvs => cases e
theorem tru_ok1 {H0 : Hp} {σ0 : Ss} {s0 : S} {v : V} {vl : Vl} {k : Bool} (R : Rep K xi G H σ s) (h : VR K xi H0 σ0 s0 G H σ s v vl) (e : tru s vl = some k) : TruV K v H k := by
  cases vl with
  | d x =>
    cases e
    exact tru_dat R.gh (RdR.of h R.gh)
  | o f b =>
    obtain ⟨_, p, rfl, _, _, h3, _⟩ := h
    exact tru_ob h3 (by cases b <;> exact e)
  | r i =>
    have h : σ[i]? = some (some v) := h
    unfold tru at e
    simp only at e
    split at e
    · rename_i x q
      cases e
      obtain ⟨w, e1, h1⟩ := R.sl i _ q
      rw [h] at e1
      cases e1
      exact tru_dat R.gh (RdR.of h1 R.gh)
    · rename_i f ds q
      cases e
      obtain ⟨w, e1, h1⟩ := R.sl i _ q
      rw [h] at e1
      cases e1
      obtain ⟨p, rfl, _, h3⟩ := h1
      exact tru_ob h3 rfl
    · rename_i f ds q
      cases e
      obtain ⟨w, e1, h1⟩ := R.sl i _ q
      rw [h] at e1
      cases e1
      obtain ⟨p, rfl, _, h3⟩ := h1
      exact tru_ob h3 rfl
    · cases e
  | x e1 => cases e
  | s ns => cases e
  | z zp => cases e
theorem tru1_of {Z : Bool → Hp → Prop} {rel : Rl3 Bool Bool} {x : V} {va : Vl} {H0 : Hp} {σ0 : Ss} {s0 : S} (R : Rep K xi G H σ s) (ra : VR K xi H0 σ0 s0 G H σ s x va) (h : Po K xi W rB G H σ s (tru1 s va) Z) : ∃ k, TruV K x H k ∧ Z k H := by
  unfold tru1 at h
  split at h
  · rename_i k e
    exact ⟨k, tru_ok1 R ra e, h k G H .refl R rfl⟩
  · exact h.elim
theorem rt_tru (hK : X.K = K := by rfl) (ha : PE X e (tE K xi W fa)) (he : ∀ whole, isTrue e X.env whole = (do let v ← whole; standAt e.pos; holding [v] (truthy v)) := by intro _; rfl) : PT X e (tT K xi W (truT fa)) := by
  subst hK
  refine PT.mono (pt_truth ha he) fun σ H Q h => ?_
  obtain ⟨G, s, R, h⟩ := h
  exact ⟨G, s, R, Po.bind h backs_B fun va s1 _ x G1 H1 t1 R1 ra h1 => tru1_of (rel := rB) R1 ra h1⟩
theorem rt_not {f : S → ER Bool} (ha : PT X a (tT K xi W f)) : PT X (.UnaryOp .Not a pos) (tT K xi W (notT f)) := by
  refine PT.mono (pt_not ha) fun σ H Q h => ?_
  obtain ⟨G, s, R, h⟩ := h
  exact ⟨G, s, R, Po.bind h backs_B fun b s1 _ k G1 H1 t1 R1 e h1 => by
    have e : k = b := e
    subst e
    exact h1 _ G1 H1 .refl R1 rfl⟩
theorem and_lift {f g : S → ER Bool} {Q : Bool → Hp → Prop} (h : tT K xi W (andT f g) σ H Q) : tAnd (tT K xi W f) (tT K xi W g) σ H Q := by
  obtain ⟨G, s, R, h⟩ := h
  refine ⟨G, s, R, Po.bind h backs_B fun b s1 _ k G1 H1 t1 R1 e h1 => ?_⟩
  have e : k = b := e
  subst e
  cases k with
  | true => exact ⟨G1, s1, R1, h1⟩
  | false => exact h1 _ G1 H1 .refl R1 rfl
theorem or_lift {f g : S → ER Bool} {Q : Bool → Hp → Prop} (h : tT K xi W (orT f g) σ H Q) : tOr (tT K xi W f) (tT K xi W g) σ H Q := by
  obtain ⟨G, s, R, h⟩ := h
  refine ⟨G, s, R, Po.bind h backs_B fun b s1 _ k G1 H1 t1 R1 e h1 => ?_⟩
  have e : k = b := e
  subst e
  cases k with
  | true => exact h1 _ G1 H1 .refl R1 rfl
  | false => exact ⟨G1, s1, R1, h1⟩
theorem rw_and1 {f : S → ER Bool} (ha : PT X a (tT K xi W f)) : PW X (.BoolOp .And [a] pos) (tT K xi W f) := pw_and1 ha
theorem rw_or1 {f : S → ER Bool} (ha : PT X a (tT K xi W f)) : PW X (.BoolOp .Or [a] pos) (tT K xi W f) := pw_or1 ha
theorem rw_and {f g : S → ER Bool} (ha : PT X a (tT K xi W f)) (hb : PW X (.BoolOp .And (b :: rest) pos) (tT K xi W g)) : PW X (.BoolOp .And (a :: b :: rest) pos) (tT K xi W (andT f g)) := PW.mono (pw_and ha hb) fun _ _ _ h => and_lift h
theorem rw_or {f g : S → ER Bool} (ha : PT X a (tT K xi W f)) (hb : PW X (.BoolOp .Or (b :: rest) pos) (tT K xi W g)) : PW X (.BoolOp .Or (a :: b :: rest) pos) (tT K xi W (orT f g)) := PW.mono (pw_or ha hb) fun _ _ _ h => or_lift h
theorem re_one {op : BoolOp} {t : TE} (h : PE X a t) : PE X (.BoolOp op [a] pos) t := pe_one h
theorem re_and (hK : X.K = K := by rfl) (ha : PE X a (tE K xi W fa)) (hb : PE X (.BoolOp .And (b :: rest) pos) (tE K xi W fb)) : PE X (.BoolOp .And (a :: b :: rest) pos) (tE K xi W (andE fa fb)) := by
  subst hK
  refine PE.mono (pe_andT ha hb) fun σ H Q h => ?_
  obtain ⟨G, s, R, h⟩ := h
  refine ⟨G, s, R, Po.bindU .refl h fun va s1 _ x G1 H1 t1 R1 ra h1 => ?_⟩
  unfold tru1 at h1
  split at h1
  · rename_i k e
    refine ⟨k, tru_ok1 R1 ra e, ?_⟩
    cases k with
    | true => exact ⟨G1, s1, R1, Po.shift t1 backs_V h1⟩
    | false => exact h1 x G1 H1 t1 R1 ra
  · exact h1.elim
end
def nilA : S → ER (List Vl) := fun s => .ok [] s
def consA (fa : S → ER Vl) (fr : S → ER (List Vl)) : S → ER (List Vl) := fun s => (fa s).bind fun a s1 => (fr s1).bind fun r s2 => .ok (a :: r) s2
section
variable {X : Cx} {K : PySem.W.Frag} [Wd] {xi : XI} {W : WX} {G H G' H' G1 H1 : Hp} {σ σ' σ1 : Ss} {s s' s1 : S} {e a b c : Expr} {es : List Expr} {fa fb fc : S → ER Vl} {fr : S → ER (List Vl)} {p pos : Pos}
theorem ra_nil : PA X [] (tA K xi W nilA) := PA.mono pa_nil fun σ H Q ⟨G, s, R, h⟩ => h [] G H .refl R ⟨.nil, fun i j f g b c p h => by simp at h⟩
theorem VRs.ref_at {H0 : Hp} {σ0 : Ss} {s0 : S} : ∀ {vs : List V} {vls : List Vl}, VRs K xi H0 σ0 s0 G H σ s vs vls → ∀ {i : Nat} {f : Bool} {b : Ob} {p : Addr}, vls[i]? = some (.o f b) → vs[i]? = some (.ref p) → H0 p = none ∨ Own σ0 s0 true p
  | _, _, .nil, i, _, _, _, h, _ => by simp at h
  | _, _, .cons a r, 0, f, b, p, h, e => by
    simp at h e
    subst h e
    obtain ⟨_, q, e, _, h2, _⟩ := a
    cases e
    exact h2
  | _, _, .cons a r, i + 1, f, b, p, h, e => VRs.ref_at r (i := i) (by simpa using h) (by simpa using e)
theorem ra_cons (ha : PE X e (tE K xi W fa)) (hr : PA X es (tA K xi W fr)) (hs : starEach (e :: es) X.env = (false, eval e X.env) :: starEach es X.env := by rfl) : PA X (e :: es) (tA K xi W (consA fa fr)) := by
  refine PA.mono (pa_cons ha hr hs) fun σ H Q h => ?_
  obtain ⟨G, s, R, h⟩ := h
  refine ⟨G, s, R, Po.bindU .refl h fun va s1 _ x G1 H1 t1 R1 ra h1 => ⟨G1, s1, R1, Po.bindU t1 h1 fun vr s2 _ ys G2 H2 t2 R2 rb h2 => ?_⟩⟩
  refine h2 (x :: ys) G2 H2 (t1.trans t2) R2 ?_
  have first : ∀ {f : Bool} {b : Ob} {p : Addr}, va = .o f b → x = .ref p → H1 p ≠ none ∧ ∀ g, ¬ Own σ s1 g p := fun {f b p} e1 e2 => by
    subst e1 e2
    obtain ⟨_, q, e, _, _, h3, h4⟩ := ra
    cases e
    exact ⟨h3.here, h4⟩
  have other : ∀ {j : Nat} {g f : Bool} {c b : Ob} {p : Addr}, vr[j]? = some (.o g c) → ys[j]? = some (.ref p) → va = .o f b → x = .ref p → False := fun {j g f c b p} e1 e2 e3 e4 => by
    obtain ⟨n1, n2⟩ := first e3 e4
    rcases rb.all.ref_at e1 e2 with z | z
    · exact n1 z
    · exact n2 true z
  refine ⟨.cons (ra.step R1 t2) (rb.all.back t1), fun i j f g b c p h1 h2 h3 h4 => ?_⟩
  cases i with
  | zero =>
    cases j with
    | zero => rfl
    | succ j => exact (other (by simpa using h2) (by simpa using h4) (by simpa using h1) (by simpa using h3)).elim
  | succ i =>
    cases j with
    | zero => exact (other (by simpa using h1) (by simpa using h3) (by simpa using h2) (by simpa using h4)).elim
    | succ j => rw [rb.ap i j f g b c p (by simpa using h1) (by simpa using h2) (by simpa using h3) (by simpa using h4)]
end
end M
set_option Elab.async false
set_option linter.all false
set_option maxRecDepth 100000
set_option maxHeartbeats 4000000
namespace M
open PySem PySem.Spec PyProof.Rows L2 Sv
variable [Wd]
theorem opr_or {X : Cx} {f : Value → Value → Sem Value} {r r' : R2} (h : OpR X f r) (h' : OpR X f r') : OpR X f (fun x y H Q => r x y H Q ∨ r' x y H Q) := fun pins s σ H x y v u Q I rx ry q =>
  q.elim (h pins s σ H x y v u Q I rx ry) (h' pins s σ H x y v u Q I rx ry)
def addD : D → D → Option Vl
  | .int i, .int j => some (.d (.int (i + j)))
  | .str a, .str b => if a.length + b.length ≤ 16777216 then some (.d (.str (a ++ b))) else none
  | .list a, .list b => if a.length + b.length ≤ 16777216 then some (.o true (.L (a ++ b))) else none
  | .tuple a, .tuple b => if a.length + b.length ≤ 16777216 then some (.d (.tuple (a ++ b))) else none
  | _, _ => none
def rAddU (K : PySem.W.Frag) : R2 := fun x y H Q => ((rI0 fun i j => .int (i + j)) x y H Q ∨ (∃ i j, x = .str i ∧ y = .str j ∧ i.length + j.length ≤ sizeLine ∧ Q (.str (i ++ j)) H)) ∨ (rCat x y H Q ∨ rCatA K x y H Q)
theorem op_addU {X : Cx} {K : PySem.W.Frag} (hK : X.K = K := by rfl) : OpR X (binaryOp .Add) (rAddU K) := by
  subst hK
  exact opr_or (opr_or op_add op_add_str) (opr_or op_cat op_catA)
section
variable {K : PySem.W.Frag}
theorem of_add : OpF K (rAddU K) addD := by
  intro G H v w x y z Q g rx ry e h
  cases rx with
  | int i =>
    cases ry with
    | int j => cases e; exact .inl (.inl ⟨i, j, rfl, rfl, h _ _ (.same (.int _))⟩)
    | _ => cases e
  | @str a ha =>
    cases ry with
    | @str b hb =>
      have e : (if a.length + b.length ≤ 16777216 then some (Vl.d (.str (a ++ b))) else none) = some z := e
      by_cases c : a.length + b.length ≤ 16777216
      · rw [if_pos c] at e
        cases e
        have c2 : a.length + b.length ≤ sizeLine := by rw [sizeLine_eq]; exact c
        refine .inl (.inr ⟨a, b, rfl, rfl, c2, h _ _ (.same (.str ?_))⟩)
        have : (a ++ b).length = a.length + b.length := by show (a.cps ++ b.cps).size = _; rw [Array.size_append]; rfl
        omega
      · rw [if_neg c] at e; cases e
    | _ => cases e
  | @lst p xs ds h1 a1 =>
    cases ry with
    | @lst q ys es h2 a2 =>
      have e : (if ds.length + es.length ≤ 16777216 then some (Vl.o true (.L (ds ++ es))) else none) = some z := e
      by_cases c : ds.length + es.length ≤ 16777216
      · rw [if_pos c] at e
        cases e
        have l1 := a1.len
        have l2 := a2.len
        exact .inr (.inl ⟨p, q, xs, ys, rfl, rfl, h1, h2, by rw [sizeLine_eq]; omega, fun r hr => h _ _ (.lst hr (a1.app a2))⟩)
      · rw [if_neg c] at e; cases e
    | _ => cases e
  | @tup p xs ds h1 a1 =>
    cases ry with
    | @tup q ys es h2 a2 =>
      have e : (if ds.length + es.length ≤ 16777216 then some (Vl.d (.tuple (ds ++ es))) else none) = some z := e
      by_cases c : ds.length + es.length ≤ 16777216
      · rw [if_pos c] at e
        cases e
        have l1 := a1.len
        have l2 := a2.len
        refine .inr (.inr ⟨p, q, xs, ys, rfl, rfl, same_t g h1, same_t g h2, by rw [sizeLine_eq]; omega, fun e0 => ?_, fun _ e0 => ?_, fun _ _ r hr => h _ _ (.tup hr (a1.app a2))⟩)
        · subst e0
          cases a1
          exact h _ _ (.same (.tup h2 a2))
        · subst e0
          cases a2
          rw [List.append_nil] at h
          exact h _ _ (.same (.tup h1 a1))
      · rw [if_neg c] at e; cases e
    | _ => cases e
  | _ => cases e
def intD (f : Int → Int → Option Int) : D → D → Option Vl
  | .int i, .int j => (f i j).map fun k => .d (.int k)
  | _, _ => none
theorem of_int {r : R2} {f : Int → Int → Option Int} (hr : ∀ (i j k : Int) (H : Hp) (Q : VK), f i j = some k → Q (.int k) H → r (.int i) (.int j) H Q) : OpF K r (intD f) := by
  intro G H v w x y z Q g rx ry e h
  cases rx with
  | int i =>
    cases ry with
    | int j =>
      have e : ((f i j).map fun k => Vl.d (.int k)) = some z := e
      cases q : f i j with
      | none => rw [q] at e; cases e
      | some k =>
        rw [q] at e
        cases e
        exact hr i j k H Q q (h _ _ (.same (.int k)))
    | _ => cases e
  | _ => cases e
def subI (i j : Int) : Option Int := some (i - j)
def modI (i j : Int) : Option Int := if 0 < j then some (i % j) else none
def divI (i j : Int) : Option Int := if 0 < j ∧ j < 1073741824 then some (i / j) else none
def bits64 (i : Int) : Bool := decide (i.natAbs < 18446744073709551616)
theorem bits64_ok {i : Int} (h : bits64 i = true) : i.natAbs < 18446744073709551616 := of_decide_eq_true h
theorem of_sub : OpF K (rI0 fun i j => .int (i - j)) (intD subI) := of_int fun i j k H Q e q => by cases e; exact ⟨i, j, rfl, rfl, q⟩
theorem of_mod : OpF K (rI (fun _ j => 0 < j) fun i j => .int (i % j)) (intD modI) := of_int fun i j k H Q e q => by
  unfold modI at e
  split at e
  · cases e; exact ⟨i, j, rfl, rfl, by assumption, q⟩
  · cases e
theorem of_div : OpF K (rI CDiv fun i j => .int (i / j)) (intD divI) := of_int fun i j k H Q e q => by
  unfold divI at e
  split at e
  · cases e; exact ⟨i, j, rfl, rfl, by assumption, q⟩
  · cases e
def negD : D → Option Vl
  | .int i => some (.d (.int (-i)))
  | _ => none
theorem uf_neg : UnF K (rU fun i => .int (-i)) negD := by
  intro G H v x z Q g rx e h
  cases rx with
  | int i => cases e; exact ⟨i, rfl, h _ _ (.same (.int _))⟩
  | _ => cases e
def rRepB (K : PySem.W.Frag) : R2 := fun x y H Q => ∃ p k vs, x = .ref p ∧ y = .int k ∧ SqT K H p vs ∧ vs ≠ [] ∧ 2 ≤ k ∧ vs.length * k.toNat ≤ 16777216 ∧ ∀ q, H q = none → Q (.ref q) (upd H q (.tup (List.replicate k.toNat vs).flatten))
theorem rep_sz {α : Type} (xs : List α) (n : Nat) (h : xs.length * n ≤ 16777216) : (List.replicate n xs).flatten.length ≤ sizeLine := by
  rw [List.length_flatten, List.map_replicate, List.sum_replicate_nat, sizeLine_eq, Nat.mul_comm]
  exact h
theorem op_repB {X : Cx} : OpR X (binaryOp .Mult) (rRepB X.K) := by
  rintro pins s σ H x y v u Q I rx ry ⟨p, k, vs, rfl, rfl, sq, ne, k2, sz, q⟩
  cases rx
  obtain ⟨t, rfl⟩ := ry
  obtain ⟨ws, rd, ⟨⟨cls, dd, data, sl⟩, ho, hc, n, hd⟩, _⟩ := I.tuple sq
  simp only at hc hd
  subst hc hd
  have len : ws.length = vs.length := rd.length.symm
  have pos : 1 ≤ vs.length := List.length_pos_iff.mpr ne
  have kk : k.toNat ≤ 16777216 := Nat.le_trans (by have := Nat.mul_le_mul_right k.toNat pos; rwa [Nat.one_mul] at this) sz
  have emp : ws.toArray.isEmpty = false := by
    cases ws with
    | nil => rw [← len] at pos; exact absurd pos (by decide)
    | cons _ _ => rfl
  have prod : ((ws.toArray.size : Nat) : Int) * k ≤ 16777216 := by
    rw [List.size_toArray, len, show k = ((k.toNat : Nat) : Int) by omega, ← Int.natCast_mul]
    exact Int.ofNat_le.mpr sz
  have sm := rep_sz ws k.toNat (by rw [len]; exact sz)
  have tup := tuple_mulW p ws.toArray n dd sl k t (by rw [decide_eq_false (by omega), decide_eq_false (by omega)]; rfl) (by rw [emp, Bool.false_or]; exact beq_eq_false_iff_ne.mpr (by omega))
    (by rw [emp, Bool.or_false]; exact decide_eq_false (by omega)) (by omega) (by unfold Builtin.Tuple.tupleTooMany; rw [sizeLine_eq]; exact decide_eq_false (by omega)) (by rw [size_rep, List.size_toArray]; exact sm)
  refine wpAny_binaryOp_repeat_ref (T := "tuple") (U := "int") (by decide) ⟨_, ho, rfl⟩ (fun s' => typeIs_int s' k t) noFill_tuple_mul F.fills_int_mul F.slot_int_rmul repeat_tuple F.slot_int_index.lookup ?_
  refine call_meets F.slot_int_rmul (typeIs_int s k t) F.entry_int_rmul (F.args_int_rmul_2 _ _) (int_rmul_tuple k t p ws.toArray n dd sl) ⟨ho, rfl, ⟨_, ho, rfl⟩, ?_⟩
  refine call_meets F.slot_tuple_mul ⟨_, ho, rfl⟩ F.entry_tuple_mul (F.args_tuple_mul_2 _ _) tup ⟨ho, ?_⟩
  rw [size_rep]
  exact ⟨.ref s.heap.objs.size, _, I.laid (t' := s.toks) (o := .tup (List.replicate k.toNat vs).flatten) (fun b ob e => Heap.get?_push_of_some _ e) (Nat.le_refl _) ⟨rep_sz vs k.toNat sz, _, rd.rep k.toNat, IsTup.new _ _⟩, rfl, q _ (I.hok.fresh (Nat.le_refl _))⟩
def mulD : D → D → Option Vl
  | .int i, .int j => if (bits64 i || bits64 j) = true then some (.d (.int (i * j))) else none
  | .str z, .int n => if 0 ≤ n ∧ n ≤ 1000 ∧ z.length ≤ 1000 then some (.d (.str (repS z n.toNat))) else none
  | .list xs, .int k => if k.natAbs < 1073741824 ∧ xs.length * k.toNat ≤ 16777216 then some (.o true (.L (List.replicate k.toNat xs).flatten)) else none
  | .tuple xs, .int k => if xs ≠ [] ∧ 2 ≤ k ∧ xs.length * k.toNat ≤ 16777216 then some (.d (.tuple (List.replicate k.toNat xs).flatten)) else none
  | _, _ => none
def rMulU (K : PySem.W.Frag) : R2 := fun x y H Q => ((rI CMul fun i j => .int (i * j)) x y H Q ∨ (∃ (z : Str) (n : Int), x = .str z ∧ y = .int n ∧ 0 ≤ n ∧ n ≤ 1000 ∧ z.length ≤ 1000 ∧ Q (.str (repS z n.toNat)) H)) ∨ (rRep x y H Q ∨ rRepB K x y H Q)
theorem op_mulU {X : Cx} {K : PySem.W.Frag} (hK : X.K = K := by rfl) : OpR X (binaryOp .Mult) (rMulU K) := by
  subst hK
  exact opr_or (opr_or op_mul op_mul_str) (opr_or op_rep op_repB)
theorem RpAll.rep {H : Hp} {vs : List V} {ds : List D} (h : RpAll K H vs ds) : ∀ n, RpAll K H (List.replicate n vs).flatten (List.replicate n ds).flatten
  | 0 => .nil
  | n + 1 => by
    rw [List.replicate_succ, List.replicate_succ, List.flatten_cons, List.flatten_cons]
    exact h.app (RpAll.rep h n)
theorem of_mul : OpF K (rMulU K) mulD := by
  intro G H v w x y z Q g rx ry e h
  cases ry with
  | int j =>
    cases rx with
    | int i =>
      have e : (if (bits64 i || bits64 j) = true then some (Vl.d (.int (i * j))) else none) = some z := e
      split at e
      · rename_i c
        cases e
        refine .inl (.inl ⟨i, j, rfl, rfl, ?_, h _ _ (.same (.int _))⟩)
        rw [Bool.or_eq_true] at c
        rcases c with c | c
        · have := bits64_ok c
          exact .inl (by omega)
        · have := bits64_ok c
          exact .inr (by omega)
      · cases e
    | @str a ha =>
      have e : (if 0 ≤ j ∧ j ≤ 1000 ∧ a.length ≤ 1000 then some (Vl.d (.str (repS a j.toNat))) else none) = some z := e
      split at e
      · rename_i c
        cases e
        refine .inl (.inr ⟨a, j, rfl, rfl, c.1, c.2.1, c.2.2, h _ _ (.same (.str ?_))⟩)
        rw [repS_len, sizeLine_eq]
        have : j.toNat * a.length ≤ 1000 * 1000 := Nat.mul_le_mul (by omega) c.2.2
        omega
      · cases e
    | @lst p xs ds h1 a1 =>
      have e : (if j.natAbs < 1073741824 ∧ ds.length * j.toNat ≤ 16777216 then some (Vl.o true (.L (List.replicate j.toNat ds).flatten)) else none) = some z := e
      split at e
      · rename_i c
        cases e
        exact .inr (.inl ⟨p, j, xs, rfl, rfl, h1, by have := c.1; omega, by have := c.1; omega, by rw [a1.len, sizeLine_eq]; exact c.2, fun q hq => h _ _ (.lst hq (a1.rep _))⟩)
      · cases e
    | @tup p xs ds h1 a1 =>
      have e : (if ds ≠ [] ∧ 2 ≤ j ∧ ds.length * j.toNat ≤ 16777216 then some (Vl.d (.tuple (List.replicate j.toNat ds).flatten)) else none) = some z := e
      split at e
      · rename_i c
        cases e
        refine .inr (.inr ⟨p, j, xs, rfl, rfl, same_t g h1, fun e0 => ?_, c.2.1, by rw [a1.len]; exact c.2.2, fun q hq => h _ _ (.tup hq (a1.rep _))⟩)
        subst e0
        cases a1
        exact c.1 rfl
      · cases e
    | _ => cases e
  | _ => cases rx <;> cases e
def ltD : D → D → Option Vl
  | .int i, .int j => some (.d (.bool (decide (i < j))))
  | .str a, .str b => some (.d (.bool (decide (a.cps.toList < b.cps.toList))))
  | _, _ => none
def cmpD (f : Int → Int → Bool) : D → D → Option Vl
  | .int i, .int j => some (.d (.bool (f i j)))
  | _, _ => none
def leD := cmpD fun i j => decide (i ≤ j)
def gtD := cmpD fun i j => decide (j < i)
def geD := cmpD fun i j => decide (j ≤ i)
theorem of_cmp {r : R2} {f : Int → Int → Bool} (hr : ∀ (i j : Int) (H : Hp) (Q : VK), Q (.bl (f i j)) H → r (.int i) (.int j) H Q) : OpF K r (cmpD f) := by
  intro G H v w x y z Q g rx ry e h
  cases rx with
  | int i =>
    cases ry with
    | int j => cases e; exact hr i j H Q (h _ _ (.same (.bl _)))
    | _ => cases e
  | _ => cases e
theorem of_le : OpF K (rI0 fun i j => .bl (decide (i ≤ j))) leD := of_cmp fun i j H Q q => ⟨i, j, rfl, rfl, q⟩
theorem of_gt : OpF K (rI0 fun i j => .bl (decide (j < i))) gtD := of_cmp fun i j H Q q => ⟨i, j, rfl, rfl, q⟩
theorem of_ge : OpF K (rI0 fun i j => .bl (decide (j ≤ i))) geD := of_cmp fun i j H Q q => ⟨i, j, rfl, rfl, q⟩
def rLtU : R2 := fun x y H Q => (rI0 fun i j => .bl (decide (i < j))) x y H Q ∨ (∃ i j, x = .str i ∧ y = .str j ∧ Q (.bl (decide (i.cps.toList < j.cps.toList))) H)
theorem op_ltU {X : Cx} : OpR X (compareOp .Lt) rLtU := opr_or op_lt op_lt_str
theorem of_lt : OpF K rLtU ltD := by
  intro G H v w x y z Q g rx ry e h
  cases rx with
  | int i =>
    cases ry with
    | int j => cases e; exact .inl ⟨i, j, rfl, rfl, h _ _ (.same (.bl _))⟩
    | _ => cases e
  | @str a ha =>
    cases ry with
    | @str b hb => cases e; exact .inr ⟨a, b, rfl, rfl, h _ _ (.same (.bl _))⟩
    | _ => cases e
  | _ => cases e
def okD (x : D) : Bool := decide (x.depth ≤ 40)
def eqD (x y : D) : Option Vl := if okD x || okD y then some (.d (.bool (PyData.eqv x y))) else none
def neD (x y : D) : Option Vl := if okD x || okD y then some (.d (.bool (!PyData.eqv x y))) else none
def rEqU (K : PySem.W.Frag) (neg : Bool) : R2 := fun x y H Q => ∃ d e, Dp K H x d ∧ Dp K H y e ∧ d.plain = true ∧ e.plain = true ∧ min d.depth e.depth ≤ 40 ∧ Q (.bl (if neg then !PyData.eqv d e else PyData.eqv d e)) H
theorem op_eqU {X : Cx} {K : PySem.W.Frag} (hu : X.A.units + 64 < cLine) (hK : X.K = K := by rfl) : OpR X (compareOp .Eq) (rEqU K false) := by
  subst hK
  intro pins s σ H x y v u Q I rx ry h
  obtain ⟨d, e, hd, he, sd, se, hm, q⟩ := h
  obtain ⟨as, r1⟩ := Dp.reads I d x v hd rx
  obtain ⟨bs, r2⟩ := Dp.reads I e y u he ry
  exact SeqAt.eq_plain r1 r2 sd se (by omega) ⟨.bl _, H, I, rfl, q⟩
theorem op_neU {X : Cx} {K : PySem.W.Frag} (hu : X.A.units + 64 < cLine) (hK : X.K = K := by rfl) : OpR X (compareOp .NotEq) (rEqU K true) := by
  subst hK
  intro pins s σ H x y v u Q I rx ry h
  obtain ⟨d, e, hd, he, sd, se, hm, q⟩ := h
  obtain ⟨as, r1⟩ := Dp.reads I d x v hd rx
  obtain ⟨bs, r2⟩ := Dp.reads I e y u he ry
  exact SeqAt.ne_plain r1 r2 sd se (by omega) ⟨.bl _, H, I, rfl, q⟩
theorem ok_min {x y : D} (h : (okD x || okD y) = true) : min x.depth y.depth ≤ 40 := by
  unfold okD at h
  simp only [Bool.or_eq_true, decide_eq_true_eq] at h
  omega
theorem of_eq : OpF K (rEqU K false) eqD := by
  intro G H v w x y z Q g rx ry e h
  unfold eqD at e
  split at e
  · rename_i c
    cases e
    have h1 := rx.dp g
    have h2 := ry.dp g
    exact ⟨x, y, h1.dp, h2.dp, h1.pl, h2.pl, ok_min c, h _ _ (.same (.bl _))⟩
  · cases e
theorem of_ne : OpF K (rEqU K true) neD := by
  intro G H v w x y z Q g rx ry e h
  unfold neD at e
  split at e
  · rename_i c
    cases e
    have h1 := rx.dp g
    have h2 := ry.dp g
    exact ⟨x, y, h1.dp, h2.dp, h1.pl, h2.pl, ok_min c, h _ _ (.same (.bl _))⟩
  · cases e
def inD (neg : Bool) : D → D → Option Vl
  | x, .list ds => if okD x then some (.d (.bool (neg ^^ ds.any fun y => PyData.eqv y x))) else none
  | x, .tuple ds => if okD x then some (.d (.bool (neg ^^ ds.any fun y => PyData.eqv y x))) else none
  | .str a, .str b => some (.d (.bool (neg ^^ !(Builtin.Str.occurrences b a 0 b.length 1).isEmpty)))
  | _, _ => none
def rInU (K : PySem.W.Frag) (neg : Bool) : R2 := fun x y H Q => (∃ d ds, Dp K H x d ∧ (Dp K H y (.list ds) ∨ Dp K H y (.tuple ds)) ∧ d.plain = true ∧ PyData.plainAll ds = true ∧ d.depth ≤ 40 ∧ Q (.bl (neg ^^ ds.any fun z => PyData.eqv z d)) H) ∨
  ∃ i j, x = .str i ∧ y = .str j ∧ Q (.bl (neg ^^ !(Builtin.Str.occurrences j i 0 j.length 1).isEmpty)) H
theorem op_inU {X : Cx} {K : PySem.W.Frag} (hu : X.A.units + 64 < cLine) (hK : X.K = K := by rfl) : OpR X (compareOp .In) (rInU K false) := by
  subst hK
  intro pins s σ H x y v u Q I rx ry h
  rcases h with ⟨d, ds, hd, he, sd, se, hm, q⟩ | ⟨i, j, rfl, rfl, q⟩
  · obtain ⟨as, r1⟩ := Dp.reads I d x v hd rx
    rw [Bool.false_xor] at q
    rcases he with he | he
    · obtain ⟨bs, r2⟩ := Dp.reads I _ y u he ry
      exact SeqAt.in_list_data r2 r1 se sd (by omega) ⟨.bl _, H, I, rfl, q⟩
    · obtain ⟨bs, r2⟩ := Dp.reads I _ y u he ry
      exact SeqAt.in_tuple_data r2 r1 se sd (by omega) ⟨.bl _, H, I, rfl, q⟩
  · rw [Bool.false_xor] at q
    exact op_in_str pins s σ H _ _ v u Q I rx ry ⟨i, j, rfl, rfl, q⟩
theorem op_notInU {X : Cx} {K : PySem.W.Frag} (hu : X.A.units + 64 < cLine) (hK : X.K = K := by rfl) : OpR X (compareOp .NotIn) (rInU K true) := by
  subst hK
  intro pins s σ H x y v u Q I rx ry h
  rcases h with ⟨d, ds, hd, he, sd, se, hm, q⟩ | ⟨i, j, rfl, rfl, q⟩
  · obtain ⟨as, r1⟩ := Dp.reads I d x v hd rx
    rw [Bool.true_xor] at q
    rcases he with he | he
    · obtain ⟨bs, r2⟩ := Dp.reads I _ y u he ry
      exact SeqAt.notIn_list_data r2 r1 se sd (by omega) ⟨.bl _, H, I, rfl, q⟩
    · obtain ⟨bs, r2⟩ := Dp.reads I _ y u he ry
      exact SeqAt.notIn_tuple_data r2 r1 se sd (by omega) ⟨.bl _, H, I, rfl, q⟩
  · rw [Bool.true_xor] at q
    exact op_notIn_str pins s σ H _ _ v u Q I rx ry ⟨i, j, rfl, rfl, q⟩
theorem of_in {neg : Bool} : OpF K (rInU K neg) (inD neg) := by
  intro G H v w x y z Q g rx ry e h
  have seq : ∀ ds : List D, (if okD x then some (Vl.d (.bool (neg ^^ ds.any fun y => PyData.eqv y x))) else none) = some z → x.depth ≤ 40 ∧ z = .d (.bool (neg ^^ ds.any fun y => PyData.eqv y x)) := fun ds e => by
    split at e
    · rename_i c
      cases e
      exact ⟨of_decide_eq_true c, rfl⟩
    · cases e
  have hx := rx.dp g
  cases ry with
  | @lst p ys ds h1 a1 =>
    obtain ⟨c, rfl⟩ := seq ds (by cases x <;> exact e)
    exact .inl ⟨x, ds, hx.dp, .inl (.lst (.inl (.inl h1)) (RpAll.same g a1).dp), hx.pl, a1.pl, c, h _ _ (.same (.bl _))⟩
  | @tup p ys ds h1 a1 =>
    obtain ⟨c, rfl⟩ := seq ds (by cases x <;> exact e)
    exact .inl ⟨x, ds, hx.dp, .inr (.tup (same_t g h1) (RpAll.same g a1).dp), hx.pl, a1.pl, c, h _ _ (.same (.bl _))⟩
  | @str b hb =>
    cases rx with
    | @str a ha => cases e; exact .inr ⟨a, b, rfl, rfl, h _ _ (.same (.bl _))⟩
    | _ => cases e
  | _ => cases rx <;> cases e
end
end M
set_option Elab.async false
set_option linter.all false
set_option maxRecDepth 100000
set_option maxHeartbeats 4000000
namespace M
open PySem PySem.Spec PyProof.Rows L2 Sv
variable [Wd]
section
variable {K : PySem.W.Frag}
def isNone : D → Bool
  | .none => true
  | _ => false
def isD (neg : Bool) (x : D) : D → Option Vl
  | .none => some (.d (.bool (neg ^^ isNone x)))
  | .bool b => match x with
    | .bool a => some (.d (.bool (neg ^^ decide (a = b))))
    | _ => none
  | _ => none
def ixD : D → D → Option Vl
  | .list ds, .int i => (atI ds i).map .d
  | .tuple ds, .int i => (atI ds i).map .d
  | .str z, .int i => (atI z.cps.toList i).map fun c => .d (.str (tx [c]))
  | _, _ => none
def rIxU (K : PySem.W.Frag) : R2 := fun x y H Q => rIxL K x y H Q ∨ (rIxT K x y H Q ∨ rIxS x y H Q)
theorem ix_U {X : Cx} {K : PySem.W.Frag} (hK : X.K = K := by rfl) : IxR X (rIxU K) := by
  subst hK
  exact ix_list.or (ix_tup.or ix_str)
theorem atI_all {G : Hp} {vs : List V} {ds : List D} {i : Int} {x : D} (h : RpAll K G vs ds) (e : atI ds i = some x) : ∃ v, atI vs i = some v ∧ Rp K G v x := by
  unfold atI at e ⊢
  rw [h.len]
  cases q : ixN ds.length i with
  | none => rw [q] at e; cases e
  | some j =>
    rw [q] at e
    exact h.at e
theorem of_ix : OpF K (rIxU K) ixD := by
  intro G H v w x y z Q g rx ry e h
  cases ry with
  | int i =>
    cases rx with
    | @lst p xs ds h1 a1 =>
      have e : (atI ds i).map Vl.d = some z := e
      cases q : atI ds i with
      | none => rw [q] at e; cases e
      | some d =>
        rw [q] at e
        cases e
        obtain ⟨v, e1, r1⟩ := atI_all a1 q
        exact .inl ⟨p, xs, i, v, rfl, rfl, .inl (.inl h1), e1, h _ _ (.same r1)⟩
    | @tup p xs ds h1 a1 =>
      have e : (atI ds i).map Vl.d = some z := e
      cases q : atI ds i with
      | none => rw [q] at e; cases e
      | some d =>
        rw [q] at e
        cases e
        obtain ⟨v, e1, r1⟩ := atI_all a1 q
        exact .inr (.inl ⟨p, xs, i, v, rfl, rfl, same_t g h1, e1, h _ _ (.same r1)⟩)
    | @str a ha =>
      have e : ((atI a.cps.toList i).map fun c => Vl.d (.str (tx [c]))) = some z := e
      cases q : atI a.cps.toList i with
      | none => rw [q] at e; cases e
      | some c =>
        rw [q] at e
        cases e
        exact .inr (.inr ⟨a, i, c, rfl, rfl, ha, q, h _ _ (.same (.str (by rw [sizeLine_eq]; exact (by decide : 1 ≤ 16777216))))⟩)
    | _ => cases e
  | _ => cases rx <;> cases e
def cutL {α : Type} (xs : List α) (lo hi : Option Int) : List α := (xs.drop (HT.sIx xs.length 0 lo)).take (HT.sIx xs.length xs.length hi - HT.sIx xs.length 0 lo)
def slD (x : D) (lo hi : Option Int) : Option Vl := match x with
  | .list ds => some (.o true (.L (cutL ds lo hi)))
  | .tuple ds => some (.d (.tuple (cutL ds lo hi)))
  | .str z => some (.d (.str (cutS z lo hi)))
  | _ => none
def rSlU (K : PySem.W.Frag) : V → Option Int → Option Int → Hp → VK → Prop := fun x lo hi H Q => rSlL K x lo hi H Q ∨ (rSlA K x lo hi H Q ∨ rSlS x lo hi H Q)
theorem sl_U {X : Cx} {K : PySem.W.Frag} (hK : X.K = K := by rfl) : SlR X (rSlU K) := by
  subst hK
  exact sl_list.or (sl_tupA.or sl_str)
theorem RpAll.cut {G : Hp} {vs : List V} {ds : List D} (h : RpAll K G vs ds) (lo hi : Option Int) : RpAll K G (cutV vs lo hi) (cutL ds lo hi) := by
  unfold cutV cutL
  rw [h.len]
  exact (h.drop _).take _
theorem of_sl {G H : Hp} {v : V} {x : D} {z : Vl} {lo hi : Option Int} {Q : VK} (g : Same G H) (rx : RdR K G H v x) (e : slD x lo hi = some z) (h : ∀ u H', Ext K G H u H' z → Q u H') : rSlU K v lo hi H Q := by
  cases rx with
  | @lst p xs ds h1 a1 =>
    cases e
    exact .inl ⟨p, xs, rfl, .inl (.inl h1), fun q hq => h _ _ (.lst hq (a1.cut lo hi))⟩
  | @tup p xs ds h1 a1 =>
    cases e
    refine .inr (.inl ⟨p, xs, rfl, same_t g h1, fun e => ?_, fun _ q hq => h _ _ (.tup hq (a1.cut lo hi))⟩)
    have : cutL ds lo hi = ds := by
      have l := a1.len
      unfold cutL
      rw [← l, e.1, e.2, List.drop_zero, Nat.sub_zero, List.take_of_length_le (by omega)]
    rw [this] at h
    exact h _ _ (.same (.tup h1 a1))
  | @str a ha =>
    cases e
    exact .inr (.inr ⟨a, rfl, ha, h _ _ (.same (.str (Nat.le_trans (cutS_length _ _ _) ha)))⟩)
  | _ => cases e
end
def noP : S → ER (Option Int) := fun s => .ok none s
def someP (f : S → ER Vl) : S → ER (Option Int) := fun s => (f s).bind fun a s1 => match rd s1 a with
  | some (.int i) => .ok (some i) s1
  | _ => .no
def sl1 (s : S) (a : Vl) (lo hi : Option Int) : ER Vl := match rd s a with
  | some x => (match slD x lo hi with | some z => .ok z s | none => .no)
  | none => .no
def slE (fa : S → ER Vl) (fl fh : S → ER (Option Int)) : S → ER Vl := fun s => (fa s).bind fun a s1 => (fl s1).bind fun l s2 => (fh s2).bind fun h s3 => sl1 s3 a l h
def rO : Rl3 (Option Int) (Option Int) := fun _ _ _ _ _ _ _ b a => b = a
theorem backs_O : Backs rO := fun _ _ _ _ _ _ _ _ _ _ _ _ _ _ _ h => h
def tOf (K : PySem.W.Frag) (xi : XI) (W : WX) (f : S → ER (Option Int)) : TO := fun σ H Q => ∃ G s, Rep K xi G H σ s ∧ Po K xi W rO G H σ s (f s) Q
def revD : D → Option Vl
  | .str z => some (.d (.str (revS z)))
  | .tuple ds => some (.d (.tuple ds.reverse))
  | .list ds => some (.o true (.L ds.reverse))
  | _ => none
def shr (s : S) : Vl → ER Vl
  | .d x => .ok (.d x) s
  | .o true (.L ds) => .ok (.d (.list ds)) s
  | .r i => match s[i]? with
    | some (some (.d x)) => .ok (.d x) s
    | some (some (.o true (.L ds))) => .ok (.d (.list ds)) (s.set i (some (.d (.list ds))))
    | _ => .no
  | _ => .no
def shE (fa : S → ER Vl) : S → ER Vl := fun s => (fa s).bind fun a s1 => shr s1 a
def dAll : List Vl → Option (List D)
  | [] => some []
  | .d x :: r => (dAll r).map (x :: ·)
  | _ :: _ => none
def tupE (fr : S → ER (List Vl)) : S → ER Vl := fun s => (fr s).bind fun vs s1 => match dAll vs with
  | some ds => if ds.length ≤ 16777216 then .ok (.d (.tuple ds)) s1 else .no
  | none => .no
def lstE (fr : S → ER (List Vl)) : S → ER Vl := fun s => (fr s).bind fun vs s1 => match dAll vs with
  | some ds => if ds.length ≤ 16777216 then .ok (.o true (.L ds)) s1 else .no
  | none => .no
def rdAll (s : S) : List Vl → Option (List D)
  | [] => some []
  | v :: r => match rd s v with
    | some x => (rdAll s r).map (x :: ·)
    | none => none
def ca1 (f : List D → Option Vl) (s : S) (vs : List Vl) : ER Vl := match rdAll s vs with
  | some ds => (match f ds with | some z => .ok z s | none => .no)
  | none => .no
def caE (f : List D → Option Vl) (fr : S → ER (List Vl)) : S → ER Vl := fun s => (fr s).bind fun vs s1 => ca1 f s1 vs
def okTy (ty : D → Bool) (s : S) (a : Vl) : Bool := match rd s a with
  | some x => ty x
  | none => false
def mtE (ty : D → Bool) (f : List D → Option Vl) (fo : S → ER Vl) (fr : S → ER (List Vl)) : S → ER Vl := fun s => (fo s).bind fun a s1 => if okTy ty s1 a = true then (fr s1).bind fun vs s2 => ca1 f s2 (a :: vs) else .no
def isStr : D → Bool
  | .str _ => true
  | _ => false
def isLst : D → Bool
  | .list _ => true
  | _ => false
section
variable {X : Cx} {K : PySem.W.Frag} {xi : XI} {W : WX} {G H G' H' G1 H1 : Hp} {σ σ' σ1 : Ss} {s s' s1 : S} {e a b c : Expr} {es : List Expr} {lo hi : Option Expr} {fa fb fc : S → ER Vl} {fl fh : S → ER (Option Int)} {fr : S → ER (List Vl)} {p p2 pos : Pos}
theorem re_ix (hK : X.K = K := by rfl) (ha : PE X a (tE K xi W fa)) (hb : PE X b (tE K xi W fb)) (hs : PlainIx b := by exact fun _ _ => rfl) : PE X (.Subscript a b pos) (tE K xi W (opE ixD fa fb)) :=
  PE.mono (pe_ix (ix_U hK) ha hb hs) fun _ _ _ h => op_lift of_ix h
theorem ro_none : PO X none (tOf K xi W noP) := ⟨fun pins s σ H Q I ⟨G, st, R, h⟩ => po_none.run pins s σ H Q I (h none G H .refl R rfl)⟩
theorem ro_some (h : PE X e (tE K xi W fa)) : PO X (some e) (tOf K xi W (someP fa)) := ⟨fun pins s σ H Q I ⟨G, st, R, w⟩ => (po_some h).run pins s σ H Q I ⟨G, st, R, Po.bind w backs_O fun va s1 _ x G1 H1 t1 R1 ra h1 => by
  split at h1
  · rename_i i e
    have r := rd_ok R1 ra e
    cases r
    exact ⟨i, rfl, h1 _ G1 H1 .refl R1 rfl⟩
  · exact h1.elim⟩⟩
theorem re_slice (hK : X.K = K := by rfl) (ha : PE X e (tE K xi W fa)) (hl : PO X lo (tOf K xi W fl)) (hh : PO X hi (tOf K xi W fh)) : PE X (.Subscript e (.Slice lo hi none p2) pos) (tE K xi W (slE fa fl fh)) := by
  refine PE.mono (pe_slice (sl_U hK) ha hl hh) fun σ H Q h => ?_
  obtain ⟨G, s, R, h⟩ := h
  refine ⟨G, s, R, Po.bind h backs_V fun va s1 _ x G1 H1 t1 R1 ra h1 => ⟨G1, s1, R1, Po.bind h1 backs_V fun l s2 _ l' G2 H2 t2 R2 rl h2 => ⟨G2, s2, R2, Po.bind h2 backs_V fun u s3 _ u' G3 H3 t3 R3 ru h3 => ?_⟩⟩⟩
  have e1 : l' = l := rl
  have e2 : u' = u := ru
  subst e1 e2
  have ra3 := (ra.step R1 t2).step R2 t3
  unfold sl1 at h3
  split at h3
  · rename_i d ed
    split at h3
    · rename_i z ez
      exact of_sl R3.gh (rd_ok R3 ra3 ed) ez fun u H' ext => ext.fin R3 h3
    · exact h3.elim
  · exact h3.elim
theorem PE.or {t t' : TE} (h : PE X e t) (h' : PE X e t') : PE X e (fun σ H Q => t σ H Q ∨ t' σ H Q) := ⟨fun pins s σ H Q I w => w.elim (h.run pins s σ H Q I) (h'.run pins s σ H Q I)⟩
theorem re_rev (hK : X.K = K := by rfl) {k : Nat} {p1 p2 p3 : Pos} (ha : PE X e (tE K xi W fa)) : PE X (.Subscript e (.Slice none none (some (.UnaryOp .USub (.Constant (.int 1) k p1) p2)) p3) pos) (tE K xi W (unE (fun x => match x with | .list _ => none | x => revD x) fa)) := by
  subst hK
  refine PE.mono (PE.or (pe_rev_str ha) (pe_rev_tup ha)) fun σ H Q h => ?_
  obtain ⟨G, s, R, h⟩ := h
  cases q : fa s with
  | no => rw [show unE _ fa s = ER.no from by unfold unE; rw [q]; rfl] at h; exact h.elim
  | er e s1 =>
    rw [show unE _ fa s = ER.er e s1 from by unfold unE; rw [q]; rfl] at h
    exact .inl ⟨G, s, R, by rw [q]; exact h⟩
  | ok va s1 =>
    have h0 : Po X.K xi W (VR X.K xi) G H σ s (un1 (fun x => match x with | .list _ => none | x => revD x) s1 va) Q := by
      have e : unE (fun x => match x with | .list _ => none | x => revD x) fa s = un1 (fun x => match x with | .list _ => none | x => revD x) s1 va := by unfold unE; rw [q]; rfl
      rw [← e]; exact h
    unfold un1 at h0
    cases ed : rd s1 va with
    | none => rw [ed] at h0; exact h0.elim
    | some d =>
      rw [ed] at h0
      cases d with
      | str z =>
        refine .inl ⟨G, s, R, ?_⟩
        rw [q]
        intro x G1 H1 t1 R1 ra
        have r := rd_ok R1 ra ed
        cases r with
        | str hz => exact ⟨z, rfl, hz, h0 _ G1 H1 t1 R1 (.str (by unfold revS; rw [tx_len, List.length_reverse, Array.length_toList]; exact hz))⟩
      | tuple ds =>
        refine .inr ⟨G, s, R, ?_⟩
        rw [q]
        intro x G1 H1 t1 R1 ra
        have r := rd_ok R1 ra ed
        cases r with
        | @tup a xs _ h1 a1 =>
          refine ⟨a, xs, rfl, same_t R1.gh h1, fun p hp => ?_⟩
          have h2 := Po.shift t1 backs_V h0
          exact Ext.fin (.tup hp a1.rev) R1 h2
      | none => exact h0.elim
      | bool _ => exact h0.elim
      | int _ => exact h0.elim
      | list _ => exact h0.elim
      | dict _ => exact h0.elim
theorem rep_share {pp : Addr} {vs : List V} {ds : List D} {s2 : S} (R : Rep K xi G H σ s) (hp : H pp = some (.lst vs)) (gp : G pp = none) (ha : RpAll K G vs ds) (hl : s2.length = s.length)
    (hs : ∀ (j : Nat) (vl : Vl), s2[j]? = some (some vl) → (s[j]? = some (some vl) ∧ ∀ f b, vl = .o f b → σ[j]? ≠ some (some (.ref pp))) ∨ (vl = .d (.list ds) ∧ σ[j]? = some (some (.ref pp)))) : Rep K xi (upd G pp (.lst vs)) H σ s2 := by
  have gg : Same G (upd G pp (.lst vs)) := Same.new gp
  refine ⟨hl.trans R.len, fun b o q => ?_, fun j vl q => ?_, fun i j f g b c p h1 h2 h3 h4 => ?_⟩
  · by_cases e : b = pp
    · subst e
      rw [upd_same] at q
      rw [hp]
      exact q
    · rw [upd_ne e] at q
      exact R.gh b o q
  · rcases hs j vl q with ⟨h1, h2⟩ | ⟨rfl, h2⟩
    · obtain ⟨v, e, w⟩ := R.sl j vl h1
      refine ⟨v, e, ?_⟩
      cases vl with
      | d x => exact Rp.same gg w
      | o f b =>
        obtain ⟨p, rfl, w1, w2⟩ := w
        refine ⟨p, rfl, ?_, w2.mono gg rfl⟩
        rw [upd_ne (fun e2 => h2 f b rfl (by rw [e, e2]))]
        exact w1
      | r i => exact w
      | x e => exact w
      | s ns =>
        obtain ⟨a, e1, w⟩ := w
        exact ⟨a, e1, same_l gg w⟩
      | z zp => exact ZR.same w gg
    · exact ⟨_, h2, .lst upd_same (RpAll.same gg ha)⟩
  · rcases hs i _ h1 with ⟨h1, _⟩ | ⟨e, _⟩
    · rcases hs j _ h2 with ⟨h2, _⟩ | ⟨e, _⟩
      · exact R.ap i j f g b c p h1 h2 h3 h4
      · cases e
    · cases e
theorem stp_share {pp : Addr} {o : HO} {s2 : S} (t : Stp G H σ s G1 H1 σ s1) (gp : G1 pp = none) (hf : H pp = none ∨ Own σ s true pp) (ho : ∀ f p, Own σ s2 f p → Own σ s1 f p) (hi : ∀ (i : Nat) (b : Ob), s1[i]? = some (some (.o false b)) → s2[i]? = some (some (.o false b))) : Stp G H σ s (upd G1 pp o) H1 σ s2 where
  gg := t.gg.trans (Same.new gp)
  fr := t.fr
  lv := t.lv
  gn := fun b h1 h2 h3 => by
    by_cases e : b = pp
    · subst e
      exact hf.elim (fun z => absurd z h2) id
    · rw [upd_ne e] at h3
      exact t.gn b h1 h2 h3
  ow := fun f p w => t.ow f p (ho f p w)
  io := fun i b h => by
    obtain ⟨e, b', h'⟩ := t.io i b h
    exact ⟨e, b', hi i b' h'⟩
theorem re_sh (ha : PE X e (tE K xi W fa)) : PE X e (tE K xi W (shE fa)) := by
  refine PE.mono ha fun σ H Q h => ?_
  obtain ⟨G, s, R, h⟩ := h
  refine ⟨G, s, R, ?_⟩
  unfold shE at h
  cases q : fa s with
  | no => rw [q] at h; exact h
  | er e s1 => rw [q] at h; exact h
  | ok va s1 =>
    rw [q] at h
    have h : Po K xi W (VR K xi) G H σ s (shr s1 va) Q := h
    intro v G1 H1 t1 R1 ra
    cases va with
    | d x => exact h v G1 H1 t1 R1 ra
    | o f b =>
      obtain ⟨rfl, p, rfl, w1, w2, w3, w4⟩ := ra
      cases b with
      | L ds =>
        obtain ⟨vs, w5, w6⟩ := w3
        refine h (.ref p) (upd G1 p (.lst vs)) H1 (stp_share t1 w1 w2 (fun _ _ z => z) fun _ _ z => z) (rep_share R1 w5 w1 w6 rfl fun j vl q => .inl ⟨q, fun f b e1 e2 => ?_⟩) (.lst upd_same (RpAll.same (Same.new w1) w6))
        subst e1
        exact w4 f ⟨j, b, q, e2⟩
      | K kvs => exact h.elim
      | T kvs => exact h.elim
      | N kvs => exact h.elim
    | r i =>
      have ra : σ[i]? = some (some v) := ra
      unfold shr at h
      simp only at h
      split at h
      · rename_i x e1
        obtain ⟨v', e2, w⟩ := R1.sl i _ e1
        rw [ra] at e2
        cases e2
        exact h v G1 H1 t1 R1 w
      · rename_i ds e1
        obtain ⟨v', e2, w⟩ := R1.sl i _ e1
        rw [ra] at e2
        cases e2
        obtain ⟨p, rfl, w1, vs, w5, w6⟩ := w
        have own : Own σ s1 true p := ⟨i, _, e1, ra⟩
        have hlt : i < s1.length := by
          rcases Nat.lt_or_ge i s1.length with z | z
          · exact z
          · rw [List.getElem?_eq_none z] at e1; cases e1
        have keep : ∀ j, j ≠ i → (s1.set i (some (.d (.list ds))))[j]? = s1[j]? := fun j n => List.getElem?_set_ne (Ne.symm n)
        have at_ : (s1.set i (some (.d (.list ds))))[i]? = some (some (.d (.list ds))) := List.getElem?_set_self hlt
        refine h (.ref p) (upd G1 p (.lst vs)) H1 (stp_share t1 w1 ?_ (fun f q ⟨j, b, z1, z2⟩ => ?_) fun j b z => ?_) (rep_share R1 w5 w1 w6 (List.length_set) fun j vl q => ?_) (.lst upd_same (RpAll.same (Same.new w1) w6))
        · rcases t1.ow true p own with ⟨z, _⟩ | z
          · exact .inl z
          · exact .inr z
        · by_cases n : j = i
          · subst n
            rw [at_] at z1
            cases z1
          · rw [keep j n] at z1
            exact ⟨j, b, z1, z2⟩
        · have n : j ≠ i := fun e => by rw [e, e1] at z; cases z
          rw [keep j n]
          exact z
        · by_cases n : j = i
          · subst n
            rw [at_] at q
            cases q
            exact .inr ⟨rfl, ra⟩
          · rw [keep j n] at q
            refine .inl ⟨q, fun f b e3 e4 => n ?_⟩
            subst e3
            exact R1.ap j i f true b _ p q e1 e4 ra
      · exact h.elim
    | x e => exact h.elim
    | s ns => exact h.elim
    | z zp => exact h.elim
theorem dAll_ok {H0 : Hp} {σ0 : Ss} {s0 : S} : ∀ {vs : List V} {vls : List Vl} {ds : List D}, VRs K xi H0 σ0 s0 G H σ s vs vls → dAll vls = some ds → RpAll K G vs ds
  | _, _, _, .nil, e => by cases e; exact .nil
  | _, _, _, .cons (vl := vl) (vls := vls) a r, e => by
    cases vl with
    | d x =>
      unfold dAll at e
      cases q : dAll vls with
      | none => rw [q] at e; cases e
      | some es =>
        rw [q] at e
        cases e
        exact .cons a (dAll_ok r q)
    | _ => cases e
theorem re_tup {x1} (h : PA X es (tA K xi W fr)) : PE X (.Tuple es x1 pos) (tE K xi W (tupE fr)) := by
  refine PE.mono (pe_tup h) fun σ H Q h => ?_
  obtain ⟨G, s, R, h⟩ := h
  refine ⟨G, s, R, Po.bind h backs_V fun va s1 _ xs G1 H1 t1 R1 ra h1 => ?_⟩
  split at h1
  · rename_i ds e
    have r := dAll_ok ra.all e
    split at h1
    · rename_i c
      refine ⟨by rw [r.len, sizeLine_eq]; exact c, fun p hp => Ext.fin (.tup hp r) R1 h1⟩
    · exact h1.elim
  · exact h1.elim
theorem re_lst (h : PA X es (tA K xi W fr)) : PE X (.List es pos) (tE K xi W (lstE fr)) := by
  refine PE.mono (pe_lst h) fun σ H Q h => ?_
  obtain ⟨G, s, R, h⟩ := h
  refine ⟨G, s, R, Po.bind h backs_V fun va s1 _ xs G1 H1 t1 R1 ra h1 => ?_⟩
  split at h1
  · rename_i ds e
    have r := dAll_ok ra.all e
    split at h1
    · rename_i c
      refine ⟨by rw [r.len, sizeLine_eq]; exact c, fun p hp => Ext.fin (.lst hp r) R1 h1⟩
    · exact h1.elim
  · exact h1.elim
inductive RdAll (K : PySem.W.Frag) (G H : Hp) : List V → List D → Prop
  | nil : RdAll K G H [] []
  | cons {v : V} {vs : List V} {d : D} {ds : List D} : RdR K G H v d → RdAll K G H vs ds → RdAll K G H (v :: vs) (d :: ds)
theorem rdAll_ok (R : Rep K xi G H σ s) {H0 : Hp} {σ0 : Ss} {s0 : S} : ∀ {vs : List V} {vls : List Vl} {ds : List D}, VRs K xi H0 σ0 s0 G H σ s vs vls → rdAll s vls = some ds → RdAll K G H vs ds
  | _, _, _, .nil, e => by cases e; exact .nil
  | _, _, ds, .cons (vl := vl) (vls := vls) a r, e => by
    unfold rdAll at e
    cases q1 : rd s vl with
    | none => rw [q1] at e; cases e
    | some x =>
      rw [q1] at e
      have e : (rdAll s vls).map (x :: ·) = some ds := e
      cases q : rdAll s vls with
      | none => rw [q] at e; cases e
      | some es =>
        rw [q] at e
        cases e
        exact .cons (rd_ok R a q1) (rdAll_ok R r q)
def CaF (K : PySem.W.Frag) (r : List V → Hp → VK → Prop) (f : List D → Option Vl) : Prop :=
  ∀ (G H : Hp) (vs : List V) (ds : List D) (z : Vl) (Q : VK), Same G H → RdAll K G H vs ds → f ds = some z → (∀ u H', Ext K G H u H' z → Q u H') → r vs H Q
theorem ca1_of {r : List V → Hp → VK → Prop} {f : List D → Option Vl} {Q : VK} {vls : List Vl} {vs : List V} {H0 : Hp} {σ0 : Ss} {s0 : S} (hf : CaF K r f) (R : Rep K xi G H σ s) (ra : VRs K xi H0 σ0 s0 G H σ s vs vls) (h : Po K xi W (VR K xi) G H σ s (ca1 f s vls) Q) : r vs H Q := by
  unfold ca1 at h
  split at h
  · rename_i ds e
    split at h
    · rename_i z ez
      exact hf G H vs ds z Q R.gh (rdAll_ok R ra e) ez fun u H' ext => ext.fin R h
    · exact h.elim
  · exact h.elim
theorem ca_lift {r : List V → Hp → VK → Prop} {f : List D → Option Vl} (hf : CaF K r f) {Q : VK} (h : tE K xi W (caE f fr) σ H Q) : tCB r (tA K xi W fr) σ H Q := by
  obtain ⟨G, s, R, h⟩ := h
  exact ⟨G, s, R, Po.bind h backs_V fun va s1 _ xs G1 H1 t1 R1 ra h1 => ca1_of hf R1 ra.all h1⟩
theorem mt_lift {T : String} {ty : D → Bool} {r : V → List V → Hp → VK → Prop} {f : List D → Option Vl} (hf : CaF K (fun vs H Q => ∃ x xs, vs = x :: xs ∧ r x xs H Q) f) (hty : ∀ (G H : Hp) (v : V) (x : D), Same G H → RdR K G H v x → ty x = true → tyV K T v H) {Q : VK}
    (h : tE K xi W (mtE ty f fa fr) σ H Q) : tBM K T r (tE K xi W fa) (tA K xi W fr) σ H Q := by
  obtain ⟨G, s, R, h⟩ := h
  refine ⟨G, s, R, Po.bind h backs_V fun va s1 _ x G1 H1 t1 R1 ra h1 => ?_⟩
  split at h1
  · rename_i c
    refine ⟨?_, G1, s1, R1, Po.bind h1 backs_V fun vs s2 _ xs G2 H2 t2 R2 rb h2 => ?_⟩
    · unfold okTy at c
      split at c
      · rename_i d ed
        exact hty G1 H1 x d R1.gh (rd_ok R1 ra ed) c
      · cases c
    · obtain ⟨y, ys, e, q⟩ := ca1_of hf R2 (.cons (ra.step R1 t2) (rb.all.back t1)) (by exact h2)
      cases e
      exact q
  · exact h1.elim
end
end M
set_option Elab.async false
set_option linter.all false
set_option maxRecDepth 100000
set_option maxHeartbeats 4000000
namespace M
open PySem PySem.Spec PyProof.Rows L2 Sv
variable [Wd]
def fit (b : Bool) (z : Vl) : Option Vl := if b = true then some z else none
theorem fit_some {b : Bool} {z u : Vl} (h : fit b z = some u) : b = true ∧ u = z := by
  unfold fit at h
  cases b with
  | true => cases h; exact ⟨rfl, rfl⟩
  | false => cases h
def lenD : List D → Option Vl
  | [.str z] => some (.d (.int z.length))
  | [.list ds] => some (.d (.int ds.length))
  | [.tuple ds] => some (.d (.int ds.length))
  | _ => none
def intF : List D → Option Vl
  | [.int i] => some (.d (.int i))
  | [.bool b] => some (.d (.int (if b = true then 1 else 0)))
  | _ => none
def tupF : List D → Option Vl
  | [.list ds] => some (.d (.tuple ds))
  | [.tuple ds] => some (.d (.tuple ds))
  | _ => none
def lstF : List D → Option Vl
  | [.list ds] => some (.o true (.L ds))
  | [.tuple ds] => some (.o true (.L ds))
  | [.str z] => some (.o true (.L ((Sv.signs z).map .str)))
  | _ => none
def boolsOf : List D → Option (List Bool)
  | [] => some []
  | .bool b :: r => (boolsOf r).map (b :: ·)
  | _ :: _ => none
def strsOf : List D → Option (List Str)
  | [] => some []
  | .str b :: r => (strsOf r).map (b :: ·)
  | _ :: _ => none
def allF : List D → Option Vl
  | [.list ds] => (boolsOf ds).map fun bs => .d (.bool (bs.all id))
  | _ => none
def minF : List D → Option Vl
  | [.int i, .int j] => some (.d (.int (if j < i then j else i)))
  | _ => none
open Classical in
noncomputable def reprF : List D → Option Vl
  | [d] => if ShowOk d then some (.d (.str d.shown)) else none
  | _ => none
def stripF : List D → Option Vl
  | [.str a, .str b] => some (.d (.str (Txt.stripChars a b)))
  | _ => none
def joinF : List D → Option Vl
  | [.str a, .list ds] => (strsOf ds).bind fun ys => fit (decide ((ys.map (·.length)).sum + ys.length * a.length ≤ 16777216)) (.d (.str (Txt.join a ys)))
  | _ => none
section
variable {K : PySem.W.Frag} {G H : Hp}
theorem RdAll.one {vs : List V} {d : D} (h : RdAll K G H vs [d]) : ∃ v, vs = [v] ∧ RdR K G H v d := by
  cases h with
  | cons a r => cases r; exact ⟨_, rfl, a⟩
theorem RdAll.two {vs : List V} {d e : D} (h : RdAll K G H vs [d, e]) : ∃ v w, vs = [v, w] ∧ RdR K G H v d ∧ RdR K G H w e := by
  cases h with
  | cons a r => obtain ⟨w, rfl, b⟩ := r.one; exact ⟨_, _, rfl, a, b⟩
theorem RdAll.three {vs : List V} {d e f : D} (h : RdAll K G H vs [d, e, f]) : ∃ v w u, vs = [v, w, u] ∧ RdR K G H v d ∧ RdR K G H w e ∧ RdR K G H u f := by
  cases h with
  | cons a r => obtain ⟨w, u, rfl, b, c⟩ := r.two; exact ⟨_, _, _, rfl, a, b, c⟩
theorem boolsOf_ok : ∀ {vs : List V} {ds : List D} {bs : List Bool}, RpAll K G vs ds → boolsOf ds = some bs → vs = bs.map V.bl
  | _, _, _, .nil, e => by cases e; rfl
  | _, _, bs, .cons (d := d) (ds := ds) a r, e => by
    cases a with
    | bl b =>
      have e : (boolsOf ds).map (b :: ·) = some bs := e
      cases q : boolsOf ds with
      | none => rw [q] at e; cases e
      | some cs => rw [q] at e; cases e; rw [boolsOf_ok r q]; rfl
    | _ => cases e
theorem strsOf_ok : ∀ {vs : List V} {ds : List D} {bs : List Str}, RpAll K G vs ds → strsOf ds = some bs → vs = bs.map V.str
  | _, _, _, .nil, e => by cases e; rfl
  | _, _, bs, .cons (d := d) (ds := ds) a r, e => by
    cases a with
    | @str b hb =>
      have e : (strsOf ds).map (b :: ·) = some bs := e
      cases q : strsOf ds with
      | none => rw [q] at e; cases e
      | some cs => rw [q] at e; cases e; rw [strsOf_ok r q]; rfl
    | _ => cases e
theorem rp_strs {G : Hp} : ∀ {ys : List Str}, (∀ y ∈ ys, y.length ≤ sizeLine) → RpAll K G (ys.map V.str) (ys.map PyData.str)
  | [], _ => .nil
  | y :: ys, h => .cons (.str (h y List.mem_cons_self)) (rp_strs fun z m => h z (List.mem_cons_of_mem _ m))
def rLenU (K : PySem.W.Frag) : List V → Hp → VK → Prop := fun xs H Q => ∃ x n, xs = [x] ∧ LenV K x H n ∧ Q (.int n) H
theorem ca_len : CaF K (rLenU K) lenD := by
  intro G H vs ds z Q g rs e h
  match ds, e with
  | [.str a], e =>
    cases e
    obtain ⟨v, rfl, r⟩ := rs.one
    cases r with
    | str ha => exact ⟨_, a.length, rfl, ⟨ha, rfl⟩, h _ _ (.same (.int _))⟩
  | [.list ds], e =>
    cases e
    obtain ⟨v, rfl, r⟩ := rs.one
    cases r with
    | lst h1 a1 => exact ⟨_, ds.length, rfl, .inl ⟨_, .inl (.inl h1), a1.len.symm⟩, h _ _ (.same (.int _))⟩
  | [.tuple ds], e =>
    cases e
    obtain ⟨v, rfl, r⟩ := rs.one
    cases r with
    | tup h1 a1 => exact ⟨_, ds.length, rfl, .inr ⟨_, same_t g h1, a1.len.symm⟩, h _ _ (.same (.int _))⟩
theorem ca_int : CaF K (fun xs H Q => (∃ i, xs = [.int i] ∧ Q (.int i) H) ∨ ∃ k, xs = [.bl k] ∧ Q (.int (if k then 1 else 0)) H) intF := by
  intro G H vs ds z Q g rs e h
  match ds, e with
  | [.int a], e =>
    cases e
    obtain ⟨v, rfl, r⟩ := rs.one
    cases r
    exact .inl ⟨a, rfl, h _ _ (.same (.int _))⟩
  | [.bool b], e =>
    cases e
    obtain ⟨v, rfl, r⟩ := rs.one
    cases r
    exact .inr ⟨b, rfl, h _ _ (.same (.int _))⟩
def rLstU (K : PySem.W.Frag) : List V → Hp → VK → Prop := fun xs H Q => (∃ p ys, xs = [.ref p] ∧ (SqL K H p ys ∨ SqT K H p ys) ∧ ∀ l, H l = none → Q (.ref l) (upd H l (.lst ys))) ∨ ∃ x : Str, xs = [.str x] ∧ x.length ≤ sizeLine ∧ ∀ p, H p = none → Q (.ref p) (upd H p (.lst ((Sv.signs x).map V.str)))
theorem cr_lstU {X : Cx} (hK : X.K = K := by rfl) (hc : X.calm = true := by rfl) : CallR X (.type "list") (rLstU K) := by
  subst hK
  intro pins s σ H xs us Q I r h
  rcases h with h | h
  · exact call_list_of pins s σ H xs us Q I r h
  · exact call_list_text hc pins s σ H xs us Q I r h
theorem ca_lst : CaF K (rLstU K) lstF := by
  intro G H vs ds z Q g rs e h
  match ds, e with
  | [.list ds], e =>
    cases e
    obtain ⟨v, rfl, r⟩ := rs.one
    cases r with
    | lst h1 a1 => exact .inl ⟨_, _, rfl, .inl (.inl (.inl h1)), fun l hl => h _ _ (.lst hl a1)⟩
  | [.tuple ds], e =>
    cases e
    obtain ⟨v, rfl, r⟩ := rs.one
    cases r with
    | tup h1 a1 => exact .inl ⟨_, _, rfl, .inr (same_t g h1), fun l hl => h _ _ (.lst hl a1)⟩
  | [.str a], e =>
    cases e
    obtain ⟨v, rfl, r⟩ := rs.one
    cases r with
    | str ha =>
      refine .inr ⟨a, rfl, ha, fun p hp => h _ _ (.lst hp ?_)⟩
      have := rp_strs (K := K) (G := G) (ys := Sv.signs a) fun y m => by
        obtain ⟨c, _, rfl⟩ := List.mem_map.mp m
        rw [tx_len, sizeLine_eq]
        exact (by decide : 1 ≤ 16777216)
      exact this
theorem ca_all : CaF K (rAll K) allF := by
  intro G H vs ds z Q g rs e h
  match ds, e with
  | [.list ds], e =>
    have e : ((boolsOf ds).map fun bs => Vl.d (.bool (bs.all id))) = some z := e
    cases q : boolsOf ds with
    | none => rw [q] at e; cases e
    | some bs =>
      rw [q] at e
      cases e
      obtain ⟨v, rfl, r⟩ := rs.one
      cases r with
      | lst h1 a1 =>
        have := boolsOf_ok a1 q
        subst this
        exact ⟨_, bs, rfl, .inl (.inl h1), h _ _ (.same (.bl _))⟩
theorem ca_min : CaF K (fun xs H Q => ∃ i j, xs = [.int i, .int j] ∧ Q (.int (if j < i then j else i)) H) minF := by
  intro G H vs ds z Q g rs e h
  match ds, e with
  | [.int i, .int j], e =>
    cases e
    obtain ⟨v, w, rfl, r1, r2⟩ := rs.two
    cases r1
    cases r2
    exact ⟨i, j, rfl, h _ _ (.same (.int _))⟩
open Classical in
theorem ca_repr : CaF K (fun xs H Q => ∃ x d, xs = [x] ∧ Dp K H x d ∧ ShowOk d ∧ Q (.str d.shown) H) reprF := by
  intro G H vs ds z Q g rs e h
  match ds, e with
  | [d], e =>
    have e : (if ShowOk d then some (Vl.d (.str d.shown)) else none) = some z := e
    by_cases c : ShowOk d
    · rw [if_pos c] at e
      cases e
      obtain ⟨v, rfl, r⟩ := rs.one
      exact ⟨v, d, rfl, (r.dp g).dp, c, h _ _ (.same (.str c.sz))⟩
    · rw [if_neg c] at e
      cases e
abbrev rM (r : V → List V → Hp → VK → Prop) : List V → Hp → VK → Prop := fun vs H Q => ∃ x xs, vs = x :: xs ∧ r x xs H Q
theorem strip_len (a b : Str) : (Txt.stripChars a b).length ≤ a.length := by
  show (if stripSame b.cps.contains true true a then a else stripped b.cps.contains true true a).length ≤ _
  split
  · exact Nat.le_refl _
  · unfold stripped
    show (a.cps.extract _ _).size ≤ a.cps.size
    rw [Array.size_extract]
    omega
theorem ca_strip : CaF K (rM fun x xs H Q => ∃ a b, x = .str a ∧ xs = [.str b] ∧ a.length ≤ sizeLine ∧ Q (.str (Txt.stripChars a b)) H) stripF := by
  intro G H vs ds z Q g rs e h
  match ds, e with
  | [.str a, .str b], e =>
    cases e
    obtain ⟨v, w, rfl, r1, r2⟩ := rs.two
    cases r1 with
    | str ha =>
      cases r2
      exact ⟨_, _, rfl, a, b, rfl, rfl, ha, h _ _ (.same (.str (Nat.le_trans (strip_len a b) ha)))⟩
theorem join_le (a : Str) (ys : List Str) : (Txt.join a ys).length ≤ (ys.map (·.length)).sum + ys.length * a.length := by
  show (PySem.Builtin.Str.glued a ys).length ≤ _
  rw [StrLaws.glued_eq_join]
  exact StrLaws.join_length_le a ys
def rJoin (K : PySem.W.Frag) : V → List V → Hp → VK → Prop := fun x xs H Q => ∃ a p, ∃ ys : List Str, x = .str a ∧ xs = [.ref p] ∧ (SqL K H p (ys.map V.str) ∨ SqT K H p (ys.map V.str)) ∧ (ys.map (·.length)).sum + ys.length * a.length ≤ 16777216 ∧ Q (.str (Txt.join a ys)) H
theorem ca_join : CaF K (rM (rJoin K)) joinF := by
  intro G H vs ds z Q g rs e h
  match ds, e with
  | [.str a, .list ds], e =>
    have e : ((strsOf ds).bind fun ys => fit (decide ((ys.map (·.length)).sum + ys.length * a.length ≤ 16777216)) (.d (.str (Txt.join a ys)))) = some z := e
    cases q : strsOf ds with
    | none => rw [q] at e; cases e
    | some ys =>
      rw [q] at e
      obtain ⟨c, rfl⟩ := fit_some e
      have c := of_decide_eq_true c
      obtain ⟨v, w, rfl, r1, r2⟩ := rs.two
      cases r1 with
      | str ha =>
        cases r2 with
        | lst h1 a1 =>
          have := strsOf_ok a1 q
          subst this
          exact ⟨_, _, rfl, a, _, ys, rfl, rfl, .inl (.inl (.inl h1)), c, h _ _ (.same (.str (by rw [sizeLine_eq]; exact Nat.le_trans (join_le a ys) c)))⟩
theorem RpAll.back : ∀ {vs : List V} {ds : List D} {i : Nat} {v : V}, RpAll K G vs ds → vs[i]? = some v → ∃ d, ds[i]? = some d ∧ Rp K G v d
  | _, _, _, _, .nil, e => by simp at e
  | _, _, 0, _, .cons h _, e => by simp at e; subst e; exact ⟨_, rfl, h⟩
  | _, _, i + 1, _, .cons _ a, e => by
    obtain ⟨d, h1, h2⟩ := RpAll.back (i := i) a (by simpa using e)
    exact ⟨d, by simpa using h1, h2⟩
theorem ty_str (G H : Hp) (v : V) (x : D) (_ : Same G H) (r : RdR K G H v x) (h : isStr x = true) : tyV K "str" v H := by
  cases r <;> first | rfl | cases h
end
section
variable {X : Cx} {K : PySem.W.Frag} {xi : XI} {W : WX} {e o : Expr} {es : List Expr} {fa fo : S → ER Vl} {fr : S → ER (List Vl)} {p pos apos cpos : Pos} {x : Str} {id T : String} {name : Str}
theorem re_callB {r : List V → Hp → VK → Prop} {f : List D → Option Vl} (hc : CallR X (.builtin id) r) (hf : CaF K r f) (hg : Gl X x) (hm : X.mg x = none) (hv : bootBuiltins x = some (.builtin id)) (ha : PA X (e :: es) (tA K xi W fr)) (hn : x ≠ "__name__" := by decide) (hdb : (x == ("__debug__" : Str)) = false := by decide)
    (he : starEach (e :: es) X.env = (false, eval e X.env) :: starEach es X.env := by rfl) (hpl : (backTo pos (starEach es X.env)).any (·.1) = false := by rfl) : PE X (.Call (.Name x p) (e :: es) [] pos) (tE K xi W (caE f fr)) :=
  PE.mono (pe_callB hc hg hm hv ha hn hdb he hpl) fun _ _ _ h => ca_lift hf h
theorem re_callTy {r : List V → Hp → VK → Prop} {f : List D → Option Vl} (hc : CallR X (.type T) r) (hf : CaF K r f) (hg : Gl X x) (hm : X.mg x = none) (hv : bootBuiltins x = some (.type T)) (ha : PA X (e :: es) (tA K xi W fr)) (hn : x ≠ "__name__" := by decide) (hdb : (x == ("__debug__" : Str)) = false := by decide)
    (he : starEach (e :: es) X.env = (false, eval e X.env) :: starEach es X.env := by rfl) (hpl : (backTo pos (starEach es X.env)).any (·.1) = false := by rfl) : PE X (.Call (.Name x p) (e :: es) [] pos) (tE K xi W (caE f fr)) :=
  PE.mono (pe_callTy hc hg hm hv ha hn hdb he hpl) fun _ _ _ h => ca_lift hf h
theorem re_mt {ty : D → Bool} {r : V → List V → Hp → VK → Prop} {f : List D → Option Vl} (hK : X.K = K := by rfl) (pa : PlainAttrs T) (slot : Slot T name id) (hty : typeOf (.builtin id) = pure (.type "method_descriptor")) (hm : MtR X id r) (hf : CaF K (rM r) f)
    (ht : ∀ (G H : Hp) (v : V) (x : D), Same G H → RdR K G H v x → ty x = true → tyV K T v H) (ho : PE X o (tE K xi W fo)) (ha : PA X (e :: es) (tA K xi W fr))
    (hbase : attributeBase o name X.env (eval o X.env) = eval o X.env := by rfl)
    (hfew : ((backTo cpos (starEach (e :: es) X.env)).all (fun x => !x.1) && (backToKw cpos (keywordEach [] X.env)).all (fun x => x.1.isSome)
      && decide ((e :: es).length + ([] : List Keyword).length + (if ([] : List Keyword).isEmpty then 0 else 1) < 30)) = true := by rfl)
    (hline : (apos.endLine == cpos.line) = true := by rfl) (hs : starEach (e :: es) X.env = (false, eval e X.env) :: starEach es X.env := by rfl) (hplain : (backTo cpos (starEach es X.env)).any (·.1) = false := by rfl) :
    PE X (.Call (.Attribute o name apos) (e :: es) [] cpos) (tE K xi W (mtE ty f fo fr)) := by
  subst hK
  exact PE.mono (pe_bm pa slot hty hm ho ha hbase hfew hline hs hplain) fun _ _ _ h => mt_lift hf ht h
theorem mt_joinK (hK : X.K = K := by rfl) : MtR X "str.join" (rJoin K) := by
  subst hK
  exact mt_join
theorem cr_lenK (hK : X.K = K := by rfl) : CallR X (.builtin "len") (rLenU K) := by
  subst hK
  exact call_len
theorem cr_allK (hK : X.K = K := by rfl) (hc : X.calm = true := by rfl) : CallR X (.builtin "all") (rAll K) := by
  subst hK
  exact cr_all hc
theorem cr_reprK (hg : X.A.guards = some []) (hu : X.A.units + 64 < cLine) (hK : X.K = K := by rfl) : CallR X (.builtin "repr") (fun xs H Q => ∃ x d, xs = [x] ∧ Dp K H x d ∧ ShowOk d ∧ Q (.str d.shown) H) := by
  subst hK
  exact call_repr hg hu
end
end M
set_option Elab.async false
set_option linter.all false
set_option maxRecDepth 100000
set_option maxHeartbeats 4000000
namespace M
open PySem PySem.Spec PyProof.Rows L2 Sv
variable [Wd]
section
variable {K : PySem.W.Frag} {xi : XI} {W : WX} {G H G' H' G1 H1 : Hp} {σ σ' σ1 : Ss} {s s' s1 : S}
theorem stp_write {i : Nat} {f : Bool} {b b' : Ob} {p : Addr} {o : HO} (R : Rep K xi G H σ s) (hi : s[i]? = some (some (.o f b))) (hv : σ[i]? = some (some (.ref p))) : Stp G H σ s G (upd H p o) σ (s.set i (some (.o f b'))) := by
  have hlt : i < s.length := by
    rcases Nat.lt_or_ge i s.length with z | z
    · exact z
    · rw [List.getElem?_eq_none z] at hi; cases hi
  have own : Own σ s f p := ⟨i, b, hi, hv⟩
  refine ⟨Same.refl _, fun c u h n => ?_, fun c h => ?_, fun c h1 _ h3 => absurd h1 h3, fun g q ⟨j, c, h1, h2⟩ => ?_, fun j c h => ?_⟩
  · rw [upd_ne (fun e : c = p => n f (by rw [e]; exact own))]
    exact h
  · by_cases e : c = p
    · subst e; rw [upd_same]; exact fun z => nomatch z
    · rw [upd_ne e]; exact h
  · by_cases e : j = i
    · subst e
      rw [List.getElem?_set_self hlt] at h1
      cases h1
      exact .inr ⟨j, b, hi, h2⟩
    · rw [List.getElem?_set_ne (Ne.symm e)] at h1
      exact .inr ⟨j, c, h1, h2⟩
  · by_cases e : j = i
    · subst e
      rw [hi] at h
      cases h
      exact ⟨rfl, b', List.getElem?_set_self hlt⟩
    · exact ⟨rfl, c, by rw [List.getElem?_set_ne (Ne.symm e)]; exact h⟩
theorem rep_write {i : Nat} {f : Bool} {b b' : Ob} {p : Addr} {o : HO} (R : Rep K xi G H σ s) (hi : s[i]? = some (some (.o f b))) (hv : σ[i]? = some (some (.ref p))) (hb : ObR K G (upd H p o) p b') : Rep K xi G (upd H p o) σ (s.set i (some (.o f b'))) := by
  have hlt : i < s.length := by
    rcases Nat.lt_or_ge i s.length with z | z
    · exact z
    · rw [List.getElem?_eq_none z] at hi; cases hi
  have gp := (R.own ⟨i, b, hi, hv⟩).1
  obtain ⟨_, b0, hb0⟩ := R.own ⟨i, b, hi, hv⟩
  refine ⟨by rw [List.length_set]; exact R.len, Same.upd2 R.gh gp, fun j vl h => ?_, fun j k g g' c c' q h1 h2 h3 h4 => ?_⟩
  · by_cases e : j = i
    · subst e
      rw [List.getElem?_set_self hlt] at h
      cases h
      exact ⟨_, hv, p, rfl, gp, hb⟩
    · rw [List.getElem?_set_ne (Ne.symm e)] at h
      obtain ⟨v, e1, w⟩ := R.sl j vl h
      refine ⟨v, e1, ?_⟩
      cases vl with
      | d x => exact w
      | o g c =>
        obtain ⟨q, rfl, w1, w2⟩ := w
        have ne : q ≠ p := fun e2 => e (R.ap j i g f c b p h hi (by rw [e1, e2]) hv)
        exact ⟨q, rfl, w1, w2.mono (Same.refl _) (upd_ne ne)⟩
      | r k => exact w
      | x y =>
        obtain ⟨a, cls, d, z1, z2, z3, z4⟩ := w
        refine ⟨a, cls, d, z1, z2, z3, fun nm n e => ?_⟩
        obtain ⟨dd, q1, q2⟩ := z4 nm n e
        refine ⟨dd, q1, ?_⟩
        rw [upd_ne (fun e2 => by rw [e2] at q2; exact hb0.noxd q2)]
        exact q2
      | s ns => exact w
      | z zp => exact w
  · have back : ∀ {k : Nat} {g : Bool} {c : Ob}, (s.set i (some (.o f b')))[k]? = some (some (.o g c)) → ∃ g' c', s[k]? = some (some (.o g' c')) := fun {k g c} h => by
      by_cases e : k = i
      · subst e; exact ⟨_, _, hi⟩
      · rw [List.getElem?_set_ne (Ne.symm e)] at h; exact ⟨_, _, h⟩
    obtain ⟨_, _, q1⟩ := back h1
    obtain ⟨_, _, q2⟩ := back h2
    exact R.ap j k _ _ _ _ q q1 q2 h3 h4
end
def lstAt (s : S) (i : Nat) : Option (Bool × List D) := match s[i]? with
  | some (some (.o f (.L ds))) => some (f, ds)
  | _ => none
def mu1 (f : List D → List D → Option (D × List D)) (i : Nat) (s : S) (args : List D) : ER Vl := match lstAt s i with
  | some (g, ds) => (match f ds args with
    | some (x, es) => .ok (.d x) (s.set i (some (.o g (.L es))))
    | none => .no)
  | none => .no
def muE (rdA : S → List Vl → Option (List D)) (f : List D → List D → Option (D × List D)) (i : Nat) (fr : S → ER (List Vl)) : S → ER Vl := fun s => match lstAt s i with
  | some _ => (fr s).bind fun vs s1 => match rdA s1 vs with
    | some as => mu1 f i s1 as
    | none => .no
  | none => .no
def appF : List D → List D → Option (D × List D)
  | ds, [x] => if ds.length < 16777216 then some (.none, ds ++ [x]) else none
  | _, _ => none
def extF : List D → List D → Option (D × List D)
  | ds, [.list es] => if ds.length + es.length ≤ 16777216 then some (.none, ds ++ es) else none
  | _, _ => none
def popF : List D → List D → Option (D × List D)
  | ds, [] => ds.getLast?.map fun x => (x, ds.dropLast)
  | _, _ => none
def rvsF : List D → List D → Option (D × List D)
  | ds, [] => some (.none, ds.reverse)
  | _, _ => none
section
variable {X : Cx} {K : PySem.W.Frag} {xi : XI} {W : WX} {G H G' H' G1 H1 : Hp} {σ σ' σ1 : Ss} {s s' s1 : S} {e o : Expr} {es : List Expr} {fa : S → ER Vl} {fr : S → ER (List Vl)} {pos apos cpos : Pos} {i : Nat}
theorem lstAt_ok {f : Bool} {ds : List D} (R : Rep K xi G H σ s) (h : lstAt s i = some (f, ds)) : s[i]? = some (some (.o f (.L ds))) ∧ ∃ p vs, σ[i]? = some (some (.ref p)) ∧ H p = some (.lst vs) ∧ RpAll K G vs ds := by
  unfold lstAt at h
  split at h
  · rename_i g es q
    cases h
    obtain ⟨v, e, w⟩ := R.sl i _ q
    obtain ⟨p, rfl, _, vs, w1, w2⟩ := w
    exact ⟨q, p, vs, e, w1, w2⟩
  · cases h
def MuF (K : PySem.W.Frag) (r : V → List V → Hp → VK → Prop) (A : Hp → Hp → List V → List D → Prop) (f : List D → List D → Option (D × List D)) : Prop :=
  ∀ (G H : Hp) (p : Addr) (vs ws : List V) (ds as : List D) (x : D) (es : List D) (Q : VK), Same G H → H p = some (.lst vs) → RpAll K G vs ds → A G H ws as → f ds as = some (x, es) → (∀ u us, Rp K G u x → RpAll K G us es → Q u (upd H p (.lst us))) → r (.ref p) ws H Q
theorem mu1_of {r : V → List V → Hp → VK → Prop} {A : Hp → Hp → List V → List D → Prop} {f : List D → List D → Option (D × List D)} {as : List D} {ws : List V} {Q : VK} {v : V} (hf : MuF K r A f) (R : Rep K xi G H σ s) (hv : σ[i]? = some (some v)) (ha : A G H ws as)
    (h : Po K xi W (VR K xi) G H σ s (mu1 f i s as) Q) : r v ws H Q := by
  unfold mu1 at h
  split at h
  · rename_i g ds q
    obtain ⟨h1, p, vs, h2, h3, h4⟩ := lstAt_ok R q
    rw [h2] at hv
    cases hv
    split at h
    · rename_i x es e
      exact hf G H p vs ws ds as x es Q R.gh h3 h4 ha e fun u us ru ra => h u G _ (stp_write R h1 h2) (rep_write R h1 h2 ⟨us, upd_same, ra⟩) ru
    · exact h.elim
  · exact h.elim
theorem mu_lift {r : V → List V → Hp → VK → Prop} {A : Hp → Hp → List V → List D → Prop} {rdA : S → List Vl → Option (List D)} {f : List D → List D → Option (D × List D)} (hf : MuF K r A f)
    (hA : ∀ {G H : Hp} {H0 : Hp} {σ0 : Ss} {s0 : S} {s : S} {σ : Ss} {vs : List V} {vls : List Vl} {as : List D}, Rep K xi G H σ s → VRs K xi H0 σ0 s0 G H σ s vs vls → rdA s vls = some as → A G H vs as) {Q : VK}
    (h : tE K xi W (muE rdA f i fr) σ H Q) : tBM K "list" r (tVar i) (tA K xi W fr) σ H Q := by
  obtain ⟨G, s, R, h⟩ := h
  unfold muE at h
  split at h
  · rename_i gd q
    obtain ⟨g, ds⟩ := gd
    obtain ⟨h1, p, vs, h2, h3, h4⟩ := lstAt_ok R q
    refine ⟨.ref p, h2, .inl ⟨rfl, vs, .inl (.inl h3)⟩, G, s, R, Po.bind h backs_V fun va s1 _ xs G1 H1 t1 R1 ra hh => ?_⟩
    split at hh
    · rename_i as e
      exact mu1_of hf R1 h2 (hA R1 ra.all e) hh
    · exact hh.elim
  · exact h.elim
theorem mu0_lift {r : V → List V → Hp → VK → Prop} {A : Hp → Hp → List V → List D → Prop} {rdA : S → List Vl → Option (List D)} {f : List D → List D → Option (D × List D)} (hf : MuF K r A f) (hA : ∀ {G H : Hp}, A G H [] []) {Q : VK} (h : tE K xi W (fun s => mu1 f i s []) σ H Q) : tBM0 K "list" r (tVar i) σ H Q := by
  obtain ⟨G, s, R, h⟩ := h
  cases q : lstAt s i with
  | none =>
    have h : Po K xi W (VR K xi) G H σ s (mu1 f i s []) Q := h
    unfold mu1 at h
    rw [q] at h
    exact h.elim
  | some gd =>
    obtain ⟨g, ds⟩ := gd
    obtain ⟨h1, p, vs, h2, h3, h4⟩ := lstAt_ok R q
    exact ⟨.ref p, h2, .inl ⟨rfl, vs, .inl (.inl h3)⟩, mu1_of hf R h2 hA h⟩
theorem mf_app : MuF K rAppend (fun G _ ws as => RpAll K G ws as) appF := by
  intro G H p vs ws ds as x es Q g h1 h2 ha e q
  match as, e with
  | [y], e =>
    have e : (if ds.length < 16777216 then some (PyData.none, ds ++ [y]) else none) = some (x, es) := e
    split at e
    · rename_i c
      cases e
      cases ha with
      | cons a r =>
        cases r
        exact ⟨p, vs, _, rfl, rfl, h1, by rw [h2.len, sizeLine_eq]; exact c, q _ _ .non (h2.app (.cons a .nil))⟩
    · cases e
theorem mf_ext : MuF K rExtend (fun G H ws as => RdAll K G H ws as) extF := by
  intro G H p vs ws ds as x es Q g h1 h2 ha e q
  match as, e with
  | [.list fs], e =>
    have e : (if ds.length + fs.length ≤ 16777216 then some (PyData.none, ds ++ fs) else none) = some (x, es) := e
    split at e
    · rename_i c
      cases e
      obtain ⟨v, rfl, r⟩ := ha.one
      cases r with
      | @lst b zs _ w1 w2 =>
        exact ⟨p, b, vs, zs, rfl, rfl, h1, w1, by rw [h2.len, w2.len, sizeLine_eq]; exact c, q _ _ .non (h2.app w2)⟩
    · cases e
theorem RpAll.dropLast {vs : List V} {ds : List D} (h : RpAll K G vs ds) : RpAll K G vs.dropLast ds.dropLast := by
  rw [List.dropLast_eq_take, List.dropLast_eq_take, h.len]
  exact h.take _
theorem mf_pop : MuF K rPop (fun _ _ ws as => ws = [] ∧ as = []) popF := by
  intro G H p vs ws ds as x es Q g h1 h2 ha e q
  obtain ⟨rfl, rfl⟩ := ha
  have e : (ds.getLast?.map fun x => (x, ds.dropLast)) = some (x, es) := e
  cases l : ds.getLast? with
  | none => rw [l] at e; cases e
  | some y =>
    rw [l] at e
    cases e
    rw [List.getLast?_eq_getElem?] at l
    obtain ⟨v, e1, r1⟩ := h2.at l
    exact ⟨p, vs, v, rfl, rfl, h1, by rw [h2.len]; exact e1, q _ _ r1 h2.dropLast⟩
theorem mf_rvs : MuF K rReverse (fun _ _ ws as => ws = [] ∧ as = []) rvsF := by
  intro G H p vs ws ds as x es Q g h1 h2 ha e q
  obtain ⟨rfl, rfl⟩ := ha
  cases e
  exact ⟨p, vs, rfl, rfl, h1, q _ _ .non h2.rev⟩
def dArgs (_ : S) (vs : List Vl) : Option (List D) := dAll vs
theorem re_app (hK : X.K = K := by rfl) (ho : PE X o (tVar i)) (ha : PA X (e :: es) (tA K xi W fr))
    (hbase : attributeBase o "append" X.env (eval o X.env) = eval o X.env := by rfl)
    (hfew : ((backTo cpos (starEach (e :: es) X.env)).all (fun x => !x.1) && (backToKw cpos (keywordEach [] X.env)).all (fun x => x.1.isSome)
      && decide ((e :: es).length + ([] : List Keyword).length + (if ([] : List Keyword).isEmpty then 0 else 1) < 30)) = true := by rfl)
    (hline : (apos.endLine == cpos.line) = true := by rfl) (hs : starEach (e :: es) X.env = (false, eval e X.env) :: starEach es X.env := by rfl) (hplain : (backTo cpos (starEach es X.env)).any (·.1) = false := by rfl) :
    PE X (.Call (.Attribute o "append" apos) (e :: es) [] cpos) (tE K xi W (muE dArgs appF i fr)) := by
  subst hK
  exact PE.mono (pe_bm PySem.F.plainAttrs_list PySem.F.slot_list_append PySem.F.type_list_append mt_append ho ha hbase hfew hline hs hplain) fun _ _ _ h => mu_lift mf_app (fun R r e => dAll_ok r e) h
theorem re_ext (hK : X.K = K := by rfl) (ho : PE X o (tVar i)) (ha : PA X (e :: es) (tA K xi W fr))
    (hbase : attributeBase o "extend" X.env (eval o X.env) = eval o X.env := by rfl)
    (hfew : ((backTo cpos (starEach (e :: es) X.env)).all (fun x => !x.1) && (backToKw cpos (keywordEach [] X.env)).all (fun x => x.1.isSome)
      && decide ((e :: es).length + ([] : List Keyword).length + (if ([] : List Keyword).isEmpty then 0 else 1) < 30)) = true := by rfl)
    (hline : (apos.endLine == cpos.line) = true := by rfl) (hs : starEach (e :: es) X.env = (false, eval e X.env) :: starEach es X.env := by rfl) (hplain : (backTo cpos (starEach es X.env)).any (·.1) = false := by rfl) :
    PE X (.Call (.Attribute o "extend" apos) (e :: es) [] cpos) (tE K xi W (muE rdAll extF i fr)) := by
  subst hK
  exact PE.mono (pe_bm PySem.F.plainAttrs_list PySem.F.slot_list_extend PySem.F.type_list_extend mt_extend ho ha hbase hfew hline hs hplain) fun _ _ _ h => mu_lift mf_ext (fun R r e => rdAll_ok R r e) h
theorem re_pop (hK : X.K = K := by rfl) (ho : PE X o (tVar i)) (hbase : attributeBase o "pop" X.env (eval o X.env) = eval o X.env := by rfl) (hline : (apos.endLine == cpos.line) = true := by rfl) :
    PE X (.Call (.Attribute o "pop" apos) [] [] cpos) (tE K xi W (fun s => mu1 popF i s [])) := by
  subst hK
  exact PE.mono (pe_bm0 PySem.F.plainAttrs_list PySem.F.slot_list_pop PySem.F.type_list_pop mt_pop ho hbase hline) fun _ _ _ h => mu0_lift (rdA := dArgs) mf_pop ⟨rfl, rfl⟩ h
theorem re_rvs (hK : X.K = K := by rfl) (ho : PE X o (tVar i)) (hbase : attributeBase o "reverse" X.env (eval o X.env) = eval o X.env := by rfl) (hline : (apos.endLine == cpos.line) = true := by rfl) :
    PE X (.Call (.Attribute o "reverse" apos) [] [] cpos) (tE K xi W (fun s => mu1 rvsF i s [])) := by
  subst hK
  exact PE.mono (pe_bm0 PySem.F.plainAttrs_list PySem.F.slot_list_reverse PySem.F.type_list_reverse mt_reverse ho hbase hline) fun _ _ _ h => mu0_lift (rdA := dArgs) mf_rvs ⟨rfl, rfl⟩ h
end
end M
set_option Elab.async false
set_option linter.all false
set_option maxRecDepth 100000
set_option maxHeartbeats 4000000
namespace M
open PySem PySem.Spec PyProof.Rows L2 Sv
variable [Wd]
inductive Out where
  | nx (s : S)
  | rt (v : Vl) (s : S)
  | er (e : Exn) (s : S)
  | bk (s : S)
  | ct (s : S)
  | no
def PoS (K : PySem.W.Frag) (xi : XI) (W : WX) (G H : Hp) (σ : Ss) (s : S) (r : Out) (D : Ends) : Prop := match r with
  | .nx s' => ∀ G' H' σ', Stp G H σ s G' H' σ' s' → Rep K xi G' H' σ' s' → D.nx σ' H'
  | .rt vl s' => ∀ v G' H' σ', Stp G H σ s G' H' σ' s' → Rep K xi G' H' σ' s' → VR K xi H σ s G' H' σ' s' v vl → D.rt v H'
  | .er e s' => ∀ G' H' σ', Stp G H σ s G' H' σ' s' → Rep K xi G' H' σ' s' → EW K W e σ' H'
  | .bk s' => ∀ G' H' σ', Stp G H σ s G' H' σ' s' → Rep K xi G' H' σ' s' → D.bk σ' H'
  | .ct s' => ∀ G' H' σ', Stp G H σ s G' H' σ' s' → Rep K xi G' H' σ' s' → D.ct σ' H'
  | .no => False
def tS (K : PySem.W.Frag) (xi : XI) (W : WX) (f : S → Out) : TS := fun D σ H => ∃ G s, Rep K xi G H σ s ∧ PoS K xi W G H σ s (f s) D
def ER.out {α : Type} (r : ER α) (k : α → S → Out) : Out := match r with
  | .ok a s => k a s
  | .er e s => .er e s
  | .no => .no
def nextS : S → Out := fun s => .nx s
def brkS : S → Out := fun s => .bk s
def cntS : S → Out := fun s => .ct s
def Out.seq (r : Out) (g : S → Out) : Out := match r with
  | .nx s => g s
  | r => r
def seqS (f g : S → Out) : S → Out := fun s => (f s).seq g
def dropS (f : S → ER Vl) : S → Out := fun s => (f s).out fun _ s1 => .nx s1
def ifS (c : S → ER Bool) (f g : S → Out) : S → Out := fun s => (c s).out fun b s1 => if b = true then f s1 else g s1
def raiS (c : Str) : S → Out := fun s => .er ⟨c, none⟩ s
def freeO : Option (Option Vl) → Bool
  | some (some (.o false _)) => false
  | none => false
  | _ => true
def freeAt (s : S) (i : Nat) : Bool := freeO s[i]?
def sto (s : S) (i : Nat) (v : Vl) : Option S := if freeAt s i = true then (match v with
  | .d x => some (s.set i (some (.d x)))
  | .o true b => some (s.set i (some (.o true b)))
  | _ => none) else none
def stoO (s : S) (i : Nat) (v : Vl) : Out := match sto s i v with
  | some s1 => .nx s1
  | none => .no
def setS (i : Nat) (f : S → ER Vl) : S → Out := fun s => (f s).out fun v s1 => stoO s1 i v
def ret1 (s : S) : Vl → Out
  | .d x => .rt (.d x) s
  | .o true b => .rt (.o true b) s
  | .r i => match s[i]? with
    | some (some (.d x)) => .rt (.d x) s
    | some (some (.o true b)) => .rt (.o true b) (s.set i none)
    | _ => .no
  | _ => .no
def retS (f : S → ER Vl) : S → Out := fun s => (f s).out fun v s1 => ret1 s1 v
def retN : S → Out := fun s => .rt (.d .none) s
abbrev Tg := D → S → Option S
def nmG (i : Nat) : Tg := fun x s => sto s i (.d x)
def itsOf : D → Option (List D)
  | .tuple ds => some ds
  | .list ds => some ds
  | _ => none
def bindAll : List Tg → List D → S → Option S
  | [], [], s => some s
  | g :: gs, d :: ds, s => (g d s).bind (bindAll gs ds)
  | _, _, _ => none
def tpG (gs : List Tg) : Tg := fun x s => (itsOf x).bind fun ds => bindAll gs ds s
def optO : Option S → Out
  | some s => .nx s
  | none => .no
def unpS (gs : List Tg) (f : S → ER Vl) : S → Out := fun s => (f s).out fun v s1 => match rd s1 v with
  | some x => optO (tpG gs x s1)
  | none => .no
def augS (i : Nat) (op : D → D → Option Vl) (f : S → ER Vl) : S → Out := fun s => match s[i]? with
  | some (some (.d x)) => (f s).out fun v s1 => match rd s1 v with
    | some y => (match op x y with
      | some (.d z) => stoO s1 i (.d z)
      | _ => .no)
    | none => .no
  | _ => .no
section
variable {X : Cx} {K : PySem.W.Frag} {xi : XI} {W : WX} {G H G' H' G1 H1 G0 H0 : Hp} {σ σ' σ1 σ0 : Ss} {s s' s1 s0 : S} {e o : Expr} {st : Stmt} {rest : List Stmt} {fa : S → ER Vl} {f g : S → Out} {De : Ends} {pos p : Pos} {i : Nat}
theorem PoS.shift {r : Out} (t : Stp G H σ s G1 H1 σ1 s1) (h : PoS K xi W G H σ s r De) : PoS K xi W G1 H1 σ1 s1 r De := by
  have bk : ∀ {Gx Hx : Hp} {σx : Ss} {sx : S} {v : V} {vl : Vl}, VR K xi H1 σ1 s1 Gx Hx σx sx v vl → VR K xi H σ s Gx Hx σx sx v vl := fun {Gx Hx σx sx v vl} h => by
    cases vl with
    | o f b =>
      obtain ⟨e0, p, e, h1, h2, h3, h4⟩ := h
      refine ⟨e0, p, e, h1, ?_, h3, h4⟩
      rcases h2 with z | z
      · left
        cases q : H p with
        | none => rfl
        | some o => exact absurd z (t.lv p (ne_none q))
      · rcases t.ow true p z with ⟨q, _⟩ | q
        · exact .inl q
        · exact .inr q
    | d x => exact h
    | r i => exact h
    | x e => exact h
    | s ns => exact h
    | z zp => exact h
  cases r with
  | nx s' => exact fun G' H' σ' t' R' => h G' H' σ' (t.trans t') R'
  | rt v s' => exact fun v G' H' σ' t' R' q => h v G' H' σ' (t.trans t') R' (bk q)
  | er e s' => exact fun G' H' σ' t' R' => h G' H' σ' (t.trans t') R'
  | bk s' => exact fun G' H' σ' t' R' => h G' H' σ' (t.trans t') R'
  | ct s' => exact fun G' H' σ' t' R' => h G' H' σ' (t.trans t') R'
  | no => exact h
theorem Po.outU {α β : Type} {rel : Rl3 α β} {r : ER α} {k : α → S → Out} {Z : β → Hp → Prop} (t : Stp G0 H0 σ0 s0 G H σ s) (h : PoS K xi W G0 H0 σ0 s0 (r.out k) De)
    (kk : ∀ a s1, r = .ok a s1 → ∀ v G1 H1, Stp G H σ s G1 H1 σ s1 → Rep K xi G1 H1 σ s1 → rel H σ s G1 H1 σ s1 v a → PoS K xi W G0 H0 σ0 s0 (k a s1) De → Z v H1) : Po K xi W rel G H σ s r Z := by
  cases r with
  | ok a s1 => exact fun v G1 H1 t1 R q => kk a s1 rfl v G1 H1 t1 R q h
  | er e s1 => exact fun G' H' t' R' => h G' H' σ (t.trans t') R'
  | no => exact h
theorem rs_nil : PSs X [] (tS K xi W nextS) := PSs.mono pss_nil fun D σ H ⟨G, s, R, h⟩ => h G H σ .refl R
theorem rs_brk : PS X (.Break pos) (tS K xi W brkS) := PS.mono ps_break fun D σ H ⟨G, s, R, h⟩ => h G H σ .refl R
theorem rs_one (h : PS X st (tS K xi W f)) : PSs X [st] (tS K xi W f) := pss_one h
theorem rs_cons (h1 : PS X st (tS K xi W f)) (h2 : PSs X rest (tS K xi W g)) : PSs X (st :: rest) (tS K xi W (seqS f g)) := by
  refine PSs.mono (pss_cons h1 h2) fun D σ H h => ?_
  obtain ⟨G, s, R, h⟩ := h
  refine ⟨G, s, R, ?_⟩
  have h : PoS K xi W G H σ s ((f s).seq g) D := h
  cases q : f s with
  | nx s1 => rw [q] at h; exact fun G' H' σ' t R' => ⟨G', s1, R', PoS.shift t h⟩
  | rt v s1 => rw [q] at h; exact h
  | er e s1 => rw [q] at h; exact h
  | bk s1 => rw [q] at h; exact h
  | ct s1 => rw [q] at h; exact h
  | no => rw [q] at h; exact h
theorem rs_expr (he : PE X e (tE K xi W fa)) (hs : swapsWith e none pos.line X.env = pure false := by rfl) : PS X (.Expr e pos) (tS K xi W (dropS fa)) := by
  refine PS.mono (ps_expr he hs) fun D σ H h => ?_
  obtain ⟨G, s, R, h⟩ := h
  exact ⟨G, s, R, Po.outU .refl h fun a s1 _ v G1 H1 t1 R1 r h1 => h1 G1 H1 σ t1 R1⟩
theorem rs_if {c : Expr} {a b : List Stmt} {fc : S → ER Bool} (hc : PT X c (tT K xi W fc)) (ha : PSs X a (tS K xi W f)) (hb : PSs X b (tS K xi W g)) : PS X (.If c a b pos) (tS K xi W (ifS fc f g)) := by
  refine PS.mono (ps_if hc ha hb) fun D σ H h => ?_
  obtain ⟨G, s, R, h⟩ := h
  refine ⟨G, s, R, Po.outU .refl h fun b s1 _ v G1 H1 t1 R1 r h1 => ?_⟩
  have r : v = b := r
  subst r
  cases v with
  | true => exact ⟨G1, s1, R1, PoS.shift t1 h1⟩
  | false => exact ⟨G1, s1, R1, PoS.shift t1 h1⟩
theorem rs_raise {x m : Str} {j : Nat} {p p2 pos pos2 : Pos} (c : ExcF X.K X.mg x) (hc : X.calm = true) (tk : L2N.Takes X W) (hg : Gl X x) (hK : X.K = K := by rfl) (hdb : (x == ("__debug__" : Str)) = false := by decide) :
    PS X (.Raise (some (.Call (.Name x p) [.Constant (.str m) j p2] [] pos)) none pos2) (tS K xi W (raiS x)) := by
  subst hK
  exact PS.mono (L2N.ps_raise hc tk (L2N.pmk_own PySem.F.excBase_ValueError c.q c.g c.kp (raises_own c.sb c.ty) hg hdb)) fun D σ H ⟨G, s, R, h⟩ => h G H σ .refl R
theorem freeAt_ok (h : freeAt s i = true) : i < s.length ∧ ∀ b, s[i]? ≠ some (some (.o false b)) := by
  unfold freeAt at h
  refine ⟨?_, fun b e => by rw [e] at h; cases h⟩
  rcases Nat.lt_or_ge i s.length with z | z
  · exact z
  · rw [List.getElem?_eq_none z] at h; cases h
theorem sto_ok {v : Vl} (h : sto s i v = some s1) : freeAt s i = true ∧ s1 = s.set i (some v) ∧ ((∃ x, v = .d x) ∨ ∃ b, v = .o true b) := by
  unfold sto at h
  split at h
  · rename_i c
    cases v with
    | d x => cases h; exact ⟨c, rfl, .inl ⟨x, rfl⟩⟩
    | o f b =>
      cases f with
      | true => cases h; exact ⟨c, rfl, .inr ⟨b, rfl⟩⟩
      | false => cases h
    | _ => cases h
  · cases h
theorem stp_set {v : V} {vl : Vl} (t : Stp G0 H0 σ0 s0 G H σ s) (R : Rep K xi G H σ s) (r : VR K xi H0 σ0 s0 G H σ s v vl) (h : sto s i vl = some s1) : Stp G0 H0 σ0 s0 G H (σ.set i (some v)) s1 := by
  obtain ⟨c, rfl, hv⟩ := sto_ok h
  obtain ⟨hlt, nio⟩ := freeAt_ok c
  have hlt2 : i < σ.length := by rw [← R.len]; exact hlt
  refine ⟨t.gg, t.fr, t.lv, t.gn, fun f p ⟨j, b, h1, h2⟩ => ?_, fun j b h1 => ?_⟩
  · by_cases e : j = i
    · subst e
      rw [List.getElem?_set_self hlt] at h1
      rw [List.getElem?_set_self hlt2] at h2
      cases h1
      cases h2
      obtain ⟨e0, q, e1, _, h3, _, _⟩ := r
      cases e1
      subst e0
      exact h3.elim (fun z => .inl ⟨z, rfl⟩) .inr
    · rw [List.getElem?_set_ne (Ne.symm e)] at h1 h2
      exact t.ow f p ⟨j, b, h1, h2⟩
  · obtain ⟨e1, b', e2⟩ := t.io j b h1
    have n : j ≠ i := fun e => nio b' (by rw [← e]; exact e2)
    exact ⟨by rw [List.getElem?_set_ne (Ne.symm n)]; exact e1, b', by rw [List.getElem?_set_ne (Ne.symm n)]; exact e2⟩
theorem rep_set {v : V} {vl : Vl} (R : Rep K xi G H σ s) (r : VR K xi H0 σ0 s0 G H σ s v vl) (h : sto s i vl = some s1) : Rep K xi G H (σ.set i (some v)) s1 := by
  obtain ⟨c, rfl, hv⟩ := sto_ok h
  obtain ⟨hlt, nio⟩ := freeAt_ok c
  have hlt2 : i < σ.length := by rw [← R.len]; exact hlt
  have fr : ∀ {j : Nat} {f g : Bool} {b c : Ob} {p : Addr}, vl = .o f b → v = .ref p → j ≠ i → s[j]? = some (some (.o g c)) → σ[j]? = some (some (.ref p)) → False := fun {j f g b c p} e1 e2 n h1 h2 => by
    subst e1 e2
    obtain ⟨_, q, e3, _, _, _, h5⟩ := r
    cases e3
    exact h5 g ⟨j, c, h1, h2⟩
  refine ⟨by rw [List.length_set, List.length_set]; exact R.len, R.gh, fun j u hj => ?_, fun j k f g b c p h1 h2 h3 h4 => ?_⟩
  · by_cases e : j = i
    · subst e
      rw [List.getElem?_set_self hlt] at hj
      cases hj
      refine ⟨v, List.getElem?_set_self hlt2, ?_⟩
      rcases hv with ⟨x, rfl⟩ | ⟨b, rfl⟩
      · exact r
      · obtain ⟨_, q, e3, w1, _, w3, _⟩ := r
        exact ⟨q, e3, w1, w3⟩
    · rw [List.getElem?_set_ne (Ne.symm e)] at hj
      obtain ⟨w, e1, w2⟩ := R.sl j u hj
      exact ⟨w, by rw [List.getElem?_set_ne (Ne.symm e)]; exact e1, w2⟩
  · by_cases ej : j = i
    · by_cases ek : k = i
      · rw [ej, ek]
      · subst ej
        rw [List.getElem?_set_self hlt] at h1
        rw [List.getElem?_set_self hlt2] at h3
        rw [List.getElem?_set_ne (Ne.symm ek)] at h2 h4
        cases h1
        cases h3
        exact (fr rfl rfl ek h2 h4).elim
    · by_cases ek : k = i
      · subst ek
        rw [List.getElem?_set_self hlt] at h2
        rw [List.getElem?_set_self hlt2] at h4
        rw [List.getElem?_set_ne (Ne.symm ej)] at h1 h3
        cases h2
        cases h4
        exact (fr rfl rfl ej h1 h3).elim
      · rw [List.getElem?_set_ne (Ne.symm ej)] at h1 h3
        rw [List.getElem?_set_ne (Ne.symm ek)] at h2 h4
        exact R.ap j k f g b c p h1 h2 h3 h4
theorem rs_set {x : Str} {pos' : Pos} (hN : X.N.Nodup) (hi : X.N[i]? = some x) (hx : Loc X.env.scope x) (he : PE X e (tE K xi W fa)) (hs : swapsWith e (some (.Name x pos')) pos.line X.env = pure false := by rfl) (hf : X.fn x = true ∨ X.env.scope.names.lookup x = some .local := by first | exact .inl rfl | exact .inr rfl | assumption) :
    PS X (.Assign [.Name x pos'] e pos) (tS K xi W (setS i fa)) := by
  refine PS.mono (ps_set hN hi hx he hs hf) fun D σ H h => ?_
  obtain ⟨G, s, R, h⟩ := h
  refine ⟨G, s, R, Po.outU .refl h fun a s1 _ v G1 H1 t1 R1 r h1 => ?_⟩
  show D.nx (σ.set i (some v)) H1
  unfold stoO at h1
  split at h1
  · rename_i s2 q
    exact h1 G1 H1 _ (stp_set t1 R1 r q) (rep_set R1 r q)
  · exact h1.elim
theorem rs_ret (he : PE X e (tE K xi W fa)) : PS X (.Return (some e) pos) (tS K xi W (retS fa)) := by
  refine PS.mono (ps_ret he) fun D σ H h => ?_
  obtain ⟨G, s, R, h⟩ := h
  refine ⟨G, s, R, Po.outU .refl h fun a s1 _ v G1 H1 t1 R1 r h1 => ?_⟩
  cases a with
  | d x => exact h1 v G1 H1 σ t1 R1 r
  | o f b =>
    cases f with
    | true => exact h1 v G1 H1 σ t1 R1 r
    | false => exact h1.elim
  | r i =>
    have r : σ[i]? = some (some v) := r
    unfold ret1 at h1
    simp only at h1
    split at h1
    · rename_i x q
      obtain ⟨v', e2, w⟩ := R1.sl i _ q
      rw [r] at e2
      cases e2
      exact h1 v G1 H1 σ t1 R1 w
    · rename_i b q
      obtain ⟨v', e2, w⟩ := R1.sl i _ q
      rw [r] at e2
      cases e2
      obtain ⟨p, rfl, w1, w2⟩ := w
      have hlt : i < s1.length := by
        rcases Nat.lt_or_ge i s1.length with z | z
        · exact z
        · rw [List.getElem?_eq_none z] at q; cases q
      have sub : ∀ {j : Nat} {u : Vl}, (s1.set i none)[j]? = some (some u) → j ≠ i ∧ s1[j]? = some (some u) := fun {j u} h => by
        by_cases e : j = i
        · subst e; rw [List.getElem?_set_self hlt] at h; cases h
        · rw [List.getElem?_set_ne (Ne.symm e)] at h; exact ⟨e, h⟩
      refine h1 (.ref p) G1 H1 σ ⟨t1.gg, t1.fr, t1.lv, t1.gn, fun f q1 ⟨j, c, z1, z2⟩ => t1.ow f q1 ⟨j, c, (sub z1).2, z2⟩, fun j c z => ?_⟩ ⟨by rw [List.length_set]; exact R1.len, R1.gh, fun j u z => R1.sl j u (sub z).2, fun j k f g c d p2 z1 z2 z3 z4 => R1.ap j k f g c d p2 (sub z1).2 (sub z2).2 z3 z4⟩ ⟨rfl, p, rfl, w1, ?_, w2, fun g ⟨j, c, z1, z2⟩ => (sub z1).1 (R1.ap j i g true c b p (sub z1).2 q z2 r)⟩
      · obtain ⟨e1, c', e2⟩ := t1.io j c z
        have n : j ≠ i := fun e => by rw [e, q] at e2; cases e2
        exact ⟨e1, c', by rw [List.getElem?_set_ne (Ne.symm n)]; exact e2⟩
      · rcases t1.ow true p ⟨i, b, q, r⟩ with ⟨z, _⟩ | z
        · exact .inl z
        · exact .inr z
    · exact h1.elim
  | x e => exact h1.elim
  | s ns => exact h1.elim
  | z zp => exact h1.elim
end
end M
set_option Elab.async false
set_option linter.all false
set_option maxRecDepth 100000
set_option maxHeartbeats 4000000
namespace M
open PySem PySem.Spec PyProof.Rows L2 Sv
variable [Wd]
theorem PG.mono {X : Cx} {e : Expr} {t t' : TG} (h : PG X e t) (k : ∀ v σ H Q, t' v σ H Q → t v σ H Q) : PG X e t' := ⟨fun pins s σ H v u Q I r w => h.run pins s σ H v u Q I r (k v σ H Q w)⟩
theorem PGs.mono {X : Cx} {e : List Expr} {t t' : TGs} (h : PGs X e t) (k : ∀ v σ H Q, t' v σ H Q → t v σ H Q) : PGs X e t' := ⟨fun pins s σ H v u Q I r w => h.run pins s σ H v u Q I r (k v σ H Q w)⟩
theorem PG.or {X : Cx} {e : Expr} {t t' : TG} (h : PG X e t) (h' : PG X e t') : PG X e (fun v σ H Q => t v σ H Q ∨ t' v σ H Q) := ⟨fun pins s σ H v u Q I r w => w.elim (h.run pins s σ H v u Q I r) (h'.run pins s σ H v u Q I r)⟩
def Off (sl : List Nat) (σ σ' : Ss) : Prop := σ'.length = σ.length ∧ ∀ j, j ∉ sl → σ'[j]? = σ[j]?
theorem Off.refl {sl : List Nat} {σ : Ss} : Off sl σ σ := ⟨rfl, fun _ _ => rfl⟩
theorem Off.trans {sl : List Nat} {a b c : Ss} (h : Off sl a b) (h' : Off sl b c) : Off sl a c := ⟨h'.1.trans h.1, fun j n => (h'.2 j n).trans (h.2 j n)⟩
theorem Off.mono {sl sl' : List Nat} {a b : Ss} (h : Off sl a b) (k : ∀ j ∈ sl, j ∈ sl') : Off sl' a b := ⟨h.1, fun j n => h.2 j fun m => n (k j m)⟩
section
variable (K : PySem.W.Frag) (xi : XI)
def tG (sl : List Nat) (g : Tg) : TG := fun v σ H Q => ∃ (G0 H0 : Hp) (σ0 : Ss) (s0 : S) (G : Hp) (s : S) (x : D) (s' : S), Stp G0 H0 σ0 s0 G H σ s ∧ Rep K xi G H σ s ∧ Rp K G v x ∧ g x s = some s' ∧ ∀ σ', Off sl σ σ' → Stp G0 H0 σ0 s0 G H σ' s' → Rep K xi G H σ' s' → Q σ' H
def tGs (sl : List Nat) (gs : List Tg) : TGs := fun vs σ H Q => ∃ (G0 H0 : Hp) (σ0 : Ss) (s0 : S) (G : Hp) (s : S) (ds : List D) (s' : S), Stp G0 H0 σ0 s0 G H σ s ∧ Rep K xi G H σ s ∧ RpAll K G vs ds ∧ bindAll gs ds s = some s' ∧ ∀ σ', Off sl σ σ' → Stp G0 H0 σ0 s0 G H σ' s' → Rep K xi G H σ' s' → Q σ' H
end
theorem bindAll_len : ∀ {gs : List Tg} {ds : List D} {s s' : S}, bindAll gs ds s = some s' → ds.length = gs.length
  | [], [], _, _, _ => rfl
  | [], _ :: _, _, _, h => by cases h
  | _ :: _, [], _, _, h => by cases h
  | g :: gs, d :: ds, s, s', h => by
    unfold bindAll at h
    cases q : g d s with
    | none => rw [q] at h; cases h
    | some s1 =>
      rw [q] at h
      rw [List.length_cons, List.length_cons, bindAll_len (show bindAll gs ds s1 = some s' from h)]
section
variable {X : Cx} {K : PySem.W.Frag} {xi : XI} {W : WX} {G H G' H' G1 H1 G0 H0 : Hp} {σ σ' σ1 σ0 : Ss} {s s' s1 s0 : S} {e o tg iter : Expr} {es : List Expr} {fa : S → ER Vl} {f : S → Out} {g : Tg} {gs : List Tg} {De : Ends} {pos p : Pos} {i : Nat} {sl sl' : List Nat}
theorem rg_name {x : Str} (hN : X.N.Nodup) (hi : X.N[i]? = some x) (hx : Loc X.env.scope x) (hf : X.fn x = true ∨ X.env.scope.names.lookup x = some .local := by first | exact .inl rfl | exact .inr rfl | assumption) : PG X (.Name x pos) (tG K xi [i] (nmG i)) := by
  refine PG.mono (pg_name hN hi hx hf) fun v σ H Q ⟨G0, H0, σ0, s0, G, s, x, s', t, R, r, e, h⟩ => ?_
  have rv : VR K xi H0 σ0 s0 G H σ s v (.d x) := r
  refine h _ ⟨List.length_set, fun j n => List.getElem?_set_ne fun e => n (by rw [← e]; exact List.mem_cons_self)⟩ (stp_set t R rv e) (rep_set R rv e)
theorem rgs_nil : PGs X [] (tGs K xi [] []) := by
  refine PGs.mono pgs_nil fun vs σ H Q ⟨G0, H0, σ0, s0, G, s, ds, s', t, R, r, e, h⟩ => ?_
  have hl := bindAll_len e
  have : ds = [] := List.eq_nil_of_length_eq_zero hl
  subst this
  cases r
  cases e
  exact ⟨rfl, h σ .refl t R⟩
theorem rgs_cons (h1 : PG X e (tG K xi sl g)) (h2 : PGs X es (tGs K xi sl' gs)) (hs : (assignEach (e :: es) X.env).map (·.2) = assign e X.env :: (assignEach es X.env).map (·.2) := by rfl) : PGs X (e :: es) (tGs K xi (sl ++ sl') (g :: gs)) := by
  refine PGs.mono (pgs_cons h1 h2 hs) fun vs σ H Q ⟨G0, H0, σ0, s0, G, s, ds, s', t, R, r, e, h⟩ => ?_
  cases r with
  | nil => cases e
  | @cons v vr d dr a r =>
    unfold bindAll at e
    cases q : g d s with
    | none => rw [q] at e; cases e
    | some s1 =>
      rw [q] at e
      have e : bindAll gs dr s1 = some s' := e
      refine ⟨v, vr, rfl, G0, H0, σ0, s0, G, s, d, s1, t, R, a, q, fun σ1 o1 t1 R1 => ⟨G0, H0, σ0, s0, G, s1, dr, s', t1, R1, r, e, fun σ2 o2 t2 R2 => h σ2 ?_ t2 R2⟩⟩
      exact (o1.mono fun j m => List.mem_append_left _ m).trans (o2.mono fun j m => List.mem_append_right _ m)
theorem seq_lift {n : Nat} {v : V} {σ : Ss} {H : Hp} {Q : Ss → Hp → Prop} {x : D} (hn : n = gs.length) (t : Stp G0 H0 σ0 s0 G H σ s) (R : Rep K xi G H σ s) (r : RdR K G H v x) (e : tpG gs x s = some s') (h : ∀ σ', Off sl σ σ' → Stp G0 H0 σ0 s0 G H σ' s' → Rep K xi G H σ' s' → Q σ' H) :
    gTup K n (tGs K xi sl gs) v σ H Q ∨ gLst K n (tGs K xi sl gs) v σ H Q := by
  unfold tpG at e
  cases r with
  | @tup a xs ds w1 w2 =>
    have e : bindAll gs ds s = some s' := e
    exact .inl ⟨a, xs, rfl, same_t R.gh w1, by rw [w2.len, hn]; exact bindAll_len e, G0, H0, σ0, s0, G, s, ds, s', t, R, w2, e, h⟩
  | @lst a xs ds w1 w2 =>
    have e : bindAll gs ds s = some s' := e
    exact .inr ⟨a, xs, rfl, .inl (.inl w1), by rw [w2.len, hn]; exact bindAll_len e, G0, H0, σ0, s0, G, s, ds, s', t, R, w2, e, h⟩
  | _ => cases e
theorem rg_tup {k : Nat} (hc : X.calm = true) (hgs : PGs X es (tGs K xi sl gs)) (hK : X.K = K := by rfl) (hn : (assignEach es X.env).length = gs.length := by rfl) (hst : (assignEach es X.env).findIdx? (·.1) = none := by rfl) : PG X (.Tuple es k pos) (tG K xi sl (tpG gs)) := by
  subst hK
  exact PG.mono (PG.or (pg_tup hc hgs hn hst) (pg_lst hc hgs hn hst)) fun v σ H Q ⟨G0, H0, σ0, s0, G, s, x, s', t, R, r, e, h⟩ => seq_lift rfl t R (RdR.of r R.gh) e h
theorem rs_aug {x : Str} {op : Operator} {r : R2} {fop : PyData → PyData → Option Vl} {pos' : Pos} (ho : OpR X (inplaceOp op) r) (hf : OpF K r fop) (hN : X.N.Nodup) (hi : X.N[i]? = some x) (hx : Loc X.env.scope x) (he : PE X e (tE K xi W fa)) (hfn : X.fn x = true ∨ X.env.scope.names.lookup x = some .local := by first | exact .inl rfl | exact .inr rfl | assumption) :
    PS X (.AugAssign (.Name x pos') op e pos) (tS K xi W (augS i fop fa)) := by
  refine PS.mono (ps_aug hN hi hx he ho hfn) fun D σ H h => ?_
  obtain ⟨G, s, R, h⟩ := h
  unfold augS at h
  split at h
  · rename_i d q
    obtain ⟨v, e1, rv⟩ := R.sl i _ q
    refine ⟨v, e1, G, s, R, Po.outU .refl h fun a s1 _ y G1 H1 t1 R1 ry h1 => ?_⟩
    split at h1
    · rename_i dy ey
      split at h1
      · rename_i z ez
        refine hf G1 H1 v y d dy (.d z) _ R1.gh (RdR.of (Rp.same t1.gg rv) R1.gh) (rd_ok R1 ry ey) ez fun u H2 ext => ?_
        refine ext.fin (W := W) R1 (Q := fun z H2 => D.nx (σ.set i (some z)) H2) fun w G2 H2 t2 R2 rw_ => ?_
        unfold stoO at h1
        split at h1
        · rename_i s2 e2
          have rw2 : VR K xi H σ s G2 H2 σ s1 w (.d z) := rw_
          exact h1 G2 H2 _ (stp_set (t1.trans t2) R2 rw2 e2) (rep_set R2 rw2 e2)
        · exact h1.elim
      · exact h1.elim
    · exact h1.elim
  · exact h.elim
def IterOk (K : PySem.W.Frag) (G1 : Hp) (J : It) (items : List PyData) : Prop := ∀ (i : Nat) (G2 H2 : Hp), Same G1 G2 → Same G2 H2 →
  (∀ x, items[i]? = some x → J.go i H2 ∧ ∀ v H3, J.yld i H2 v H3 → ∃ G3, Same G2 G3 ∧ Same G3 H3 ∧ Same H2 H3 ∧ (∀ b, G2 b = none → H2 b ≠ none → G3 b = none) ∧ Rp K G3 v x) ∧ (i = items.length → J.stop i H2)
def rI (K : PySem.W.Frag) : Rl3 (List PyData) It := fun _ _ _ G' _ _ _ J items => IterOk K G' J items
theorem backs_I : Backs (rI K) := fun _ _ _ _ _ _ _ _ _ _ _ _ _ _ _ h => h
def tI (K : PySem.W.Frag) (xi : XI) (W : WX) (f : S → ER (List PyData)) : TI := fun σ H R => ∃ G s, Rep K xi G H σ s ∧ Po K xi W (rI K) G H σ s (f s) R
theorem stp_turn {G2 H2 G3 H3 : Hp} (a : Same G2 G3) (b : Same H2 H3) (c : ∀ b, G2 b = none → H2 b ≠ none → G3 b = none) : Stp G2 H2 σ s G3 H3 σ s :=
  ⟨a, fun x o h _ => b x o h, fun x h => by
    cases q : H2 x with
    | none => exact absurd q h
    | some o => exact ne_none (b x o q), fun x h1 h2 h3 => absurd (c x h1 h2) h3, fun _ _ w => .inr w, fun _ b h => ⟨rfl, b, h⟩⟩
theorem rep_turn {G2 H2 G3 H3 : Hp} (R : Rep K xi G2 H2 σ s) (a : Same G2 G3) (g : Same G3 H3) (b : Same H2 H3) (c : ∀ b, G2 b = none → H2 b ≠ none → G3 b = none) : Rep K xi G3 H3 σ s := by
  refine R.quiet (stp_turn a b c) g fun f p w => ?_
  obtain ⟨gp, ob, h⟩ := R.own w
  have hp := h.here
  refine ⟨?_, c p gp hp⟩
  cases q : H2 p with
  | none => exact absurd q hp
  | some o => exact b p o q
end
def forL (g : Tg) (b : S → Out) : List PyData → S → Out
  | [], s => .nx s
  | d :: ds, s => match g d s with
    | none => .no
    | some s1 => match b s1 with
      | .nx s2 => forL g b ds s2
      | .ct s2 => forL g b ds s2
      | .bk s2 => .nx s2
      | .rt v s2 => .rt v s2
      | .er e s2 => .er e s2
      | .no => .no
def forS (it : S → ER (List PyData)) (g : Tg) (b : S → Out) : S → Out := fun s => (it s).out fun ds s1 => forL g b ds s1
section
variable {X : Cx} {K : PySem.W.Frag} {xi : XI} {W : WX} {G H G' H' G1 H1 G0 H0 : Hp} {σ σ' σ1 σ0 : Ss} {s s' s1 s0 : S} {e o tg iter elt : Expr} {es : List Expr} {fa : S → ER Vl} {f : S → Out} {fi : S → ER (List PyData)} {g : Tg} {gs : List Tg} {De : Ends} {pos p : Pos} {i : Nat} {sl sl' : List Nat}
theorem rs_for {body : List Stmt} (hp : PassesOwn (model X.prog X.w) X.A X.env X.xe) (hc : X.calm = true) (hi : PI X tg iter (tI K xi W fi)) (hg : PG X tg (tG K xi sl g)) (hb : PSs X body (tS K xi W f)) (hs : ∀ x, foldedSetIterable iter X.env x = pure x := by intro _; rfl) : PS X (.For tg iter body [] pos) (tS K xi W (forS fi g f)) := by
  refine PS.mono (ps_for hp hc hi hg hb hs) fun D σ H h => ?_
  obtain ⟨G, s, R, h⟩ := h
  refine ⟨G, s, R, Po.outU .refl h fun items s1 _ J G1 H1 t1 R1 ok h1 => ?_⟩
  have ok : IterOk K G1 J items := ok
  refine ⟨fun i m σ2 H2 => m = items.length - i ∧ i ≤ items.length ∧ ∃ G2 s2, Same G1 G2 ∧ Stp G H σ s G2 H2 σ2 s2 ∧ Rep K xi G2 H2 σ2 s2 ∧ PoS K xi W G H σ s (forL g f (items.drop i) s2) D, ⟨_, rfl, Nat.zero_le _, G1, s1, Same.refl _, t1, R1, h1⟩, ?_⟩
  rintro i m σ2 H2 ⟨rfl, hi, G2, s2, g2, t2, R2, h2⟩
  obtain ⟨goes, stops⟩ := ok i G2 H2 g2 R2.gh
  by_cases hlt : i < items.length
  · right
    obtain ⟨go, yl⟩ := goes items[i] (by simp [hlt])
    refine ⟨go, fun σ' H' => ∃ m', m' < items.length - i ∧ (m' = items.length - (i + 1) ∧ i + 1 ≤ items.length ∧ ∃ G2 s2, Same G1 G2 ∧ Stp G H σ s G2 H' σ' s2 ∧ Rep K xi G2 H' σ' s2 ∧ PoS K xi W G H σ s (forL g f (items.drop (i + 1)) s2) D), fun σ' H' h => h, fun v H3 y => ?_⟩
    obtain ⟨G3, g3, gh3, h3, c3, rv⟩ := yl v H3 y
    have t3 := t2.trans (stp_turn g3 h3 c3)
    have R3 := rep_turn R2 g3 gh3 h3 c3
    rw [List.drop_eq_getElem_cons hlt] at h2
    unfold forL at h2
    split at h2
    · exact h2.elim
    · rename_i s4 q4
      refine ⟨G, H, σ, s, G3, s2, items[i], s4, t3, R3, rv, q4, fun σ4 _ t4 R4 => ⟨G3, s4, R4, ?_⟩⟩
      have nxt : ∀ {s5 : S}, PoS K xi W G H σ s (forL g f (items.drop (i + 1)) s5) D → ∀ G5 H5 σ5, Stp G3 H3 σ4 s4 G5 H5 σ5 s5 → Rep K xi G5 H5 σ5 s5 →
          ∃ m', m' < items.length - i ∧ (m' = items.length - (i + 1) ∧ i + 1 ≤ items.length ∧ ∃ G2 s2, Same G1 G2 ∧ Stp G H σ s G2 H5 σ5 s2 ∧ Rep K xi G2 H5 σ5 s2 ∧ PoS K xi W G H σ s (forL g f (items.drop (i + 1)) s2) D) := fun {s5} h5 G5 H5 σ5 t5 R5 =>
        ⟨_, by omega, rfl, hlt, G5, s5, (g2.trans g3).trans t5.gg, t4.trans t5, R5, h5⟩
      have all : ∀ r : Out, PoS K xi W G H σ s (match r with | .nx s2 => forL g f (items.drop (i + 1)) s2 | .ct s2 => forL g f (items.drop (i + 1)) s2 | .bk s2 => .nx s2 | .rt v s2 => .rt v s2 | .er e s2 => .er e s2 | .no => .no) D →
          PoS K xi W G3 H3 σ4 s4 r { D with nx := fun σ' H' => ∃ m', m' < items.length - i ∧ (m' = items.length - (i + 1) ∧ i + 1 ≤ items.length ∧ ∃ G2 s2, Same G1 G2 ∧ Stp G H σ s G2 H' σ' s2 ∧ Rep K xi G2 H' σ' s2 ∧ PoS K xi W G H σ s (forL g f (items.drop (i + 1)) s2) D), ct := fun σ' H' => ∃ m', m' < items.length - i ∧ (m' = items.length - (i + 1) ∧ i + 1 ≤ items.length ∧ ∃ G2 s2, Same G1 G2 ∧ Stp G H σ s G2 H' σ' s2 ∧ Rep K xi G2 H' σ' s2 ∧ PoS K xi W G H σ s (forL g f (items.drop (i + 1)) s2) D), bk := D.nx } := fun r h => by
        cases r with
        | nx s5 => exact nxt h
        | ct s5 => exact nxt h
        | bk s5 => exact fun G5 H5 σ5 t5 R5 => h G5 H5 σ5 (t4.trans t5) R5
        | rt v s5 => exact PoS.shift (De := D) t4 h
        | er e s5 => exact PoS.shift (De := D) t4 h
        | no => exact h
      refine all _ ?_
      exact h2
  · left
    have e : i = items.length := by omega
    subst e
    refine ⟨stops rfl, ?_⟩
    rw [List.drop_length] at h2
    exact h2 G2 H2 σ2 t2 R2
end
end M
set_option Elab.async false
set_option linter.all false
set_option maxRecDepth 100000
set_option maxHeartbeats 4000000
namespace M
open PySem PySem.Spec PyProof.Rows L2 Sv
inductive Kd where
  | l | t | s
def ZV (K : PySem.W.Frag) (H : Hp) (k : Kd) (v : V) (xs : List V) : Prop := match k with
  | .l => ∃ a, v = .ref a ∧ SqL K H a xs
  | .t => ∃ a, v = .ref a ∧ SqT K H a xs
  | .s => ∃ x : Str, v = .str x ∧ xs = x.cps.toList.map fun c => V.str ⟨#[c]⟩
structure Zs (P : Program) (w : World) (K : PySem.W.Frag) (k : Kd) (v : V) (xs : List V) (it : Addr) (own : List Addr) (Si : Nat → Heap → Prop) : Prop where
  live : ∀ i h, Si i h → ∃ o, h.get? it = some o ∧ ∀ c, o.data ≠ .cell c
  frame : ∀ i h h', Si i h → (∀ o, h.get? it = some o → h'.get? it = some o) → Si i h'
  src : ∀ (X : Cx), X.prog = P → X.w = w → X.K = K → ∀ (pins : List (Addr × Obj)) (s : Shared) (σ : L2.St) (H : Hp), Inv X pins σ H s → ZV K H k v xs → ∀ (i : Nat), Si i s.heap →
    ∃ (Pt : Nat → Value → Prop) (St : Nat → Heap → Prop), (∀ A : Around, A.handled = none → Draws P w A it (it :: own) xs.length Pt St) ∧ St i s.heap ∧ (∀ j h, St j h → Si j h) ∧ ∀ j u, Pt j u → ∃ x, xs[j]? = some x ∧ RelV x u
structure ZAp (z TI TO i1 i2 : Addr) (o1 o2 : List Addr) : Prop where
  a1 : TI ≠ z
  a2 : TO ≠ z
  a3 : TI ≠ TO
  a4 : TI ≠ i1
  a5 : TI ≠ i2
  a6 : z ≠ i1
  a7 : z ≠ i2
  a8 : TO ≠ i1
  a9 : TO ≠ i2
  a10 : i1 ≠ i2
  b1 : ∀ c ∈ o1, c ≠ z ∧ c ≠ TO ∧ c ≠ i2
  b2 : ∀ c ∈ o2, c ≠ z ∧ c ≠ TO ∧ c ≠ i1
theorem ZAp.sep {z TI TO i1 i2 : Addr} {o1 o2 : List Addr} (D : ZAp z TI TO i1 i2 o1 o2) : ZipSep2 z TI TO i1 i2 (i1 :: o1) (i2 :: o2) where
  TIz := D.a1
  TOz := D.a2
  TITO := D.a3
  TIi1 := D.a4
  mem1 := List.mem_cons_self
  zf1 := fun h => (List.mem_cons.mp h).elim D.a6 fun m => (D.b1 z m).1 rfl
  Tf1 := fun h => (List.mem_cons.mp h).elim D.a8 fun m => (D.b1 TO m).2.1 rfl
  TIi2 := D.a5
  mem2 := List.mem_cons_self
  zf2 := fun h => (List.mem_cons.mp h).elim D.a7 fun m => (D.b2 z m).1 rfl
  Tf2 := fun h => (List.mem_cons.mp h).elim D.a9 fun m => (D.b2 TO m).2.1 rfl
  sep1_2 := fun h => (List.mem_cons.mp h).elim D.a10 fun m => (D.b2 i1 m).2.2 rfl
  sep2_1 := fun h => (List.mem_cons.mp h).elim (fun e => D.a10 e.symm) fun m => (D.b1 i2 m).2.2 rfl
def ItZ (K : PySem.W.Frag) (k1 k2 : Kd) (v1 v2 : V) (xs ys : List V) : It :=
  ⟨fun i H => (ZV K H k1 v1 xs ∧ ZV K H k2 v2 ys) ∧ i < min xs.length ys.length, fun i H v H' => ∃ T x y, v = .ref T ∧ H T = none ∧ H' = upd H T (.tup [x, y]) ∧ xs[i]? = some x ∧ ys[i]? = some y, fun i H => (ZV K H k1 v1 xs ∧ ZV K H k2 v2 ys) ∧ i = min xs.length ys.length⟩
theorem turn_z {P : Program} {w : World} {K : PySem.W.Frag} {elts : List Expr} {kk : Nat} {tpos : Pos} {k1 k2 : Kd} {v1 v2 : V} {xs ys : List V} {z TI TO i1 i2 : Addr} {o1 o2 : List Addr} {S1 S2 : Nat → Heap → Prop} (D : ZAp z TI TO i1 i2 o1 o2)
    (Z1 : Zs P w K k1 v1 xs i1 o1 S1) (Z2 : Zs P w K k2 v2 ys i2 o2 S2) :
    Turn P w K (.Tuple elts kk tpos) (ItZ K k1 k2 v1 v2 xs ys) [z, TI, TO, i1, i2] z (fun i h => IsZip h z TI TO .none ∧ IsTupOf2 h TI (.ref i1) (.ref i2) ∧ (∃ x y, IsTupOf2 h TO x y) ∧ S1 i h ∧ S2 i h) where
  mem := List.mem_cons_self
  obj := fun i h st c hc => by
    obtain ⟨hz, hTI, ⟨x, y, hTO⟩, t1, t2⟩ := st
    simp only [List.mem_cons, List.not_mem_nil, or_false] at hc
    rcases hc with rfl | rfl | rfl | rfl | rfl
    · exact ⟨_, hz, fun v q => nomatch q⟩
    · exact ⟨_, hTI, fun v q => nomatch q⟩
    · exact ⟨_, hTO, fun v q => nomatch q⟩
    · exact Z1.live i h t1
    · exact Z2.live i h t2
  keep := fun i h h' st k => by
    obtain ⟨hz, hTI, ⟨x, y, hTO⟩, t1, t2⟩ := st
    exact ⟨k z (by simp) _ hz, k TI (by simp) _ hTI, ⟨x, y, k TO (by simp) _ hTO⟩, Z1.frame i h h' t1 (k i1 (by simp)), Z2.frame i h h' t2 (k i2 (by simp))⟩
  item := by
    rintro X rfl rfl rfl calm i pins s σ H E I hfp ⟨hz, hTI, ⟨x0, y0, hTO⟩, t1, t2⟩ ⟨⟨g1, g2⟩, hlt⟩
    obtain ⟨Pt1, St1, D1, st1, back1, rel1⟩ := Z1.src X rfl rfl rfl pins s σ H I g1 i t1
    obtain ⟨Pt2, St2, D2, st2, back2, rel2⟩ := Z2.src X rfl rfl rfl pins s σ H I g2 i t2
    have hh := I.ok.hd calm
    refine wpAny_pyNext_zipD2_item D.sep (D1 X.A.in1 hh) (D2 X.A.in1 hh) hz hTI hTO st1 st2 (by omega) (by omega) fun u1 u2 h' tk p1 p2 c1 c2 c3 c4 c5 _ keep => ⟨_, rfl, ?_⟩
    obtain ⟨x, ex, rx⟩ := rel1 i u1 p1
    obtain ⟨y, ey, ry⟩ := rel2 i u2 p2
    refine wpAny_letOwnedTupleGo_zip (s := { s with heap := h', toks := tk }) c1 fun h2 zz same => ?_
    have lz : z < s.heap.objs.size := Heap.lt_size hz
    have lTO : TO < s.heap.objs.size := Heap.lt_size hTO
    have lTI : TI < s.heap.objs.size := Heap.lt_size hTI
    obtain ⟨oa, hoa, _⟩ := Z1.live i s.heap t1
    obtain ⟨ob, hob, _⟩ := Z2.live i s.heap t2
    have l1 : i1 < s.heap.objs.size := Heap.lt_size hoa
    have l2 : i2 < s.heap.objs.size := Heap.lt_size hob
    have tupN : h2.get? s.heap.objs.size = some { cls := .type "tuple", data := .seq #[u1, u2] } := (same.2 _ (Nat.ne_of_gt lz)).trans c5
    have new : ObjOk X.prog X.w (upd H s.heap.objs.size (.tup [x, y])) h2 s.heap.objs.size (.tup [x, y]) := ⟨by rw [sizeLine_eq]; show 2 ≤ 16777216; decide, [u1, u2], .cons rx (.cons ry .nil), ⟨_, tupN, rfl, _, rfl⟩⟩
    have stays : ∀ (b : Addr) (o : Obj), b ∉ [z, TI, TO, i1, i2] → s.heap.get? b = some o → h2.get? b = some o := fun b o hb q => by
      simp only [List.mem_cons, List.not_mem_nil, or_false, not_or] at hb
      exact (same.2 b hb.1).trans (keep b o hb.1 hb.2.2.1 hb.2.2.2.1 hb.2.2.2.2 q)
    have fr : ∀ b ∈ [z, TI, TO, i1, i2], b < s.heap.objs.size := fun b hb => by
      simp only [List.mem_cons, List.not_mem_nil, or_false] at hb
      rcases hb with rfl | rfl | rfl | rfl | rfl <;> assumption
    refine ⟨.ref s.heap.objs.size, _, I.turnedNew (t' := tk) stays hfp (Nat.le_refl _) new, rfl, ⟨_, x, y, rfl, I.hok.fresh (Nat.le_refl _), rfl, ex, ey⟩, ⟨zz, ?_, ⟨u1, u2, ?_⟩, ?_, ?_⟩, fun b hb => ?_⟩
    · exact (same.2 TI D.a1).trans (keep TI _ D.a1 D.a3 D.a4 D.a5 hTI)
    · exact (same.2 TO D.a2).trans c2
    · exact Z1.frame (i + 1) h' h2 (back1 _ _ c3) fun o q => (same.2 i1 (Ne.symm D.a6)).trans q
    · exact Z2.frame (i + 1) h' h2 (back2 _ _ c4) fun o q => (same.2 i2 (Ne.symm D.a7)).trans q
    · exact (upd_ne (Nat.ne_of_lt (fr b hb))).trans (hfp b hb).1
  done := by
    rintro X rfl rfl rfl calm i pins s σ H E I hfp ⟨hz, hTI, ⟨x0, y0, hTO⟩, t1, t2⟩ ⟨⟨g1, g2⟩, he⟩
    obtain ⟨Pt1, St1, D1, st1, back1, rel1⟩ := Z1.src X rfl rfl rfl pins s σ H I g1 i t1
    obtain ⟨Pt2, St2, D2, st2, back2, rel2⟩ := Z2.src X rfl rfl rfl pins s σ H I g2 i t2
    have hh := I.ok.hd calm
    refine wpAny_pyNext_zipD2_end D.sep (D1 X.A.in1 hh) (D2 X.A.in1 hh) hz hTI hTO st1 st2 (by omega) (by omega) (by omega) fun h' tk keep => ⟨rfl, ?_⟩
    refine I.turnedL (t' := tk) (fun b o hb q => ?_) hfp
    simp only [List.mem_cons, List.not_mem_nil, or_false, not_or] at hb
    exact keep b o hb.1 hb.2.2.1 hb.2.2.2.1 hb.2.2.2.2 q
  self := fun A i s Q E st h => wpAny_pyIter_zip st.1 h
section
variable {P : Program} {w : World} {K : PySem.W.Frag} {v : V} {xs : List V} {it : Addr}
theorem zv_src {X : Cx} {pins : List (Addr × Obj)} {σ : L2.St} {H : Hp} {s : Shared} {u : Value} {k : Kd} (I : Inv X pins σ H s) (h : ZV X.K H k v xs) (r : RelV v u) :
    ∃ (o : Obj) (Hs : Heap → Prop) (own : List Addr), Begins u o Hs ∧ Hs s.heap ∧ (∀ b ∈ own, b < s.heap.objs.size) ∧ ∀ it, s.heap.objs.size ≤ it → ∃ Si : Nat → Heap → Prop, Zs X.prog X.w X.K k v xs it own Si ∧ ∀ h', h'.get? it = some o → Si 0 h' := by
  cases k with
  | l =>
    obtain ⟨a, rfl, hq⟩ := h
    cases r
    obtain ⟨its, rv, p, _⟩ := I.list hq
    have la : a < s.heap.objs.size := by
      obtain ⟨o, n, ho, _⟩ := p
      exact Heap.lt_size ho
    refine ⟨_, _, [a], begins_list a its.toArray, p.isList, fun b hb => (List.mem_singleton.mp hb) ▸ la, fun it hit => ⟨fun i h => h.IsListIter it a i, ?_, fun h' e => ⟨_, e, rfl, rfl⟩⟩⟩
    have ne : a ≠ it := Nat.ne_of_lt (Nat.lt_of_lt_of_le la hit)
    refine ⟨fun i h st => ?_, fun i h h' st k => st.at fun o q => k o q, ?_⟩
    · obtain ⟨o, ho, _, hd⟩ := st
      exact ⟨o, ho, fun c q => by rw [hd] at q; cases q⟩
    · rintro Y e1 e2 e3 pins s2 σ2 H2 I2 ⟨b, eb, hz⟩ i st
      cases eb
      rw [← e3] at hz
      obtain ⟨its2, rv2, p2, _⟩ := I2.list hz
      have size : its2.toArray.size = xs.length := by rw [List.size_toArray, rv2.length]
      refine ⟨fun j v => its2.toArray[j]? = some v, fun j h => h.IsListIter it a j ∧ h.IsList a its2.toArray, fun A hh => size ▸ Draws.list hh it a ne its2.toArray, ⟨st, p2.isList⟩, fun j h st => st.1, fun j u q => ?_⟩
      have q' : its2[j]? = some u := by simpa using q
      have lt : j < xs.length := by rw [rv2.length]; exact (List.getElem?_eq_some_iff.mp q').1
      obtain ⟨u', hu, ru⟩ := rv2.get (i := j) (x := xs[j]) (by simp [lt])
      rw [q'] at hu
      exact ⟨xs[j], by simp [lt], by rw [Option.some.inj hu]; exact ru⟩
  | t =>
    obtain ⟨a, rfl, hq⟩ := h
    cases r
    obtain ⟨its, rv, p, _⟩ := I.tuple hq
    have la : a < s.heap.objs.size := p.lt
    refine ⟨_, _, [a], begins_tuple a its.toArray, p, fun b hb => (List.mem_singleton.mp hb) ▸ la, fun it hit => ⟨fun i h => h.IsTupleIter it a i, ?_, fun h' e => ⟨_, e, rfl, rfl⟩⟩⟩
    have ne : a ≠ it := Nat.ne_of_lt (Nat.lt_of_lt_of_le la hit)
    refine ⟨fun i h st => ?_, fun i h h' st k => st.at fun o q => k o q, ?_⟩
    · obtain ⟨o, ho, _, hd⟩ := st
      exact ⟨o, ho, fun c q => by rw [hd] at q; cases q⟩
    · rintro Y e1 e2 e3 pins s2 σ2 H2 I2 ⟨b, eb, hz⟩ i st
      cases eb
      rw [← e3] at hz
      obtain ⟨its2, rv2, p2, _⟩ := I2.tuple hz
      have size : its2.toArray.size = xs.length := by rw [List.size_toArray, rv2.length]
      refine ⟨fun j v => its2.toArray[j]? = some v, fun j h => h.IsTupleIter it a j ∧ h.IsTuple a its2.toArray, fun A hh => size ▸ Draws.tuple hh it a ne its2.toArray, ⟨st, p2⟩, fun j h st => st.1, fun j u q => ?_⟩
      have q' : its2[j]? = some u := by simpa using q
      have lt : j < xs.length := by rw [rv2.length]; exact (List.getElem?_eq_some_iff.mp q').1
      obtain ⟨u', hu, ru⟩ := rv2.get (i := j) (x := xs[j]) (by simp [lt])
      rw [q'] at hu
      exact ⟨xs[j], by simp [lt], by rw [Option.some.inj hu]; exact ru⟩
  | s =>
    obtain ⟨x, rfl, rfl⟩ := h
    obtain ⟨t, rfl⟩ := r
    refine ⟨_, _, [], begins_text x t, trivial, fun b hb => (nomatch hb), fun it hit => ⟨fun i h => h.IsStrIter it (strIterType x) x t i, ?_, fun h' e => ⟨_, e, rfl, rfl⟩⟩⟩
    refine ⟨fun i h st => ?_, fun i h h' st k => ?_, ?_⟩
    · obtain ⟨o, ho, _, hd⟩ := st
      exact ⟨o, ho, fun c q => by rw [hd] at q; cases q⟩
    · obtain ⟨o, ho, q⟩ := st
      exact ⟨o, k o ho, q⟩
    · rintro Y e1 e2 e3 pins s2 σ2 H2 I2 hz i st
      have size : (x.cps.toList.map fun c => V.str ⟨#[c]⟩).length = x.cps.size := by rw [List.length_map, Array.length_toList]
      refine ⟨_, _, fun A hh => size ▸ Draws.text hh it x t, st, fun j h st => st, fun j u q => ?_⟩
      obtain ⟨c, k, hc, rfl⟩ := q
      refine ⟨.str ⟨#[c]⟩, ?_, k, rfl⟩
      rw [List.getElem?_map, Array.getElem?_toList, hc]
      rfl
end
theorem zap_new (n : Nat) {o1 o2 : List Nat} (h1 : ∀ b ∈ o1, b < n) (h2 : ∀ b ∈ o2, b < n) : ZAp (n + 4) (n + 2) (n + 3) n (n + 1) o1 o2 :=
  ⟨(by omega : (n + 2 : Nat) ≠ n + 4), (by omega : (n + 3 : Nat) ≠ n + 4), (by omega : (n + 2 : Nat) ≠ n + 3), (by omega : (n + 2 : Nat) ≠ n), (by omega : (n + 2 : Nat) ≠ n + 1), (by omega : (n + 4 : Nat) ≠ n), (by omega : (n + 4 : Nat) ≠ n + 1), (by omega : (n + 3 : Nat) ≠ n), (by omega : (n + 3 : Nat) ≠ n + 1), (by omega : (n : Nat) ≠ n + 1),
    fun c hc => ⟨Nat.ne_of_lt (by have := h1 c hc; omega), Nat.ne_of_lt (by have := h1 c hc; omega), Nat.ne_of_lt (by have := h1 c hc; omega)⟩, fun c hc => ⟨Nat.ne_of_lt (by have := h2 c hc; omega), Nat.ne_of_lt (by have := h2 c hc; omega), Nat.ne_of_lt (by have := h2 c hc; omega)⟩⟩
section
variable {X : Cx} {e e2 : Expr} {ta : TA} {p pos tpos : Pos} {elts : List Expr} {kk : Nat}
def iZipU (K : PySem.W.Frag) (ta : TA) : TI := fun σ H R => ta σ H fun vs H1 => ∃ (k1 k2 : Kd) (v1 v2 : V) (xs ys : List V), vs = [v1, v2] ∧ ZV K H1 k1 v1 xs ∧ ZV K H1 k2 v2 ys ∧ R (ItZ K k1 k2 v1 v2 xs ys) H1
theorem pi_zipU (hg : Gl X "zip") (hm : X.mg "zip" = none) (ha : PA X [e, e2] ta) (hs : starEach [e, e2] X.env = (false, eval e X.env) :: starEach [e2] X.env := by rfl) (hpl : (backTo pos (starEach [e2] X.env)).any (·.1) = false := by rfl) :
    PI X (.Tuple elts kk tpos) (.Call (.Name "zip" p) [e, e2] [] pos) (iZipU X.K ta) := by
  refine ⟨fun pins s σ H R I h => ?_⟩
  refine Call_ (ld_blt I hg hm boot_zip (PyProof.Rows.callWith_type1 (thn (ha.run pos pins s σ H _ I h) fun us s1 ⟨vs, H1, I1, r1, k1, k2, v1, v2, xs, ys, ev, z1, z2, q⟩ => ?_) hs hpl))
  subst ev
  cases r1 with
  | cons ra rr =>
    cases rr with
    | cons rb rr =>
      cases rr
      obtain ⟨o1, Hs1, w1, B1, b1, lt1, S1⟩ := zv_src I1 z1 ra
      obtain ⟨o2, Hs2, w2, B2, b2, lt2, S2⟩ := zv_src I1 z2 rb
      obtain ⟨Si1, Z1, st1⟩ := S1 s1.heap.objs.size (Nat.le_refl _)
      obtain ⟨Si2, Z2, st2⟩ := S2 (s1.heap.objs.size + 1) (Nat.le_succ _)
      refine zip_begins2 B1 B2 b1 b2 fun h' hz hTI hTO g1 g2 _ keep => wpAny_pyIter_zip hz ?_
      have D : ZAp (s1.heap.objs.size + 4) (s1.heap.objs.size + 2) (s1.heap.objs.size + 3) s1.heap.objs.size (s1.heap.objs.size + 1) w1 w2 := zap_new _ lt1 lt2
      refine ⟨_, _, _, _, H1, rfl, I1.kept (t' := s1.toks) keep, turn_z D Z1 Z2, ⟨hz, hTI, ⟨_, _, hTO⟩, st1 h' g1, st2 h' g2⟩, fun b hb => ?_, q⟩
      have ge : s1.heap.objs.size ≤ b := by
        simp only [List.mem_cons, List.not_mem_nil, or_false] at hb
        rcases hb with rfl | rfl | rfl | rfl | rfl <;> omega
      exact I1.fpOk ge (I1.hok.fresh ge)
end
end M
set_option Elab.async false
set_option linter.all false
set_option maxRecDepth 100000
set_option maxHeartbeats 4000000
namespace M
open PySem PySem.Spec PyProof.Rows L2 Sv
variable [Wd]
theorem PI.mono {X : Cx} {tg e : Expr} {t t' : TI} (h : PI X tg e t) (k : ∀ σ H R, t' σ H R → t σ H R) : PI X tg e t' := ⟨fun pins s σ H R I w => h.run pins s σ H R I (k σ H R w)⟩
theorem PI.or {X : Cx} {tg e : Expr} {t t' : TI} (h : PI X tg e t) (h' : PI X tg e t') : PI X tg e (fun σ H R => t σ H R ∨ t' σ H R) := ⟨fun pins s σ H R I w => w.elim (h.run pins s σ H R I) (h'.run pins s σ H R I)⟩
def itemsD : D → Option (List D)
  | .list ds => some ds
  | .tuple ds => some ds
  | .str z => some ((Sv.signs z).map .str)
  | _ => none
def optI (s : S) : Option (List D) → ER (List D)
  | some ds => .ok ds s
  | none => .no
def its1 (s : S) : Vl → ER (List D)
  | .d x => optI s (itemsD x)
  | .s ns => .ok (ns.map .int) s
  | _ => .no
def seqI (fa : S → ER Vl) : S → ER (List D) := fun s => (fa s).bind fun a s1 => its1 s1 a
def rngL (lo : Int) (n : Nat) : List D := (List.range n).map fun i => .int (lo + (i : Nat))
def smI (j : Int) : Bool := decide (j.natAbs < 1073741824)
theorem smI_ok {j : Int} (h : smI j = true) : -(2 ^ 62) ≤ j ∧ j < 2 ^ 62 := by
  have := of_decide_eq_true h
  constructor <;> omega
def rng1I (fa : S → ER (List Vl)) : S → ER (List D) := fun s => (fa s).bind fun vs s1 => match rdAll s1 vs with
  | some [.int j] => if smI j = true then .ok (rngL 0 j.toNat) s1 else .no
  | _ => .no
def rng2I (fa : S → ER (List Vl)) : S → ER (List D) := fun s => (fa s).bind fun vs s1 => match rdAll s1 vs with
  | some [.int i, .int j] => if smI i = true ∧ smI j = true then .ok (rngL i (j - i).toNat) s1 else .no
  | _ => .no
def enumL : Nat → List D → List D
  | _, [] => []
  | k, x :: r => .tuple [.int (k : Nat), x] :: enumL (k + 1) r
def enI (fa : S → ER (List Vl)) : S → ER (List D) := fun s => (fa s).bind fun vs s1 => match vs with
  | [.d x] => optI s1 ((itemsD x).map (enumL 0))
  | _ => .no
def zipL : List D → List D → List D
  | x :: xs, y :: ys => .tuple [x, y] :: zipL xs ys
  | _, _ => []
def zip2 (s : S) (x y : D) : ER (List D) := match itemsD x with
  | some xs => optI s ((itemsD y).map (zipL xs))
  | none => .no
def zipI (fa : S → ER (List Vl)) : S → ER (List D) := fun s => (fa s).bind fun vs s1 => match vs with
  | [.d x, .d y] => zip2 s1 x y
  | _ => .no
theorem zipL_at : ∀ {xs ys : List D} {i : Nat} {x : D}, (zipL xs ys)[i]? = some x → ∃ a b, xs[i]? = some a ∧ ys[i]? = some b ∧ x = .tuple [a, b]
  | [], _, _, _, h => by simp [zipL] at h
  | _ :: _, [], _, _, h => by simp [zipL] at h
  | a :: xs, b :: ys, 0, x, h => by
    simp [zipL] at h
    exact ⟨a, b, rfl, rfl, h.symm⟩
  | a :: xs, b :: ys, i + 1, x, h => by
    have h : (zipL xs ys)[i]? = some x := by simpa [zipL] using h
    obtain ⟨c, d, h1, h2, h3⟩ := zipL_at h
    exact ⟨c, d, by simpa using h1, by simpa using h2, h3⟩
theorem zipL_len : ∀ (xs ys : List D), (zipL xs ys).length = min xs.length ys.length
  | [], ys => by cases ys <;> simp [zipL]
  | _ :: _, [] => by simp [zipL]
  | a :: xs, b :: ys => by rw [zipL, List.length_cons, List.length_cons, List.length_cons, zipL_len xs ys]; omega
section
variable {X : Cx} {K : PySem.W.Frag} {xi : XI} {W : WX} {G H G' H' G1 H1 G0 H0 : Hp} {σ σ' σ1 σ0 : Ss} {s s' s1 s0 : S} {e e2 o tg iter elt : Expr} {es elts : List Expr} {fa fb : S → ER Vl} {fr : S → ER (List Vl)} {fi : S → ER (List PyData)} {pos p tpos : Pos} {i kk : Nat}
theorem iter_walk {J : It} {items : List PyData} {n : Nat} (hn : items.length = n) {Gd : Hp → Prop} {Y : Nat → Hp → V → Hp → Prop} (w : Walk J n Gd Y) (hg : ∀ G2 H2, Same G G2 → Same G2 H2 → Gd H2)
    (hy : ∀ i x G2 H2 v H3, items[i]? = some x → Same G G2 → Same G2 H2 → Y i H2 v H3 → ∃ G3, Same G2 G3 ∧ Same G3 H3 ∧ Same H2 H3 ∧ (∀ b, G2 b = none → H2 b ≠ none → G3 b = none) ∧ Rp K G3 v x) : IterOk K G J items := by
  intro i G2 H2 g1 g2
  refine ⟨fun x hx => ?_, fun e => ?_⟩
  · have hi : i < n := by rw [← hn]; exact (List.getElem?_eq_some_iff.mp hx).1
    exact ⟨w.goes i H2 hi (hg G2 H2 g1 g2), fun v H3 y => hy i x G2 H2 v H3 hx g1 g2 (w.yields i H2 v H3 hi (hg G2 H2 g1 g2) y)⟩
  · rw [e, hn]
    exact w.stops H2 (hg G2 H2 g1 g2)
theorem still_turn {G2 H2 : Hp} {v : V} {x : D} (g : Same G2 H2) (r : Rp K G2 v x) : ∃ G3, Same G2 G3 ∧ Same G3 H2 ∧ Same H2 H2 ∧ (∀ b, G2 b = none → H2 b ≠ none → G3 b = none) ∧ Rp K G3 v x := ⟨G2, Same.refl _, g, Same.refl _, fun _ h _ => h, r⟩
theorem iter_list {a : Addr} {vs : List V} {ds : List D} (h : SqL K G a vs) (ha : RpAll K G vs ds) : IterOk K G (Itl K a) ds :=
  iter_walk (n := vs.length) ha.len.symm walk_list (fun G2 H2 g1 g2 => same_l (g1.trans g2) h) fun i x G2 H2 v H3 hx g1 g2 y => by
    obtain ⟨rfl, hv⟩ := y
    obtain ⟨v', e1, r⟩ := ha.at hx
    rw [hv] at e1
    cases e1
    exact still_turn g2 (Rp.same g1 r)
theorem iter_tup {a : Addr} {vs : List V} {ds : List D} (h : SqT K G a vs) (ha : RpAll K G vs ds) : IterOk K G (Itt K a) ds :=
  iter_walk (n := vs.length) ha.len.symm walk_tup (fun G2 H2 g1 g2 => same_t (g1.trans g2) h) fun i x G2 H2 v H3 hx g1 g2 y => by
    obtain ⟨rfl, hv⟩ := y
    obtain ⟨v', e1, r⟩ := ha.at hx
    rw [hv] at e1
    cases e1
    exact still_turn g2 (Rp.same g1 r)
theorem one_le : (tx [c]).length ≤ sizeLine := by rw [tx_len, sizeLine_eq]; exact (by decide : 1 ≤ 16777216)
theorem iter_str {z : Str} : IterOk K G (Its z) ((Sv.signs z).map .str) :=
  iter_walk (n := z.cps.size) (by rw [List.length_map, signs_len]) walk_str (fun _ _ _ _ => trivial) fun i x G2 H2 v H3 hx g1 g2 y => by
    obtain ⟨rfl, c, hc, rfl⟩ := y
    refine still_turn g2 ?_
    have e : x = .str (tx [c]) := by
      rw [Sv.signs_map, List.map_map, List.getElem?_map, Array.getElem?_toList, hc] at hx
      exact (Option.some.inj hx).symm
    subst e
    exact .str one_le
theorem iter_range {lo : Int} {n : Nat} : IterOk K G (Itr lo n) (rngL lo n) :=
  iter_walk (n := n) (by unfold rngL; simp) walk_range (fun _ _ _ _ => trivial) fun i x G2 H2 v H3 hx g1 g2 y => by
    obtain ⟨rfl, rfl⟩ := y
    refine still_turn g2 ?_
    unfold rngL at hx
    rw [List.getElem?_map] at hx
    have hi : i < n := by
      rcases Nat.lt_or_ge i n with z | z
      · exact z
      · rw [List.getElem?_eq_none (by simpa using z)] at hx; cases hx
    rw [List.getElem?_range hi] at hx
    cases hx
    exact .int _
theorem ri_seq (ha : PE X iter (tE K xi W fa)) (hK : X.K = K := by rfl) : PI X tg iter (tI K xi W (seqI fa)) := by
  subst hK
  refine PI.mono (PI.or (pi_list ha) (PI.or (pi_tup ha) (pi_str ha))) fun σ H Q h => ?_
  obtain ⟨G, s, R, h⟩ := h
  cases q : fa s with
  | no => rw [show seqI fa s = ER.no from by unfold seqI; rw [q]; rfl] at h; exact h.elim
  | er e s1 =>
    rw [show seqI fa s = ER.er e s1 from by unfold seqI; rw [q]; rfl] at h
    exact .inl ⟨G, s, R, by rw [q]; exact h⟩
  | ok va s1 =>
    have h : Po X.K xi W (rI X.K) G H σ s (its1 s1 va) Q := by
      have e : seqI fa s = its1 s1 va := by unfold seqI; rw [q]; rfl
      rw [← e]; exact h
    cases va with
    | d x =>
      cases x with
      | list ds =>
        refine .inl ⟨G, s, R, ?_⟩
        rw [q]
        intro v G1 H1 t1 R1 r
        have r : Rp X.K G1 v (.list ds) := r
        cases r with
        | lst w1 w2 => exact ⟨_, rfl, ⟨_, .inl (.inl (R1.gh _ _ w1))⟩, h _ G1 H1 t1 R1 (iter_list (.inl (.inl w1)) w2)⟩
      | tuple ds =>
        refine .inr (.inl ⟨G, s, R, ?_⟩)
        rw [q]
        intro v G1 H1 t1 R1 r
        have r : Rp X.K G1 v (.tuple ds) := r
        cases r with
        | tup w1 w2 => exact ⟨_, rfl, ⟨_, same_t R1.gh w1⟩, h _ G1 H1 t1 R1 (iter_tup w1 w2)⟩
      | str z =>
        refine .inr (.inr ⟨G, s, R, ?_⟩)
        rw [q]
        intro v G1 H1 t1 R1 r
        have r : Rp X.K G1 v (.str z) := r
        cases r with
        | str w1 => exact ⟨_, rfl, h _ G1 H1 t1 R1 iter_str⟩
      | none => exact h.elim
      | bool b => exact h.elim
      | int b => exact h.elim
      | dict b => exact h.elim
    | s ns =>
      refine .inl ⟨G, s, R, ?_⟩
      rw [q]
      intro v G1 H1 t1 R1 r
      obtain ⟨a, rfl, hs⟩ := r
      refine ⟨a, rfl, ⟨_, same_l R1.gh hs⟩, h _ G1 H1 t1 R1 (iter_list hs ?_)⟩
      have : ∀ ns : List Int, RpAll X.K G1 (ns.map V.int) (ns.map PyData.int) := fun ns => by
        induction ns with
        | nil => exact .nil
        | cons n ns ih => exact .cons (.int n) ih
      exact this ns
    | z zp => exact h.elim
    | o f b => exact h.elim
    | r i => exact h.elim
    | x e => exact h.elim
theorem ri_rng1 {a : Expr} (hg : Gl X "range") (hm : X.mg "range" = none) (ha : PA X [a] (tA K xi W fr)) (hs : starEach [a] X.env = [(false, eval a X.env)] := by rfl) : PI X tg (.Call (.Name "range" p) [a] [] pos) (tI K xi W (rng1I fr)) := by
  refine PI.mono (pi_range1 hg hm ha hs) fun σ H Q h => ?_
  obtain ⟨G, s, R, h⟩ := h
  refine ⟨G, s, R, Po.bind h backs_I fun va s1 _ xs G1 H1 t1 R1 ra h1 => ?_⟩
  split at h1
  · rename_i j e
    split at h1
    · rename_i c
      obtain ⟨v, rfl, r⟩ := (rdAll_ok R1 ra.all e).one
      cases r
      exact ⟨j, rfl, (smI_ok c).1, (smI_ok c).2, h1 _ G1 H1 .refl R1 iter_range⟩
    · exact h1.elim
  · exact h1.elim
theorem pair_turn {G2 H2 H3 : Hp} {T : Addr} {u v : V} {x y : D} (g : Same G2 H2) (hT : H2 T = none) (e : H3 = upd H2 T (.tup [u, v])) (r1 : Rp K G2 u x) (r2 : Rp K G2 v y) :
    ∃ G3, Same G2 G3 ∧ Same G3 H3 ∧ Same H2 H3 ∧ (∀ b, G2 b = none → H2 b ≠ none → G3 b = none) ∧ Rp K G3 (.ref T) (.tuple [x, y]) := by
  subst e
  have gT : G2 T = none := by
    cases q : G2 T with
    | none => rfl
    | some o => rw [g T o q] at hT; cases hT
  refine ⟨upd G2 T (.tup [u, v]), Same.new gT, Same.both g, Same.new hT, fun b h1 h2 => ?_, .tup (.inl (.inl upd_same)) (.cons (Rp.same (Same.new gT) r1) (.cons (Rp.same (Same.new gT) r2) .nil))⟩
  rw [upd_ne (fun e => h2 (by rw [e]; exact hT))]
  exact h1
theorem zv_of {v : V} {x : D} {ds : List D} (r : Rp K G v x) (e : itemsD x = some ds) : ∃ (k : Kd) (vs : List V), RpAll K G vs ds ∧ ∀ H2, Same G H2 → ZV K H2 k v vs := by
  cases r with
  | @lst a vs _ w1 w2 => cases e; exact ⟨.l, vs, w2, fun H2 g => ⟨a, rfl, .inl (.inl (g _ _ w1))⟩⟩
  | @tup a vs _ w1 w2 => cases e; exact ⟨.t, vs, w2, fun H2 g => ⟨a, rfl, same_t g w1⟩⟩
  | @str z hz =>
    cases e
    refine ⟨.s, z.cps.toList.map fun c => V.str ⟨#[c]⟩, ?_, fun H2 g => ⟨z, rfl, rfl⟩⟩
    have := rp_strs (K := K) (G := G) (ys := Sv.signs z) fun y m => by
      obtain ⟨c, _, rfl⟩ := List.mem_map.mp m
      exact one_le
    rw [Sv.signs_map, List.map_map] at this
    rw [Sv.signs_map]
    exact this
  | _ => cases e
theorem ri_zip (hg : Gl X "zip") (hm : X.mg "zip" = none) (ha : PA X [e, e2] (tA K xi W fr)) (hK : X.K = K := by rfl) (hs : starEach [e, e2] X.env = (false, eval e X.env) :: starEach [e2] X.env := by rfl) (hpl : (backTo pos (starEach [e2] X.env)).any (·.1) = false := by rfl) :
    PI X (.Tuple elts kk tpos) (.Call (.Name "zip" p) [e, e2] [] pos) (tI K xi W (zipI fr)) := by
  subst hK
  refine PI.mono (pi_zipU hg hm ha hs hpl) fun σ H Q h => ?_
  obtain ⟨G, s, R, h⟩ := h
  refine ⟨G, s, R, Po.bind h backs_I fun va s1 _ xs G1 H1 t1 R1 ra h1 => ?_⟩
  split at h1
  · rename_i x y _
    obtain ⟨all, _⟩ := ra
    cases all with
    | @cons v1 _ _ _ r1 all =>
      cases all with
      | @cons v2 _ _ _ r2 all =>
        cases all
        have r1 : Rp X.K G1 v1 x := r1
        have r2 : Rp X.K G1 v2 y := r2
        unfold zip2 at h1
        cases ex : itemsD x with
        | none => rw [ex] at h1; exact h1.elim
        | some ds =>
          rw [ex] at h1
          cases ey : itemsD y with
          | none => rw [ey] at h1; exact h1.elim
          | some es =>
            rw [ey] at h1
            have h1 : Po X.K xi W (rI X.K) G1 H1 σ s1 (.ok (zipL ds es) s1) Q := h1
            obtain ⟨k1, us1, a1, z1⟩ := zv_of r1 ex
            obtain ⟨k2, us2, a2, z2⟩ := zv_of r2 ey
            refine ⟨k1, k2, v1, v2, us1, us2, rfl, z1 H1 R1.gh, z2 H1 R1.gh, h1 _ G1 H1 .refl R1 ?_⟩
            intro i G2 H2 g1 g2
            have zz : ZV X.K H2 k1 v1 us1 ∧ ZV X.K H2 k2 v2 us2 := ⟨z1 H2 (g1.trans g2), z2 H2 (g1.trans g2)⟩
            have ln : (zipL ds es).length = min us1.length us2.length := by rw [zipL_len, a1.len, a2.len]
            refine ⟨fun x hx => ⟨⟨zz, by rw [← ln]; exact (List.getElem?_eq_some_iff.mp hx).1⟩, fun v H3 y => ?_⟩, fun e => ⟨zz, by rw [e, ln]⟩⟩
            obtain ⟨T, u, w, rfl, hT, eH, hu, hw⟩ := y
            obtain ⟨a, b, ha, hb, rfl⟩ := zipL_at hx
            obtain ⟨u', q1, ru⟩ := a1.at ha
            obtain ⟨w', q2, rw_⟩ := a2.at hb
            rw [hu] at q1
            rw [hw] at q2
            cases q1
            cases q2
            exact pair_turn g2 hT eH (Rp.same g1 ru) (Rp.same g1 rw_)
  · exact h1.elim
end
end M
set_option Elab.async false
set_option linter.all false
set_option maxRecDepth 100000
set_option maxHeartbeats 4000000
namespace M
open PySem PySem.Spec PyProof.Rows L2 Sv
variable [Wd]
def wipeS (s : S) : List Nat → S
  | [] => s
  | v :: vs => (wipeS s vs).set v none
def restS (s s' : S) : List Nat → S
  | [] => s'
  | v :: vs => (restS s s' vs).set v (s.getD v none)
def plainO : Option (Option Vl) → Bool
  | some (some (.o _ _)) => false
  | some _ => true
  | none => false
def plainAt (s : S) (v : Nat) : Bool := plainO s[v]?
theorem wipeS_len (s : S) : ∀ vs, (wipeS s vs).length = s.length
  | [] => rfl
  | v :: vs => by rw [wipeS, List.length_set, wipeS_len s vs]
theorem restS_len (s s' : S) : ∀ vs, (restS s s' vs).length = s'.length
  | [] => rfl
  | v :: vs => by rw [restS, List.length_set, restS_len s s' vs]
theorem wipeS_off {s : S} {j : Nat} : ∀ {vs : List Nat}, j ∉ vs → (wipeS s vs)[j]? = s[j]?
  | [], _ => rfl
  | v :: vs, h => by
    rw [wipeS, List.getElem?_set_ne (fun e => h (by rw [← e]; exact List.mem_cons_self)), wipeS_off fun m => h (List.mem_cons_of_mem _ m)]
theorem wipe_off {s : Ss} {j : Nat} : ∀ {vs : List Nat}, j ∉ vs → (wipe s vs)[j]? = s[j]?
  | [], _ => rfl
  | v :: vs, h => by
    rw [wipe, List.getElem?_set_ne (fun e => h (by rw [← e]; exact List.mem_cons_self)), wipe_off fun m => h (List.mem_cons_of_mem _ m)]
theorem wipeS_on {s : S} {j : Nat} {u : Vl} : ∀ {vs : List Nat}, j ∈ vs → (wipeS s vs)[j]? ≠ some (some u)
  | v :: vs, h => fun e => by
    rw [wipeS] at e
    by_cases c : v = j
    · subst c
      rw [List.getElem?_set] at e
      split at e
      · split at e <;> cases e
      · contradiction
    · rw [List.getElem?_set_ne c] at e
      rcases List.mem_cons.mp h with z | z
      · exact c z.symm
      · exact wipeS_on z e
theorem restS_off {s s' : S} {j : Nat} : ∀ {vs : List Nat}, j ∉ vs → (restS s s' vs)[j]? = s'[j]?
  | [], _ => rfl
  | v :: vs, h => by
    rw [restS, List.getElem?_set_ne (fun e => h (by rw [← e]; exact List.mem_cons_self)), restS_off fun m => h (List.mem_cons_of_mem _ m)]
theorem restS_on {s s' : S} {j : Nat} (hl : s'.length = s.length) : ∀ {vs : List Nat}, j ∈ vs → (restS s s' vs)[j]? = s[j]?
  | v :: vs, h => by
    rw [restS]
    by_cases c : v = j
    · subst c
      rw [List.getElem?_set]
      simp only [if_true, restS_len, hl]
      split
      · rename_i lt
        rw [List.getD_eq_getElem?_getD, List.getElem?_eq_getElem lt]
        rfl
      · rename_i lt
        rw [List.getElem?_eq_none (by omega)]
    · rw [List.getElem?_set_ne c]
      rcases List.mem_cons.mp h with z | z
      · exact absurd z.symm c
      · exact restS_on hl z
theorem wipe_same {a b : Ss} : ∀ {vs : List Nat}, a.length = b.length → (∀ j, j ∉ vs → a[j]? = b[j]?) → wipe a vs = wipe b vs := fun {vs} hl h => by
  apply List.ext_getElem?
  intro j
  by_cases m : j ∈ vs
  · have on : ∀ {c : Ss} {ws : List Nat}, j ∈ ws → (wipe c ws)[j]? = if j < c.length then some none else none := fun {c ws} => by
      induction ws with
      | nil => intro h; cases h
      | cons v ws ih =>
        intro h
        rw [wipe]
        by_cases e : v = j
        · subst e
          rw [List.getElem?_set]
          simp only [if_true, wipe_length]
        · rw [List.getElem?_set_ne e]
          rcases List.mem_cons.mp h with z | z
          · exact absurd z.symm e
          · exact ih z
    rw [on m, on m, hl]
  · rw [wipe_off m, wipe_off m]
    exact h j m
def lcL (g : Tg) (c : S → ER Bool) (e : S → ER Vl) (vs : List Nat) : List D → List D → S → ER Vl
  | [], acc, s => .ok (.o true (.L acc)) s
  | d :: ds, acc, s => match g d (wipeS s vs) with
    | none => .no
    | some s1 => match c s1 with
      | .ok true s2 => (match e s2 with
        | .ok (.d x) s3 => if acc.length < 16777216 then lcL g c e vs ds (acc ++ [x]) (restS s s3 vs) else .no
        | _ => .no)
      | .ok false s2 => lcL g c e vs ds acc (restS s s2 vs)
      | _ => .no
def lcE (it : S → ER (List D)) (g : Tg) (c : S → ER Bool) (e : S → ER Vl) (vs : List Nat) : S → ER Vl := fun s => (it s).bind fun ds s1 => if vs.all (plainAt s1) = true then lcL g c e vs ds [] s1 else .no
def yesT : S → ER Bool := fun s => .ok true s
section
variable {X : Cx} {K : PySem.W.Frag} {xi : XI} {W : WX} {G H G' H' G1 H1 G0 H0 G2 H2 : Hp} {σ σ' σ1 σ0 σ2 : Ss} {s s' s1 s0 s2 s3 : S} {e o tg iter elt : Expr} {es : List Expr} {fa fe : S → ER Vl} {fc : S → ER Bool} {fi : S → ER (List PyData)} {g : Tg} {pos p : Pos} {i : Nat} {sl vs : List Nat}
theorem plain_no {j : Nat} (h : vs.all (plainAt s) = true) (m : j ∈ vs) {f : Bool} {b : Ob} : s[j]? ≠ some (some (.o f b)) := fun e => by
  have := List.all_eq_true.mp h j m
  unfold plainAt at this
  rw [e] at this
  cases this
theorem own_wipe {f : Bool} {p : Addr} (h : vs.all (plainAt s) = true) : Own σ s f p ↔ Own (wipe σ vs) (wipeS s vs) f p := by
  refine ⟨fun ⟨j, b, h1, h2⟩ => ?_, fun ⟨j, b, h1, h2⟩ => ?_⟩
  · have m : j ∉ vs := fun m => plain_no h m h1
    exact ⟨j, b, by rw [wipeS_off m]; exact h1, by rw [wipe_off m]; exact h2⟩
  · have m : j ∉ vs := fun m => wipeS_on m h1
    rw [wipeS_off m] at h1
    rw [wipe_off m] at h2
    exact ⟨j, b, h1, h2⟩
theorem rep_wipe (R : Rep K xi G H σ s) : Rep K xi G H (wipe σ vs) (wipeS s vs) := by
  have sub : ∀ {j : Nat} {u : Vl}, (wipeS s vs)[j]? = some (some u) → j ∉ vs ∧ s[j]? = some (some u) := fun {j u} h => by
    have m : j ∉ vs := fun m => wipeS_on m h
    rw [wipeS_off m] at h
    exact ⟨m, h⟩
  refine ⟨by rw [wipeS_len, wipe_length]; exact R.len, R.gh, fun j u h => ?_, fun j k f g b c p h1 h2 h3 h4 => ?_⟩
  · obtain ⟨m, h⟩ := sub h
    obtain ⟨v, e, w⟩ := R.sl j u h
    exact ⟨v, by rw [wipe_off m]; exact e, w⟩
  · obtain ⟨m1, h1⟩ := sub h1
    obtain ⟨m2, h2⟩ := sub h2
    rw [wipe_off m1] at h3
    rw [wipe_off m2] at h4
    exact R.ap j k f g b c p h1 h2 h3 h4
theorem stp_out (h : vs.all (plainAt s) = true) (hl : s1.length = s.length) (off : ∀ j, j ∉ vs → σ1[j]? = (wipe σ vs)[j]?) (t : Stp G H (wipe σ vs) (wipeS s vs) G1 H1 σ1 s1) : Stp G H σ s G1 H1 σ (restS s s1 vs) := by
  refine ⟨t.gg, fun b o q n => t.fr b o q fun f w => n f ((own_wipe h).mpr w), t.lv, fun b h1 h2 h3 => (own_wipe h).mpr (t.gn b h1 h2 h3), fun f p ⟨j, b, h1, h2⟩ => ?_, fun j b h1 => ?_⟩
  · by_cases m : j ∈ vs
    · rw [restS_on hl m] at h1
      exact absurd h1 (plain_no h m)
    · rw [restS_off m] at h1
      rcases t.ow f p ⟨j, b, h1, by rw [off j m, wipe_off m]; exact h2⟩ with z | z
      · exact .inl z
      · exact .inr ((own_wipe h).mpr z)
  · have m : j ∉ vs := fun m => plain_no h m h1
    obtain ⟨_, b', e⟩ := t.io j b (by rw [wipeS_off m]; exact h1)
    exact ⟨rfl, b', by rw [restS_off m]; exact e⟩
theorem rep_out (R : Rep K xi G H σ s) (h : vs.all (plainAt s) = true) (off : ∀ j, j ∉ vs → σ1[j]? = (wipe σ vs)[j]?) (hs : σ1.length = σ.length) (t : Stp G H (wipe σ vs) (wipeS s vs) G1 H1 σ1 s1) (R1 : Rep K xi G1 H1 σ1 s1) : Rep K xi G1 H1 σ (restS s s1 vs) := by
  have hl : s1.length = s.length := by rw [R1.len, R.len, hs]
  refine ⟨by rw [restS_len, hl]; exact R.len, R1.gh, fun j u q => ?_, fun j k f g b c p h1 h2 h3 h4 => ?_⟩
  · by_cases m : j ∈ vs
    · rw [restS_on hl m] at q
      obtain ⟨v, e, w⟩ := R.sl j u q
      refine ⟨v, e, ?_⟩
      cases u with
      | d x => exact Rp.same t.gg w
      | o f b => exact absurd q (plain_no h m)
      | r k => exact w
      | x y =>
        obtain ⟨a, cls, d, z1, z2, z3, z4⟩ := w
        refine ⟨a, cls, d, z1, z2, z3, fun nm n e => ?_⟩
        obtain ⟨dd, q1, q2⟩ := z4 nm n e
        refine ⟨dd, q1, t.fr _ _ q2 fun f w => ?_⟩
        obtain ⟨_, b, z⟩ := R.own ((own_wipe h).mpr w)
        exact z.noxd q2
      | s ns =>
        obtain ⟨a, e, w⟩ := w
        exact ⟨a, e, same_l t.gg w⟩
      | z zp => exact ZR.same w t.gg
    · rw [restS_off m] at q
      obtain ⟨v, e, w⟩ := R1.sl j u q
      exact ⟨v, by rw [off j m, wipe_off m] at e; exact e, w⟩
  · have nin : ∀ {j : Nat} {f : Bool} {b : Ob}, (restS s s1 vs)[j]? = some (some (.o f b)) → j ∉ vs := fun {j f b} q m => by
      rw [restS_on hl m] at q
      exact plain_no h m q
    have m1 := nin h1
    have m2 := nin h2
    rw [restS_off m1] at h1
    rw [restS_off m2] at h2
    exact R1.ap j k f g b c p h1 h2 (by rw [off j m1, wipe_off m1]; exact h3) (by rw [off k m2, wipe_off m2]; exact h4)
theorem stp_hid {A : Addr} {ob : HO} (t : Stp G0 H0 σ0 s0 G H σ s) (h : H0 A = none) : Stp G0 H0 σ0 s0 G (upd H A ob) σ s := by
  refine ⟨t.gg, fun b o q n => ?_, fun b q => ?_, t.gn, t.ow, t.io⟩
  · rw [upd_ne (fun e => by rw [e, h] at q; cases q)]
    exact t.fr b o q n
  · by_cases e : b = A
    · subst e; rw [upd_same]; exact fun z => nomatch z
    · rw [upd_ne e]; exact t.lv b q
theorem rep_hid {A : Addr} {us ws : List V} (R : Rep K xi G H σ s) (h : H A = some (.lst us)) (g : G A = none) (n : ∀ f, ¬ Own σ s f A) : Rep K xi G (upd H A (.lst ws)) σ s := by
  refine ⟨R.len, Same.upd2 R.gh g, fun j u q => ?_, R.ap⟩
  obtain ⟨v, e, w⟩ := R.sl j u q
  refine ⟨v, e, ?_⟩
  cases u with
  | d x => exact w
  | o f b =>
    obtain ⟨p, rfl, w1, w2⟩ := w
    exact ⟨p, rfl, w1, w2.mono (Same.refl _) (upd_ne fun e2 => n f ⟨j, b, q, by rw [e, e2]⟩)⟩
  | r k => exact w
  | x y =>
    obtain ⟨a, cls, d, z1, z2, z3, z4⟩ := w
    refine ⟨a, cls, d, z1, z2, z3, fun nm n e => ?_⟩
    obtain ⟨dd, q1, q2⟩ := z4 nm n e
    refine ⟨dd, q1, ?_⟩
    rw [upd_ne (fun e2 => by rw [e2, h] at q2; cases q2)]
    exact q2
  | s ns => exact w
  | z zp => exact w
theorem plain_rest (h : vs.all (plainAt s) = true) (hl : s1.length = s.length) : vs.all (plainAt (restS s s1 vs)) = true := by
  refine List.all_eq_true.mpr fun j m => ?_
  have := List.all_eq_true.mp h j m
  unfold plainAt at this ⊢
  rw [restS_on hl m]
  exact this
theorem lc_lift {Q : VK} (hsl : ∀ j ∈ sl, j ∈ vs) (h : tE K xi W (lcE fi g fc fe vs) σ H Q) : tLc (tI K xi W fi) (tG K xi sl g) (tT K xi (fun _ _ _ _ => False) fc) (tE K xi (fun _ _ _ _ => False) fe) vs σ H Q := by
  obtain ⟨G, s, R, h⟩ := h
  refine ⟨G, s, R, Po.bindU .refl h fun items s1 _ J G1 H1 t1 R1 okI h1 => ?_⟩
  have okI : IterOk K G1 J items := okI
  split at h1
  · rename_i pl
    intro A hA
    have gA : G1 A = none := R1.free hA
    have h0A : H A = none := by
      cases q : H A with
      | none => rfl
      | some o => exact absurd hA (t1.lv A (ne_none q))
    refine ⟨fun i m H2 => m = items.length - i ∧ i ≤ items.length ∧ ∃ G2 s2 us acc, Same G1 G2 ∧ Stp G H σ s G2 H2 σ s2 ∧ Rep K xi G2 H2 σ s2 ∧ H2 A = some (.lst us) ∧ RpAll K G2 us acc ∧ G2 A = none ∧ (∀ f, ¬ Own σ s2 f A) ∧ vs.all (plainAt s2) = true ∧ Po K xi W (VR K xi) G H σ s (lcL g fc fe vs (items.drop i) acc s2) Q,
      ⟨_, rfl, Nat.zero_le _, G1, s1, [], [], Same.refl _, stp_hid t1 h0A, ?_, upd_same, .nil, gA, fun f w => R1.noOwn hA f w, pl, h1⟩, ?_⟩
    · exact rep_new R1 hA (.inl rfl)
    rintro i m H2 ⟨rfl, hi, G2, s2, us, acc, g2, t2, R2, hus, hacc, g2A, nown, pl2, h2⟩
    obtain ⟨goes, stops⟩ := okI i G2 H2 g2 R2.gh
    by_cases hlt : i < items.length
    · right
      obtain ⟨go, yl⟩ := goes items[i] (by simp [hlt])
      refine ⟨go, fun H' => ∃ m', m' < items.length - i ∧ (m' = items.length - (i + 1) ∧ i + 1 ≤ items.length ∧ ∃ G2 s2 us acc, Same G1 G2 ∧ Stp G H σ s G2 H' σ s2 ∧ Rep K xi G2 H' σ s2 ∧ H' A = some (.lst us) ∧ RpAll K G2 us acc ∧ G2 A = none ∧ (∀ f, ¬ Own σ s2 f A) ∧ vs.all (plainAt s2) = true ∧ Po K xi W (VR K xi) G H σ s (lcL g fc fe vs (items.drop (i + 1)) acc s2) Q), fun H' h => h, fun v H3 y => ?_⟩
      obtain ⟨G3, g3, gh3, h3, c3, rv⟩ := yl v H3 y
      have t3 := t2.trans (stp_turn (σ := σ) (s := s2) g3 h3 c3)
      have R3 := rep_turn R2 g3 gh3 h3 c3
      have h3A : H3 A = some (.lst us) := h3 _ _ hus
      have g3A : G3 A = none := c3 A g2A (ne_none hus)
      rw [List.drop_eq_getElem_cons hlt] at h2
      unfold lcL at h2
      split at h2
      · exact h2.elim
      · rename_i s4 q4
        have Rw := rep_wipe (vs := vs) R3
        refine ⟨G3, H3, wipe σ vs, wipeS s2 vs, G3, wipeS s2 vs, items[i], s4, .refl, Rw, rv, q4, fun σ4 off4 t4 R4 => ⟨?_, G3, s4, R4, ?_⟩⟩
        · have := wipe_same (vs := vs) (off4.1) fun j m => off4.2 j fun z => m (hsl j z)
          rw [this]
          exact wipe_same (wipe_length _ _) fun j m => wipe_off m
        have offv : ∀ j, j ∉ vs → σ4[j]? = (wipe σ vs)[j]? := fun j m => off4.2 j fun z => m (hsl j z)
        have len4 : σ4.length = σ.length := off4.1.trans (wipe_length _ _)
        -- what stays of the hidden list
        have hid : ∀ {G5 H5 : Hp} {s5 : S}, Stp G3 H3 (wipe σ vs) (wipeS s2 vs) G5 H5 σ4 s5 → H5 A = some (.lst us) ∧ G5 A = none := fun {G5 H5 s5} t5 => by
          have nw : ∀ f, ¬ Own (wipe σ vs) (wipeS s2 vs) f A := fun f w => nown f ((own_wipe pl2).mpr w)
          refine ⟨t5.fr A _ h3A nw, ?_⟩
          cases q : G5 A with
          | none => rfl
          | some o => exact absurd (t5.gn A g3A (ne_none h3A) (ne_none q)) (nw true)
        have out : ∀ {G5 H5 : Hp} {s5 : S}, Stp G3 H3 (wipe σ vs) (wipeS s2 vs) G5 H5 σ4 s5 → Rep K xi G5 H5 σ4 s5 → Stp G H σ s G5 H5 σ (restS s2 s5 vs) ∧ Rep K xi G5 H5 σ (restS s2 s5 vs) ∧ s5.length = s2.length ∧ ∀ f, ¬ Own σ (restS s2 s5 vs) f A := fun {G5 H5 s5} t5 R5 => by
          have l5 : s5.length = s2.length := by rw [R5.len, len4, R2.len]
          have R6 := rep_out R3 pl2 offv len4 t5 R5
          exact ⟨t3.trans (stp_out pl2 l5 offv t5), R6, l5, fun f w => by
            obtain ⟨g5, _⟩ := R6.own w
            obtain ⟨z1, z2⟩ := hid t5
            obtain ⟨j, b, e1, e2⟩ := w
            have m : j ∉ vs := fun m => by rw [restS_on l5 m] at e1; exact plain_no pl2 m e1
            rw [restS_off m] at e1
            rcases t5.ow f A ⟨j, b, e1, by rw [offv j m, wipe_off m]; exact e2⟩ with ⟨z, _⟩ | z
            · rw [h3A] at z; cases z
            · exact nown f ((own_wipe pl2).mpr z)⟩
        cases qc : fc s4 with
        | no => rw [qc] at h2; exact h2.elim
        | er e s5 => rw [qc] at h2; exact h2.elim
        | ok b s5 =>
          rw [qc] at h2
          intro k G5 H5 t5 R5 eb
          have eb : k = b := eb
          subst eb
          have t45 := t4.trans t5
          cases k with
          | false =>
            rw [if_neg Bool.false_ne_true]
            obtain ⟨z1, z2⟩ := hid t45
            obtain ⟨o1, o2, o3, o4⟩ := out t45 R5
            exact ⟨_, by omega, rfl, hlt, G5, restS s2 s5 vs, us, acc, (g2.trans g3).trans t45.gg, o1, o2, z1, RpAll.same (g3.trans t45.gg) hacc, z2, o4, plain_rest pl2 o3, h2⟩
          | true =>
            rw [if_pos rfl]
            refine ⟨G5, s5, R5, ?_⟩
            have h2 : Po K xi W (VR K xi) G H σ s (match fe s5 with | .ok (.d x) s3 => if acc.length < 16777216 then lcL g fc fe vs (items.drop (i + 1)) (acc ++ [x]) (restS s2 s3 vs) else .no | _ => .no) Q := h2
            cases qe : fe s5 with
            | no => rw [qe] at h2; exact h2.elim
            | er e s6 => rw [qe] at h2; exact h2.elim
            | ok u s6 =>
              rw [qe] at h2
              cases u with
              | d x =>
                intro y G6 H6 t6 R6 ry
                have ry : Rp K G6 y x := ry
                have t46 := t45.trans t6
                obtain ⟨z1, z2⟩ := hid t46
                obtain ⟨o1, o2, o3, o4⟩ := out t46 R6
                by_cases lt : acc.length < 16777216
                · have h2 : Po K xi W (VR K xi) G H σ s (if acc.length < 16777216 then lcL g fc fe vs (items.drop (i + 1)) (acc ++ [x]) (restS s2 s6 vs) else .no) Q := h2
                  rw [if_pos lt] at h2
                  refine ⟨us, z1, by rw [hacc.len, sizeLine_eq]; exact lt, _, by omega, rfl, hlt, G6, restS s2 s6 vs, us ++ [y], acc ++ [x], (g2.trans g3).trans t46.gg, stp_hid o1 h0A, rep_hid o2 z1 z2 o4, upd_same, (RpAll.same (g3.trans t46.gg) hacc).app (.cons ry .nil), z2, o4, plain_rest pl2 o3, h2⟩
                · have h2 : Po K xi W (VR K xi) G H σ s (if acc.length < 16777216 then lcL g fc fe vs (items.drop (i + 1)) (acc ++ [x]) (restS s2 s6 vs) else .no) Q := h2
                  rw [if_neg lt] at h2
                  exact h2.elim
              | o f b => exact h2.elim
              | r k => exact h2.elim
              | x y => exact h2.elim
              | s ns => exact h2.elim
              | z zp => exact h2.elim
    · left
      have e : i = items.length := by omega
      subst e
      refine ⟨stops rfl, ?_⟩
      rw [List.drop_length] at h2
      exact h2 (.ref A) G2 H2 t2 R2 ⟨rfl, A, rfl, g2A, .inl h0A, ⟨us, hus, hacc⟩, nown⟩
  · exact h1.elim
theorem re_lc {ifs : List Expr} {scope : Scope} {own : List (Str × Nat)} (hc : X.calm = true) (hN : X.N.Nodup) (hi : PI X tg iter (tI K xi W fi)) (ok : BlkOk X.N X.env.scope scope own)
    (hg : ∀ (s : Shared) (H : Hp) (C : Addr) (cl : List (Str × Addr)) (fp : List Addr), PG (X.blk s H scope (compEnvC scope cl C X.env) fp) tg (tG K xi sl g)) (ht : ∀ (s : Shared) (H : Hp) (C : Addr) (cl : List (Str × Addr)) (fp : List Addr), PTs (X.blk s H scope (compEnvC scope cl C X.env) fp) ifs (tT K xi (fun _ _ _ _ => False) fc))
    (he : ∀ (s : Shared) (H : Hp) (C : Addr) (cl : List (Str × Addr)) (fp : List Addr), PE (X.blk s H scope (compEnvC scope cl C X.env) fp) elt (tE K xi (fun _ _ _ _ => False) fe)) (hsl : ∀ j ∈ sl, j ∈ own.map (·.2)) (hs : ∀ x, foldedSetIterable iter X.env x = pure x := by intro _; rfl) :
    PE X (.ListComp elt [⟨tg, iter, ifs, 0⟩] scope pos) (tE K xi W (lcE fi g fc fe (own.map (·.2)))) := by
  exact PE.mono (pe_lc hc hN hi ok hg ht he hs) fun σ H Q h => lc_lift hsl h
theorem rt_yes : PTs X [] (tT K xi W yesT) := ⟨fun pins s σ H Q I ⟨G, st, R, h⟩ => pts_nil.run pins s σ H Q I (h true G H .refl R rfl)⟩
theorem rt_one {c : Expr} (h : PT X c (tT K xi W fc)) : PTs X [c] (tT K xi W fc) := pts_one h
end
end M
set_option Elab.async false
set_option linter.all false
set_option maxRecDepth 100000
set_option maxHeartbeats 4000000
namespace M
open PySem PySem.Spec PyProof.Rows L2 Sv
variable [Wd]
def argR : Option (Option Vl) → Option Vl
  | some (some (.d x)) => some (.d x)
  | some (some (.o _ b)) => some (.o false b)
  | _ => none
def argV (s : S) : Vl → Option Vl
  | .d x => some (.d x)
  | .r i => argR s[i]?
  | .s ns => some (.s ns)
  | .z p => some (.z p)
  | .x e => some (.x e)
  | _ => none
def argVs (s : S) : List Vl → Option (List Vl)
  | [] => some []
  | v :: vs => match argV s v with
    | some a => (argVs s vs).map (a :: ·)
    | none => none
def refs : List Vl → List Nat
  | [] => []
  | .r i :: vs => i :: refs vs
  | _ :: vs => refs vs
def back1 (s : S) : Vl → Option Vl → S
  | .r i, some (.o false b) => (match s[i]? with
    | some (some (.o f _)) => s.set i (some (.o f b))
    | _ => s)
  | _, _ => s
def putBack : List Vl → S → S → S
  | v :: vs, o :: os, s => putBack vs os (back1 s v o)
  | _, _, s => s
def plainA (as : List Vl) : Bool := as.all fun v => match v with
  | .x _ => false
  | _ => true
def argS (as : List Vl) : S := as.map some
def callR (vls : List Vl) (s1 : S) (r : ER Vl) : ER Vl := match r with
  | .ok (.d x) s' => .ok (.d x) (putBack vls s' s1)
  | .ok (.o true b) s' => .ok (.o true b) (putBack vls s' s1)
  | .ok _ _ => .no
  | .er e s' => .er e (putBack vls s' s1)
  | .no => .no
def call1 (n : Nat) (F : S → ER Vl) (vls : List Vl) (s1 : S) : ER Vl := match argVs s1 vls with
  | some as => if (refs vls).Nodup ∧ vls.length = n ∧ plainA as = true then callR vls s1 (F (argS as)) else .no
  | none => .no
def callE (n : Nat) (F : S → ER Vl) (fa : S → ER (List Vl)) : S → ER Vl := fun s => (fa s).bind fun vls s1 => call1 n F vls s1
def outs : S → S → S
  | some (.o false _) :: r, x :: r' => x :: outs r r'
  | a :: r, _ :: r' => a :: outs r r'
  | r, _ => r
def fin1 (s0 : S) : Out → ER Vl
  | .nx s' => .ok (.d .none) (outs s0 s')
  | .rt (.d x) s' => .ok (.d x) (outs s0 s')
  | .rt (.o true b) s' => .ok (.o true b) (outs s0 s')
  | .er e s' => .er e (outs s0 s')
  | _ => .no
def fin (N : Nat) (f : S → Out) : S → ER Vl := fun s0 => fin1 s0 (f (s0 ++ List.replicate (N - s0.length) none))
def isArg : Option Vl → Prop
  | some (.d _) => True
  | some (.o false _) => True
  | some (.s _) => True
  | some (.z _) => True
  | some (.x _) => True
  | _ => False
def spF (K : PySem.W.Frag) (n : Nat) (F : S → ER Vl) : Sp := fun vs H Q E => vs.length = n ∧ ∃ (G : Hp) (s0 : S), (∀ a ∈ s0, isArg a) ∧ Rep K none G H (vs.map some) s0 ∧ Po K none (WX0 E) (VR K none) G H (vs.map some) s0 (F s0) Q
section
variable {X : Cx} {K : PySem.W.Frag} {xi : XI} {W : WX} {G H G' H' G1 H1 G0 H0 : Hp} {σ σ' σ1 σ0 : Ss} {s s' s1 s0 : S} {f : S → Out}
theorem outs_at : ∀ {s0 s' : S} {i : Nat}, s0.length ≤ s'.length → (outs s0 s')[i]? = (match s0[i]? with | some (some (.o false _)) => s'[i]? | x => x)
  | [], s', i, _ => by simp [outs]
  | a :: r, [], i, h => by simp at h
  | a :: r, x :: r', 0, h => by
    cases a with
    | none => rfl
    | some v =>
      cases v with
      | o f b => cases f <;> rfl
      | _ => rfl
  | a :: r, x :: r', i + 1, h => by
    have ih := outs_at (s0 := r) (s' := r') (i := i) (by simpa using h)
    have e : (outs (a :: r) (x :: r'))[i + 1]? = (outs r r')[i]? := by
      cases a with
      | none => rfl
      | some v =>
        cases v with
        | o f b => cases f <;> rfl
        | _ => rfl
    rw [e, ih]
    simp
theorem outs_len : ∀ {s0 s' : S}, (outs s0 s').length = s0.length
  | [], s' => by simp [outs]
  | a :: r, [] => by
    cases a with
    | none => rfl
    | some v =>
      cases v with
      | o f b => cases f <;> rfl
      | _ => rfl
  | a :: r, x :: r' => by
    have ih := outs_len (s0 := r) (s' := r')
    cases a with
    | none => simp [outs, ih]
    | some v =>
      cases v with
      | o f b => cases f <;> simp [outs, ih]
      | _ => simp [outs, ih]
theorem pad_at {α : Type} {l : List (Option α)} {n i : Nat} {u : α} : (l ++ List.replicate n none)[i]? = some (some u) ↔ l[i]? = some (some u) := by
  by_cases h : i < l.length
  · rw [List.getElem?_append_left h]
  · rw [List.getElem?_append_right (by omega), List.getElem?_eq_none (l := l) (by omega)]
    constructor
    · intro e
      rw [List.getElem?_replicate] at e
      split at e <;> cases e
    · intro e; cases e
theorem own_pad {n m : Nat} {f : Bool} {p : Addr} : Own (σ ++ List.replicate n none) (s ++ List.replicate m none) f p ↔ Own σ s f p :=
  ⟨fun ⟨i, b, h1, h2⟩ => ⟨i, b, pad_at.mp h1, pad_at.mp h2⟩, fun ⟨i, b, h1, h2⟩ => ⟨i, b, pad_at.mpr h1, pad_at.mpr h2⟩⟩
theorem rep_pad {n m : Nat} (e : n = m) (R : Rep K xi G H σ s) : Rep K xi G H (σ ++ List.replicate n none) (s ++ List.replicate m none) := by
  refine ⟨by simp [R.len, e], R.gh, fun i vl h => ?_, fun i j f g b c p h1 h2 h3 h4 => R.ap i j f g b c p (pad_at.mp h1) (pad_at.mp h2) (pad_at.mp h3) (pad_at.mp h4)⟩
  obtain ⟨v, e, w⟩ := R.sl i vl (pad_at.mp h)
  exact ⟨v, pad_at.mpr e, w⟩
theorem fin_stp {n m : Nat} (en : n = m) (ha : ∀ a ∈ s, isArg a) (R : Rep K xi G H σ s) (t : Stp G H (σ ++ List.replicate n none) (s ++ List.replicate m none) G' H' σ' s') (R' : Rep K xi G' H' σ' s') : Stp G H σ s G' H' σ (outs s s') ∧ Rep K xi G' H' σ (outs s s') ∧
    ∀ f p, Own σ (outs s s') f p → Own σ' s' f p := by
  have hio : ∀ {i : Nat} {b : Ob}, s[i]? = some (some (.o false b)) → σ'[i]? = σ[i]? ∧ ∃ b', s'[i]? = some (some (.o false b')) := fun {i b} h => by
    obtain ⟨e1, e2⟩ := t.io i b (pad_at.mpr h)
    have hlt : i < s.length := (List.getElem?_eq_some_iff.mp h).1
    rw [List.getElem?_append_left (by rw [← R.len]; exact hlt)] at e1
    exact ⟨e1, e2⟩
  have len : ∀ {i : Nat} {b : Ob}, s[i]? = some (some (.o false b)) → i < s'.length := fun {i b} h => by
    obtain ⟨_, b', e⟩ := hio h
    exact (List.getElem?_eq_some_iff.mp e).1
  have oat : ∀ {i : Nat}, (outs s s')[i]? = (match s[i]? with | some (some (.o false _)) => s'[i]? | x => x) := fun {i} => by
    by_cases h : s.length ≤ s'.length
    · exact outs_at h
    · -- the part behind s' holds no written one
      clear R t R' hio
      induction s generalizing s' i with
      | nil => simp [outs]
      | cons a r ih =>
        cases s' with
        | nil =>
          have e : outs (a :: r) [] = a :: r := by
            cases a with
            | none => rfl
            | some v => cases v with
              | o f b => cases f <;> rfl
              | _ => rfl
          rw [e]
          split
          · rename_i b q
            exact absurd (len q) (by simp)
          · rfl
        | cons x r' =>
          have step : ∀ {i : Nat}, (outs (a :: r) (x :: r'))[i + 1]? = (outs r r')[i]? := fun {i} => by
            cases a with
            | none => rfl
            | some v => cases v with
              | o f b => cases f <;> rfl
              | _ => rfl
          cases i with
          | zero =>
            cases a with
            | none => rfl
            | some v => cases v with
              | o f b => cases f <;> rfl
              | _ => rfl
          | succ i =>
            rw [step, ih (s' := r') (i := i) (fun a m => ha a (List.mem_cons_of_mem _ m)) (fun {i b} q => by simpa using len (i := i + 1) (b := b) (by simpa using q)) (by simpa using h)]
            simp
  have ob : ∀ {i : Nat} {f : Bool} {b : Ob}, (outs s s')[i]? = some (some (.o f b)) → f = false ∧ s'[i]? = some (some (.o f b)) ∧ σ'[i]? = σ[i]? ∧ ∃ c, s[i]? = some (some (.o false c)) := fun {i f b} h => by
    rw [oat] at h
    split at h
    · rename_i c q
      obtain ⟨e1, b', e2⟩ := hio q
      rw [e2] at h
      cases h
      exact ⟨rfl, e2, e1, c, q⟩
    · rename_i hne
      have z := ha _ (List.mem_of_getElem? h)
      cases f with
      | false => exact absurd h (by intro e; exact hne b e)
      | true => exact z.elim
  refine ⟨⟨t.gg, fun b o h n => t.fr b o h fun f w => n f (own_pad.mp w), t.lv, fun b h1 h2 h3 => own_pad.mp (t.gn b h1 h2 h3), fun f p ⟨i, b, h1, h2⟩ => ?_, fun i b h => ?_⟩, ⟨by rw [outs_len]; exact R.len, R'.gh, fun i vl h => ?_, fun i j f g b c p h1 h2 h3 h4 => ?_⟩, fun f p ⟨i, b, h1, h2⟩ => ?_⟩
  · obtain ⟨rfl, e1, e2, c, e3⟩ := ob h1
    exact .inr ⟨i, c, e3, h2⟩
  · obtain ⟨e1, b', e2⟩ := hio h
    refine ⟨rfl, b', ?_⟩
    rw [oat, h]
    exact e2
  · cases vl with
    | o f b =>
      obtain ⟨_, e1, e2, _⟩ := ob h
      obtain ⟨v, q, w⟩ := R'.sl i _ e1
      exact ⟨v, by rw [← e2]; exact q, w⟩
    | d x =>
      rw [oat] at h
      split at h
      · rename_i c q
        obtain ⟨_, b', e2⟩ := hio q
        rw [e2] at h; cases h
      · obtain ⟨v, q, w⟩ := R.sl i _ h
        exact ⟨v, q, Rp.same t.gg w⟩
    | r j =>
      rw [oat] at h
      split at h
      · rename_i c q
        obtain ⟨_, b', e2⟩ := hio q
        rw [e2] at h; cases h
      · exact (ha _ (List.mem_of_getElem? h)).elim
    | x e =>
      rw [oat] at h
      split at h
      · rename_i c q
        obtain ⟨_, b', e2⟩ := hio q
        rw [e2] at h; cases h
      · obtain ⟨v, q, a, cls, d, h1, h2, h3, h4⟩ := R.sl i _ h
        refine ⟨v, q, a, cls, d, h1, h2, h3, fun nm n e => ?_⟩
        obtain ⟨dd, q1, q2⟩ := h4 nm n e
        refine ⟨dd, q1, t.fr _ _ q2 fun f w => ?_⟩
        obtain ⟨_, b, z⟩ := R.own (own_pad.mp w)
        exact z.noxd q2
    | s ns =>
      rw [oat] at h
      split at h
      · rename_i c q
        obtain ⟨_, b', e2⟩ := hio q
        rw [e2] at h; cases h
      · obtain ⟨v, q, a, e, w⟩ := R.sl i _ h
        exact ⟨v, q, a, e, same_l t.gg w⟩
    | z zp =>
      rw [oat] at h
      split at h
      · rename_i c q
        obtain ⟨_, b', e2⟩ := hio q
        rw [e2] at h; cases h
      · obtain ⟨v, q, w⟩ := R.sl i _ h
        exact ⟨v, q, ZR.same w t.gg⟩
  · obtain ⟨_, e1, e2, _⟩ := ob h1
    obtain ⟨_, e3, e4, _⟩ := ob h2
    exact R'.ap i j f g b c p e1 e3 (by rw [e2]; exact h3) (by rw [e4]; exact h4)
  · obtain ⟨_, e1, e2, _⟩ := ob h1
    exact ⟨i, b, e1, by rw [e2]; exact h2⟩
theorem fin_gen {N : List Str} {vs : List V} {Q : VK} {E : XK} (ha : ∀ a ∈ s0, isArg a) (R : Rep K xi G H (vs.map some) s0) (h : Po K xi (WX0 E) (VR K xi) G H (vs.map some) s0 (fin N.length f s0) Q) : tS K xi (WX0 E) f { nx := fun _ H' => Q .non H', rt := Q } (start N vs) H := by
  have len : s0.length = vs.length := by rw [R.len, List.length_map]
  refine ⟨G, s0 ++ List.replicate (N.length - s0.length) none, rep_pad (by rw [len]) R, ?_⟩
  have h : Po K xi (WX0 E) (VR K xi) G H (vs.map some) s0 (fin1 s0 (f (s0 ++ List.replicate (N.length - s0.length) none))) Q := h
  generalize f (s0 ++ List.replicate (N.length - s0.length) none) = r at h
  have el : N.length - vs.length = N.length - s0.length := by rw [len]
  cases r with
  | nx s' => exact fun G' H' σ' t R' => (by
      obtain ⟨t1, R1, _⟩ := fin_stp el ha R t R'
      exact h .non G' H' t1 R1 .non)
  | rt v s' =>
    cases v with
    | d x => exact fun v G' H' σ' t R' r => (by
      obtain ⟨t1, R1, _⟩ := fin_stp el ha R t R'
      exact h v G' H' t1 R1 r)
    | o fl b =>
      cases fl with
      | true => exact fun v G' H' σ' t R' r => (by
          obtain ⟨t1, R1, o1⟩ := fin_stp el ha R t R'
          obtain ⟨_, p, rfl, w1, w2, w3, w4⟩ := r
          exact h _ G' H' t1 R1 ⟨rfl, p, rfl, w1, w2.imp id own_pad.mp, w3, fun g w => w4 g (o1 g p w)⟩)
      | false => exact h.elim
    | r i => exact h.elim
    | x e => exact h.elim
    | s ns => exact h.elim
    | z zp => exact h.elim
  | er e s' => exact fun G' H' σ' t R' => (by
      obtain ⟨t1, R1, _⟩ := fin_stp el ha R t R'
      have z := h G' H' t1 R1
      unfold EW at z ⊢
      exact z)
  | bk s' => exact h.elim
  | ct s' => exact h.elim
  | no => exact h.elim
theorem fin_of {n : Nat} {N : List Str} {vs : List V} {Q : VK} {E : XK} (h : spF K n (fin N.length f) vs H Q E) : tS K none (WX0 E) f { nx := fun _ H' => Q .non H', rt := Q } (start N vs) H := by
  obtain ⟨_, G, s0, ha, R, h⟩ := h
  exact fin_gen ha R h
theorem argVs_at : ∀ {vls as : List Vl}, argVs s vls = some as → vls.length = as.length ∧ ∀ (i : Nat) (v : Vl), vls[i]? = some v → ∃ a : Vl, as[i]? = some a ∧ argV s v = some a
  | [], as, h => by cases h; exact ⟨rfl, fun i v e => by simp at e⟩
  | v :: vs, as, h => by
    unfold argVs at h
    split at h
    · rename_i a ea
      cases q : argVs s vs with
      | none => rw [q] at h; cases h
      | some bs =>
        rw [q] at h
        cases h
        obtain ⟨l, k⟩ := argVs_at q
        refine ⟨by simp [l], fun i u e => ?_⟩
        cases i with
        | zero => cases e; exact ⟨a, rfl, ea⟩
        | succ i => exact k i u e
    · cases h
theorem VRs.at {v : V} : ∀ {vs : List V} {vls : List Vl} {i : Nat}, VRs K xi H0 σ0 s0 G H σ s vs vls → vs[i]? = some v → ∃ vl, vls[i]? = some vl ∧ VR K xi H0 σ0 s0 G H σ s v vl
  | _, _, _, .nil, e => by simp at e
  | _, _, 0, .cons a _, e => by cases e; exact ⟨_, rfl, a⟩
  | _, _, i + 1, .cons _ b, e => VRs.at (i := i) b e
theorem VRs.len : ∀ {vs : List V} {vls : List Vl}, VRs K xi H0 σ0 s0 G H σ s vs vls → vs.length = vls.length
  | _, _, .nil => rfl
  | _, _, .cons _ b => by simp [VRs.len b]
theorem refs_mem : ∀ {vls : List Vl} {i k : Nat}, vls[k]? = some (.r i) → i ∈ refs vls
  | v :: vs, i, 0, e => by cases e; exact List.mem_cons_self
  | v :: vs, i, k + 1, e => by
    have := refs_mem (vls := vs) (k := k) (by simpa using e)
    cases v <;> first | exact this | exact List.mem_cons_of_mem _ this
theorem refs_of {j : Nat} : ∀ {vls : List Vl}, j ∈ refs vls → ∃ k : Nat, vls[k]? = some (.r j)
  | [], h => nomatch h
  | v :: vs, h => by
    have go : j ∈ refs vs → ∃ k : Nat, (v :: vs)[k]? = some (.r j) := fun m => by
      obtain ⟨k, e⟩ := refs_of m
      exact ⟨k + 1, e⟩
    cases v with
    | r i =>
      rcases List.mem_cons.mp h with z | z
      · exact ⟨0, by rw [z]; rfl⟩
      · exact go z
    | _ => exact go h
theorem refs_inj : ∀ {vls : List Vl} {i j k : Nat}, (refs vls).Nodup → vls[j]? = some (.r i) → vls[k]? = some (.r i) → j = k
  | [], i, j, k, _, e, _ => by simp at e
  | v :: vs, i, j, k, nd, e1, e2 => by
    have nd2 : (refs vs).Nodup := by cases v <;> first | exact nd | exact (List.nodup_cons.mp nd).2
    cases j with
    | zero =>
      cases k with
      | zero => rfl
      | succ k =>
        cases e1
        exact absurd (refs_mem (by simpa using e2)) (List.nodup_cons.mp nd).1
    | succ j =>
      cases k with
      | zero =>
        cases e2
        exact absurd (refs_mem (by simpa using e1)) (List.nodup_cons.mp nd).1
      | succ k => exact congrArg (· + 1) (refs_inj (i := i) (j := j) (k := k) nd2 (by simpa using e1) (by simpa using e2))
theorem argS_at {as : List Vl} {i : Nat} {u : Vl} : (argS as)[i]? = some (some u) ↔ as[i]? = some u := by
  unfold argS
  rw [List.getElem?_map]
  cases as[i]? with
  | none => simp
  | some a => simp
theorem vals_at {vs : List V} {i : Nat} {u : V} : (vs.map some)[i]? = some (some u) ↔ vs[i]? = some u := by
  rw [List.getElem?_map]
  cases vs[i]? with
  | none => simp
  | some a => simp
theorem arg_o {vs : List V} {vls as : List Vl} {k : Nat} {f : Bool} {b : Ob} (ra : VRs K xi H0 σ0 s0 G1 H1 σ s1 vs vls) (ea : argVs s1 vls = some as) (h : as[k]? = some (.o f b)) : f = false ∧ ∃ i g p, vls[k]? = some (.r i) ∧ s1[i]? = some (some (.o g b)) ∧ vs[k]? = some p ∧ σ[i]? = some (some p) := by
  obtain ⟨l, at_⟩ := argVs_at ea
  have hk : k < vls.length := by rw [l]; exact (List.getElem?_eq_some_iff.mp h).1
  obtain ⟨a, e1, e2⟩ := at_ k _ (List.getElem?_eq_getElem hk)
  rw [h] at e1
  cases e1
  have hv : k < vs.length := by rw [ra.len]; exact hk
  obtain ⟨vl, q1, q2⟩ := ra.at (List.getElem?_eq_getElem hv)
  rw [List.getElem?_eq_getElem hk] at q1
  cases q1
  generalize hw : vls[k] = w at e2 q2
  cases w with
  | d x => cases e2
  | o g c => cases e2
  | x e => cases e2
  | s ns => cases e2
  | z zp => cases e2
  | r i =>
    have e2 : argR s1[i]? = some (.o f b) := e2
    unfold argR at e2
    split at e2
    · cases e2
    · rename_i g c q
      cases e2
      exact ⟨rfl, i, g, vs[k], by rw [List.getElem?_eq_getElem hk, hw], q, List.getElem?_eq_getElem hv, q2⟩
    · cases e2
theorem rep_args {vs : List V} {vls as : List Vl} (R1 : Rep K xi G1 H1 σ s1) (ra : VRs K xi H0 σ0 s0 G1 H1 σ s1 vs vls) (ea : argVs s1 vls = some as) (nd : (refs vls).Nodup) : (∀ a ∈ argS as, isArg a) ∧ Rep K xi G1 H1 (vs.map some) (argS as) := by
  obtain ⟨l, at_⟩ := argVs_at ea
  have lv := ra.len
  refine ⟨fun a m => ?_, by simp [argS, lv, l], R1.gh, fun k u h => ?_, fun j k f g b c p h1 h2 h3 h4 => ?_⟩
  · obtain ⟨k, hk⟩ := List.mem_iff_getElem?.mp m
    unfold argS at hk
    rw [List.getElem?_map] at hk
    cases q : as[k]? with
    | none => rw [q] at hk; cases hk
    | some u =>
      rw [q] at hk
      cases hk
      cases u with
      | o f b =>
        obtain ⟨rfl, _⟩ := arg_o ra ea q
        exact trivial
      | d x => exact trivial
      | s ns => exact trivial
      | z zp => exact trivial
      | r i =>
        have hk : k < vls.length := by rw [l]; exact (List.getElem?_eq_some_iff.mp q).1
        obtain ⟨a, e1, e2⟩ := at_ k _ (List.getElem?_eq_getElem hk)
        rw [q] at e1
        cases e1
        generalize vls[k] = w at e2
        cases w with
        | r j =>
          have e2 : argR s1[j]? = some (.r i) := e2
          unfold argR at e2
          split at e2 <;> cases e2
        | _ => cases e2
      | x e => exact trivial
  · have h := argS_at.mp h
    have hk : k < vls.length := by rw [l]; exact (List.getElem?_eq_some_iff.mp h).1
    have hv : k < vs.length := by rw [lv]; exact hk
    obtain ⟨a, e1, e2⟩ := at_ k _ (List.getElem?_eq_getElem hk)
    rw [h] at e1
    cases e1
    obtain ⟨vl, q1, q2⟩ := ra.at (List.getElem?_eq_getElem hv)
    rw [List.getElem?_eq_getElem hk] at q1
    cases q1
    refine ⟨vs[k], vals_at.mpr (List.getElem?_eq_getElem hv), ?_⟩
    generalize vls[k] = w at e2 q2
    cases w with
    | d x => cases e2; exact q2
    | o g c => cases e2
    | x e => cases e2; exact q2
    | s ns => cases e2; exact q2
    | z zp => cases e2; exact q2
    | r i =>
      have q2 : σ[i]? = some (some vs[k]) := q2
      have e2 : argR s1[i]? = some u := e2
      unfold argR at e2
      split at e2
      · rename_i x q
        cases e2
        obtain ⟨w, e3, w1⟩ := R1.sl i _ q
        rw [q2] at e3
        cases e3
        exact w1
      · rename_i g c q
        cases e2
        obtain ⟨w, e3, w1⟩ := R1.sl i _ q
        rw [q2] at e3
        cases e3
        exact w1
      · cases e2
  · obtain ⟨_, i1, g1, p1, a1, a2, a3, a4⟩ := arg_o ra ea (argS_at.mp h1)
    obtain ⟨_, i2, g2, p2, b1, b2, b3, b4⟩ := arg_o ra ea (argS_at.mp h2)
    have e1 := vals_at.mp h3
    have e2 := vals_at.mp h4
    rw [a3] at e1
    rw [b3] at e2
    cases e1
    cases e2
    have := R1.ap i1 i2 g1 g2 b c p a2 b2 a4 b4
    subst this
    exact refs_inj nd a1 b1
theorem back1_at (s : S) (v : Vl) (o : Option Vl) (j : Nat) : (back1 s v o)[j]? = s[j]? ∨ ∃ b f c, v = .r j ∧ o = some (.o false b) ∧ s[j]? = some (some (.o f c)) ∧ (back1 s v o)[j]? = some (some (.o f b)) := by
  unfold back1
  split
  · rename_i i b
    split
    · rename_i f c q
      by_cases e : i = j
      · subst e
        exact .inr ⟨b, f, c, rfl, rfl, q, List.getElem?_set_self (List.getElem?_eq_some_iff.mp q).1⟩
      · exact .inl (List.getElem?_set_ne e)
    · exact .inl rfl
  · exact .inl rfl
theorem back1_len (s : S) (v : Vl) (o : Option Vl) : (back1 s v o).length = s.length := by
  unfold back1
  split
  · split
    · exact List.length_set
    · rfl
  · rfl
theorem pb_len : ∀ {vls : List Vl} {os s : S}, (putBack vls os s).length = s.length
  | [], os, s => by cases os <;> rfl
  | v :: vs, [], s => rfl
  | v :: vs, o :: os, s => by
    show (putBack vs os (back1 s v o)).length = _
    rw [pb_len, back1_len]
theorem pb_at : ∀ (vls : List Vl) (os s : S) (j : Nat), (putBack vls os s)[j]? = s[j]? ∨ ∃ (k : Nat) (b : Ob) (f : Bool) (c : Ob), vls[k]? = some (.r j) ∧ os[k]? = some (some (.o false b)) ∧ s[j]? = some (some (.o f c)) ∧ (putBack vls os s)[j]? = some (some (.o f b))
  | [], os, s, j => by cases os <;> exact .inl rfl
  | v :: vs, [], s, j => .inl rfl
  | v :: vs, o :: os, s, j => by
    show (putBack vs os (back1 s v o))[j]? = s[j]? ∨ ∃ (k : Nat) (b : Ob) (f : Bool) (c : Ob), (v :: vs)[k]? = some (.r j) ∧ (o :: os)[k]? = some (some (.o false b)) ∧ s[j]? = some (some (.o f c)) ∧ (putBack vs os (back1 s v o))[j]? = some (some (.o f b))
    rcases pb_at vs os (back1 s v o) j with h | ⟨k, b, f, c, h1, h2, h3, h4⟩
    · rcases back1_at s v o j with e | ⟨b, f, c, rfl, rfl, e3, e4⟩
      · exact .inl (h.trans e)
      · exact .inr ⟨0, b, f, c, rfl, rfl, e3, h.trans e4⟩
    · rcases back1_at s v o j with e | ⟨b', f', c', rfl, rfl, e3, e4⟩
      · exact .inr ⟨k + 1, b, f, c, h1, h2, by rw [← e]; exact h3, h4⟩
      · rw [e4] at h3
        cases h3
        exact .inr ⟨k + 1, b, f, c', h1, h2, e3, h4⟩
theorem pb_off {j : Nat} {vls : List Vl} {os s : S} (h : j ∉ refs vls) : (putBack vls os s)[j]? = s[j]? := by
  rcases pb_at vls os s j with e | ⟨k, b, f, c, h1, _⟩
  · exact e
  · exact absurd (refs_mem h1) h
theorem pb_on : ∀ {vls : List Vl} {os s : S} {j k : Nat} {b c : Ob} {f : Bool}, (refs vls).Nodup → vls[k]? = some (.r j) → os[k]? = some (some (.o false b)) → s[j]? = some (some (.o f c)) → (putBack vls os s)[j]? = some (some (.o f b))
  | v :: vs, o :: os, s, j, 0, b, c, f, nd, h1, h2, h3 => by
    cases h1
    cases h2
    show (putBack vs os (back1 s (.r j) (some (.o false b))))[j]? = _
    rw [pb_off (List.nodup_cons.mp nd).1]
    show (match s[j]? with | some (some (.o f _)) => s.set j (some (.o f b)) | _ => s)[j]? = _
    rw [h3]
    exact List.getElem?_set_self (List.getElem?_eq_some_iff.mp h3).1
  | v :: vs, o :: os, s, j, k + 1, b, c, f, nd, h1, h2, h3 => by
    have nd2 : (refs vs).Nodup := by cases v <;> first | exact nd | exact (List.nodup_cons.mp nd).2
    show (putBack vs os (back1 s v o))[j]? = _
    refine pb_on (c := c) nd2 h1 h2 ?_
    rcases back1_at s v o j with e | ⟨b', f', c', rfl, rfl, e3, e4⟩
    · rw [e]; exact h3
    · exact absurd (refs_mem (show vs[k]? = some (.r j) from h1)) (List.nodup_cons.mp nd).1
  | [], _, _, _, _, _, _, _, _, h1, _, _ => by simp at h1
  | _ :: _, [], _, _, _, _, _, _, _, _, h2, _ => by simp at h2
theorem call_back {vs : List V} {vls as : List Vl} (R1 : Rep K xi G1 H1 σ s1) (ra : VRs K xi H0 σ0 s0 G1 H1 σ s1 vs vls) (ea : argVs s1 vls = some as) (nd : (refs vls).Nodup) {xj : XI} (t : Stp G1 H1 (vs.map some) (argS as) G' H' (vs.map some) s') (R' : Rep K xj G' H' (vs.map some) s') :
    Stp G1 H1 σ s1 G' H' σ (putBack vls s' s1) ∧ Rep K xi G' H' σ (putBack vls s' s1) ∧ ∀ f p, Own σ (putBack vls s' s1) f p → Own σ s1 f p := by
  have up : ∀ {f : Bool} {p : Addr}, Own (vs.map some) (argS as) f p → f = false ∧ ∃ g i b, s1[i]? = some (some (.o g b)) ∧ σ[i]? = some (some (.ref p)) ∧ i ∈ refs vls := fun {f p} ⟨k, b, h1, h2⟩ => by
    obtain ⟨e, i, g, q, a1, a2, a3, a4⟩ := arg_o ra ea (argS_at.mp h1)
    have h2 := vals_at.mp h2
    rw [a3] at h2
    cases h2
    exact ⟨e, g, i, b, a2, a4, refs_mem a1⟩
  have noT : ∀ {p : Addr}, ¬ Own (vs.map some) (argS as) true p := fun {p} w => by
    obtain ⟨e, _⟩ := up w
    cases e
  have down : ∀ f p, Own σ (putBack vls s' s1) f p → Own σ s1 f p := fun f p ⟨j, b, h1, h2⟩ => by
    rcases pb_at vls s' s1 j with e | ⟨k, b', f', c, _, _, e3, e4⟩
    · exact ⟨j, b, by rw [← e]; exact h1, h2⟩
    · rw [e4] at h1
      cases h1
      exact ⟨j, c, e3, h2⟩
  have st : Stp G1 H1 σ s1 G' H' σ (putBack vls s' s1) := by
    refine ⟨t.gg, fun b o h n => t.fr b o h fun f w => ?_, t.lv, fun b h1 h2 h3 => absurd (t.gn b h1 h2 h3) noT, fun f p w => .inr (down f p w), fun j b h => ⟨rfl, ?_⟩⟩
    · obtain ⟨_, g, i, c, e1, e2, _⟩ := up w
      exact n g ⟨i, c, e1, e2⟩
    · rcases pb_at vls s' s1 j with e | ⟨k, b', f', c, _, _, e3, e4⟩
      · exact ⟨b, by rw [e]; exact h⟩
      · rw [h] at e3
        cases e3
        exact ⟨b', e4⟩
  refine ⟨st, ⟨by rw [pb_len]; exact R1.len, R'.gh, fun j u h => ?_, fun i j f g b c p h1 h2 h3 h4 => ?_⟩, down⟩
  · by_cases hu : ∃ f b, u = .o f b
    · obtain ⟨f, b, rfl⟩ := hu
      obtain ⟨l, at_⟩ := argVs_at ea
      have own1 : ∃ c, s1[j]? = some (some (.o f c)) := by
        rcases pb_at vls s' s1 j with e | ⟨k, b', f', c, _, _, e3, e4⟩
        · exact ⟨b, by rw [← e]; exact h⟩
        · rw [e4] at h
          cases h
          exact ⟨c, e3⟩
      obtain ⟨c, hc⟩ := own1
      obtain ⟨v, e1, p, rfl, w1, w2⟩ := R1.sl j _ hc
      refine ⟨_, e1, p, rfl, ?_⟩
      by_cases hk : j ∈ refs vls
      · -- handed over
        obtain ⟨k, hk⟩ := refs_of hk
        obtain ⟨a, q1, q2⟩ := at_ k _ hk
        have q2 : argR s1[j]? = some a := q2
        rw [hc] at q2
        cases q2
        obtain ⟨q3, b', q4⟩ := t.io k c (argS_at.mpr q1)
        have q5 := pb_on nd hk q4 hc
        rw [q5] at h
        cases h
        obtain ⟨y, z1, p', rfl, z2, z3⟩ := R'.sl k _ q4
        have z1 := vals_at.mp z1
        obtain ⟨vl, z4, z5⟩ := ra.at z1
        rw [hk] at z4
        cases z4
        have z5 : σ[j]? = some (some (.ref p')) := z5
        rw [e1] at z5
        cases z5
        exact ⟨z2, z3⟩
      · rw [pb_off hk, hc] at h
        cases h
        have nw : ∀ g, ¬ Own (vs.map some) (argS as) g p := fun g w => by
          obtain ⟨_, g', i, b', e3, e4, e5⟩ := up w
          have := R1.ap j i f g' _ b' p hc e3 e1 e4
          exact hk (by rw [this]; exact e5)
        have hp : H' p = H1 p := by
          cases q : H1 p with
          | none => exact absurd q w2.here
          | some o => exact t.fr p o q nw
        refine ⟨?_, w2.mono t.gg hp⟩
        cases q : G' p with
        | none => rfl
        | some o => exact absurd (t.gn p w1 w2.here (ne_none q)) noT
    · have e : (putBack vls s' s1)[j]? = s1[j]? := by
        rcases pb_at vls s' s1 j with e | ⟨k, b', f', c, _, _, e3, e4⟩
        · exact e
        · rw [e4] at h
          cases h
          exact absurd ⟨_, _, rfl⟩ hu
      rw [e] at h
      obtain ⟨v, e1, w⟩ := R1.sl j _ h
      exact ⟨v, e1, w.step R1 st fun p _ hh => absurd hh hu⟩
  · have back : ∀ {j : Nat} {f : Bool} {b : Ob}, (putBack vls s' s1)[j]? = some (some (.o f b)) → ∃ c, s1[j]? = some (some (.o f c)) := fun {j f b} h => by
      rcases pb_at vls s' s1 j with e | ⟨k, b', f', c, _, _, e3, e4⟩
      · exact ⟨b, by rw [← e]; exact h⟩
      · rw [e4] at h
        cases h
        exact ⟨c, e3⟩
    obtain ⟨c1, q1⟩ := back h1
    obtain ⟨c2, q2⟩ := back h2
    exact R1.ap i j f g c1 c2 p q1 q2 h3 h4
theorem rep_plain {as : List Vl} {σ : Ss} (px : plainA as = true) (R : Rep K xi G H σ (argS as)) : Rep K none G H σ (argS as) := by
  refine ⟨R.len, R.gh, fun i v h => ?_, R.ap⟩
  obtain ⟨w, e, r⟩ := R.sl i v h
  refine ⟨w, e, ?_⟩
  cases v with
  | x e =>
    have := List.all_eq_true.mp px _ (List.mem_of_getElem? (argS_at.mp h))
    cases this
  | _ => exact r
theorem call_lift {n : Nat} {F : S → ER Vl} {fa : S → ER (List Vl)} {Q : VK} (h : tE K xi W (callE n F fa) σ H Q) : tCallS (spF K n F) (WE W) (tA K xi W fa) σ H Q := by
  obtain ⟨G, s, R, h⟩ := h
  refine ⟨G, s, R, Po.bindU .refl h fun vls s1 _ vs G1 H1 t1 R1 ra h1 => ?_⟩
  unfold call1 at h1
  split at h1
  · rename_i as ea
    split at h1
    · rename_i cond
      obtain ⟨nd, ln, px⟩ := cond
      obtain ⟨ia, Ra⟩ := rep_args R1 ra.all ea nd
      refine ⟨by rw [ra.all.len]; exact ln, G1, argS as, ia, rep_plain px Ra, ?_⟩
      generalize F (argS as) = r at h1
      cases r with
      | ok vl s' =>
        cases vl with
        | d x => exact fun v G' H' t R' rv => (by
            obtain ⟨t2, R2, _⟩ := call_back R1 ra.all ea nd t R'
            exact h1 v G' H' (t1.trans t2) R2 rv)
        | o f b =>
          cases f with
          | true => exact fun v G' H' t R' rv => (by
              obtain ⟨t2, R2, dn⟩ := call_back R1 ra.all ea nd t R'
              obtain ⟨_, p, rfl, w1, w2, w3, w4⟩ := rv
              have hp : H1 p = none := by
                rcases w2 with z | ⟨k, c, z1, z2⟩
                · exact z
                · obtain ⟨e, _⟩ := arg_o ra.all ea (argS_at.mp z1)
                  cases e
              refine h1 _ G' H' (t1.trans t2) R2 ⟨rfl, p, rfl, w1, .inl ?_, w3, fun g w => R1.noOwn hp g (dn g p w)⟩
              cases q : H p with
              | none => rfl
              | some o => exact absurd hp (t1.lv p (ne_none q)))
          | false => exact h1.elim
        | r i => exact h1.elim
        | x e => exact h1.elim
        | s ns => exact h1.elim
        | z zp => exact h1.elim
      | er e s' => exact fun G' H' t R' => (by
          obtain ⟨t2, R2, _⟩ := call_back R1 ra.all ea nd t R'
          have z := h1 G' H' (t1.trans t2) R2
          unfold EW at z ⊢
          exact z)
      | no => exact h1.elim
    · exact h1.elim
  · exact h1.elim
structure CalN (P : Program) (w : World) (K : PySem.W.Frag) (mg : Str → Option Value) (base : Heap) (k : Nat) (x : Str) (sp : Sp) : Prop where
  ex : ∃ (f : Addr) (fd : FuncData) (ps : List Str), FnOk P w K mg base (L2N.CX P w) k f fd ps sp ∧ mg x = some (.ref f) ∧ PySem.W.keepIn K (.ref f) = true ∧ Binds K fd ps []
theorem re_call {n k : Nat} {F : S → ER Vl} {fa : S → ER (List Vl)} {x : Str} {p pos : Pos} {e : Expr} {es : List Expr} (c : CalN X.prog X.w X.K X.mg X.base k x (spF X.K n F)) (hr : Room k X.A) (hg : Gl X x) (tk : L2N.Takes X W) (ha : PA X (e :: es) (tA K xi W fa)) (hK : X.K = K := by rfl) (hdb : (x == ("__debug__" : Str)) = false := by decide)
    (he : starEach (e :: es) X.env = (false, eval e X.env) :: starEach es X.env := by rfl) (hpl : (backTo pos (starEach es X.env)).any (·.1) = false := by rfl) : PE X (.Call (.Name x p) (e :: es) [] pos) (tE K xi W (callE n F fa)) := by
  subst hK
  obtain ⟨f, fd, ps, F1, hm, hk, hb⟩ := c.ex
  exact PE.mono (pe_callS F1 hr hg hm hk hb (fun σ => L2N.passAt tk σ) ha hdb he hpl) fun σ H Q h => call_lift h
end
end M
set_option Elab.async false
set_option linter.all false
set_option maxRecDepth 100000
set_option maxHeartbeats 4000000
namespace M
open PySem PySem.Spec PyProof.Rows L2 Sv
variable [Wd]
def loopK (k : S → Out) : Out → Out
  | .nx s => k s
  | .ct s => k s
  | .bk s => .nx s
  | .rt v s => .rt v s
  | .er e s => .er e s
  | .no => .no
section
variable {X : Cx} {K : PySem.W.Frag} {xi : XI} {W : WX} {G H G' H' G1 H1 G0 H0 : Hp} {σ σ' σ1 σ0 : Ss} {s s' s1 s0 : S} {f g : S → Out} {fc : S → ER Bool} {De : Ends} {pos p : Pos} {i : Nat}
end
def noX (s : S) : Bool := s.all fun v => match v with
  | some (.x _) => false
  | _ => true
def setN (s : S) : Option Nat → Option Vl → S
  | some i, v => s.set i v
  | none, _ => s
def endX (oi : Option Nat) : Out → Out
  | .nx s => if noX (setN s oi none) = true then .nx (setN s oi none) else .no
  | .rt (.d x) s => if noX (setN s oi none) = true then .rt (.d x) (setN s oi none) else .no
  | .rt (.o true b) s => if noX (setN s oi none) = true then .rt (.o true b) (setN s oi none) else .no
  | .bk s => if noX (setN s oi none) = true then .bk (setN s oi none) else .no
  | .ct s => if noX (setN s oi none) = true then .ct (setN s oi none) else .no
  | _ => .no
def freeN (s : S) : Option Nat → Bool
  | some i => freeAt s i
  | none => true
def hdX (cm : Str → Option Bool) (oi : Option Nat) (g : S → Out) : Out → Out
  | .er e s1 => (match cm e.c with
    | some true => if freeN s1 oi = true then endX oi (g (setN s1 oi (some (.x e)))) else .no
    | some false => .er e s1
    | none => .no)
  | r => r
def tryS (cm : Str → Option Bool) (oi : Option Nat) (f g : S → Out) : S → Out := fun s => hdX cm oi g (f s)
abbrev WF : WX := fun _ _ _ _ => False
def setσ (σ : Ss) : Option Nat → Option V → Ss
  | some i, v => σ.set i v
  | none, _ => σ
section
variable {X : Cx} {K : PySem.W.Frag} {xi : XI} {W : WX} {G H G' H' G1 H1 G0 H0 : Hp} {σ σ' σ1 σ0 : Ss} {s s' s1 s0 : S} {f g : S → Out} {De : Ends} {pos p : Pos} {oi : Option Nat}
theorem noX_at {i : Nat} {e : Exn} (h : noX s = true) : s[i]? ≠ some (some (.x e)) := fun q => by
  have := List.all_eq_true.mp h _ (List.mem_of_getElem? q)
  cases this
theorem setN_len {v : Option Vl} : (setN s oi v).length = s.length := by
  cases oi with
  | none => rfl
  | some i => exact List.length_set
theorem setN_at {j : Nat} {u : Vl} (h : (setN s oi none)[j]? = some (some u)) : s[j]? = some (some u) ∧ some j ≠ oi := by
  cases oi with
  | none => exact ⟨h, fun e => nomatch e⟩
  | some i =>
    have h : (s.set i none)[j]? = some (some u) := h
    by_cases e : i = j
    · subst e
      rw [List.getElem?_set] at h
      simp only [if_true] at h
      split at h <;> cases h
    · rw [List.getElem?_set_ne e] at h
      exact ⟨h, fun q => e (by cases q; rfl)⟩
theorem setσ_at {j : Nat} {v : Option V} (h : some j ≠ oi) : (setσ σ oi v)[j]? = σ[j]? := by
  cases oi with
  | none => rfl
  | some i => exact List.getElem?_set_ne fun e => h (by rw [e])
theorem setσ_len {v : Option V} : (setσ σ oi v).length = σ.length := by
  cases oi with
  | none => rfl
  | some i => exact List.length_set
theorem rep_clear {u : Option Nat} (R : Rep K xi G H σ s) (h : noX (setN s oi none) = true) (hu : u = oi ∨ u = none) : Rep K none G H (setσ σ u none) (setN s oi none) := by
  have at_ : ∀ {j : Nat}, some j ≠ oi → (setσ σ u none)[j]? = σ[j]? := fun {j} n => by
    rcases hu with rfl | rfl
    · exact setσ_at n
    · rfl
  refine ⟨by rw [setN_len, setσ_len]; exact R.len, R.gh, fun j v q => ?_, fun i j f g b c p h1 h2 h3 h4 => ?_⟩
  · obtain ⟨q1, q2⟩ := setN_at q
    obtain ⟨w, e, r⟩ := R.sl j v q1
    refine ⟨w, by rw [at_ q2]; exact e, ?_⟩
    cases v with
    | x e => exact absurd q (noX_at h)
    | _ => exact r
  · obtain ⟨a1, a2⟩ := setN_at h1
    obtain ⟨b1, b2⟩ := setN_at h2
    rw [at_ a2] at h3
    rw [at_ b2] at h4
    exact R.ap i j f g b c p a1 b1 h3 h4
theorem stp_clear {u : Option Nat} (t : Stp G0 H0 σ0 s0 G H σ s) (hio : ∀ i b, oi = some i → s0[i]? ≠ some (some (.o false b))) (hu : u = oi ∨ u = none) : Stp G0 H0 σ0 s0 G H (setσ σ u none) (setN s oi none) := by
  have at_ : ∀ {j : Nat}, some j ≠ oi → (setσ σ u none)[j]? = σ[j]? := fun {j} n => by
    rcases hu with rfl | rfl
    · exact setσ_at n
    · rfl
  refine ⟨t.gg, t.fr, t.lv, t.gn, fun f p ⟨j, b, h1, h2⟩ => ?_, fun j b h1 => ?_⟩
  · obtain ⟨a1, a2⟩ := setN_at h1
    rw [at_ a2] at h2
    exact t.ow f p ⟨j, b, a1, h2⟩
  · obtain ⟨e1, b', e2⟩ := t.io j b h1
    have n : some j ≠ oi := fun e => hio j b e.symm h1
    refine ⟨by rw [at_ n]; exact e1, b', ?_⟩
    cases oi with
    | none => exact e2
    | some i => 
      show (s.set i none)[j]? = _
      rw [List.getElem?_set_ne fun e => n (by rw [e])]
      exact e2
theorem free_io {i : Nat} {b : Ob} (t : Stp G H σ s G1 H1 σ1 s1) (h : freeN s1 oi = true) (e : oi = some i) : s[i]? ≠ some (some (.o false b)) := fun q => by
  subst e
  obtain ⟨_, b', z⟩ := t.io i b q
  exact (freeAt_ok h).2 b' z
theorem rep_caught {a : Addr} {cls : Value} {d : Option Addr} {e : Exn} (R : Rep K none G H σ s) (hx : cls = .ref (He.ga K e.c) ∧ (e.fld = none → d = none)) (hf : ∀ nm n, e.fld = some (nm, n) → ∃ dd, d = some dd ∧ H dd = some (.xd [(nm, .int n)])) : Rep K (some (a, cls, d)) G H (setσ σ oi (some (.ref a))) (setN s oi (some (.x e))) := by
  have at_ : ∀ {j : Nat} {u : Vl}, (setN s oi (some (.x e)))[j]? = some (some u) → (s[j]? = some (some u) ∧ (setσ σ oi (some (.ref a)))[j]? = σ[j]?) ∨ (u = .x e ∧ (setσ σ oi (some (.ref a)))[j]? = some (some (.ref a))) := fun {j u} h => by
    cases oi with
    | none => exact .inl ⟨h, rfl⟩
    | some i =>
      have h : (s.set i (some (.x e)))[j]? = some (some u) := h
      by_cases q : i = j
      · subst q
        have lt : i < s.length := by
          have := (List.getElem?_eq_some_iff.mp h).1
          rw [List.length_set] at this
          exact this
        rw [List.getElem?_set_self lt] at h
        cases h
        exact .inr ⟨rfl, List.getElem?_set_self (by rw [← R.len]; exact lt)⟩
      · rw [List.getElem?_set_ne q] at h
        exact .inl ⟨h, List.getElem?_set_ne q⟩
  refine ⟨by rw [setN_len, setσ_len]; exact R.len, R.gh, fun j v q => ?_, fun i j f g b c p h1 h2 h3 h4 => ?_⟩
  · rcases at_ q with ⟨q1, q2⟩ | ⟨rfl, q2⟩
    · obtain ⟨w, z, r⟩ := R.sl j v q1
      refine ⟨w, by rw [q2]; exact z, ?_⟩
      cases v with
      | x e => obtain ⟨_, _, _, z, _⟩ := r; cases z
      | _ => exact r
    · exact ⟨_, q2, a, cls, d, rfl, rfl, hx, hf⟩
  · rcases at_ h1 with ⟨a1, a2⟩ | ⟨z, _⟩
    · rcases at_ h2 with ⟨b1, b2⟩ | ⟨z, _⟩
      · exact R.ap i j f g b c p a1 b1 (by rw [← a2]; exact h3) (by rw [← b2]; exact h4)
      · cases z
    · cases z
theorem stp_caught {a : Addr} {e : Exn} (t : Stp G0 H0 σ0 s0 G H σ s) (h : freeN s oi = true) : Stp G0 H0 σ0 s0 G H (setσ σ oi (some (.ref a))) (setN s oi (some (.x e))) := by
  cases oi with
  | none => exact t
  | some i =>
    obtain ⟨lt, nio⟩ := freeAt_ok h
    refine ⟨t.gg, t.fr, t.lv, t.gn, fun f p ⟨j, b, h1, h2⟩ => ?_, fun j b h1 => ?_⟩
    · have h1 : (s.set i (some (.x e)))[j]? = some (some (.o f b)) := h1
      have h2 : (σ.set i (some (.ref a)))[j]? = some (some (.ref p)) := h2
      by_cases q : i = j
      · subst q
        rw [List.getElem?_set_self lt] at h1
        cases h1
      · rw [List.getElem?_set_ne q] at h1 h2
        exact t.ow f p ⟨j, b, h1, h2⟩
    · obtain ⟨e1, b', e2⟩ := t.io j b h1
      have n : i ≠ j := fun q => nio b' (by rw [q]; exact e2)
      exact ⟨by show (σ.set i _)[j]? = _; rw [List.getElem?_set_ne n]; exact e1, b', by show (s.set i _)[j]? = _; rw [List.getElem?_set_ne n]; exact e2⟩
theorem suite_ok {a : Addr} {cls : Value} {d : Option Addr} {e : Exn} (R : Rep K none G1 H1 σ1 s1) (t : Stp G H σ s G1 H1 σ1 s1) (hfr : freeN s1 oi = true) (hx : cls = .ref (He.ga K e.c) ∧ (e.fld = none → d = none)) (hf : ∀ nm n, e.fld = some (nm, n) → ∃ dd, d = some dd ∧ H1 dd = some (.xd [(nm, .int n)]))
    (h : PoS K none W G H σ s (endX oi (g (setN s1 oi (some (.x e))))) De) : tS K (some (a, cls, d)) WF g { nx := fun σ' H' => De.nx (setσ σ' oi none) H', rt := De.rt, bk := fun σ' H' => De.bk (setσ σ' oi none) H', ct := fun σ' H' => De.ct (setσ σ' oi none) H' } (setσ σ1 oi (some (.ref a))) H1 := by
  refine ⟨G1, setN s1 oi (some (.x e)), rep_caught R hx hf, ?_⟩
  have t1 : Stp G H σ s G1 H1 (setσ σ1 oi (some (.ref a))) (setN s1 oi (some (.x e))) := stp_caught t hfr
  have io0 : ∀ i b, oi = some i → s[i]? ≠ some (some (.o false b)) := fun i b e => free_io t hfr e
  generalize g (setN s1 oi (some (.x e))) = r at h
  cases r with
  | nx s2 =>
    have h : PoS K none W G H σ s (if noX (setN s2 oi none) = true then .nx (setN s2 oi none) else .no) De := h
    split at h
    · rename_i c
      exact fun G2 H2 σ2 t2 R2 => h G2 H2 _ (stp_clear (t1.trans t2) io0 (.inl rfl)) (rep_clear R2 c (.inl rfl))
    · exact h.elim
  | bk s2 =>
    have h : PoS K none W G H σ s (if noX (setN s2 oi none) = true then .bk (setN s2 oi none) else .no) De := h
    split at h
    · rename_i c
      exact fun G2 H2 σ2 t2 R2 => h G2 H2 _ (stp_clear (t1.trans t2) io0 (.inl rfl)) (rep_clear R2 c (.inl rfl))
    · exact h.elim
  | ct s2 =>
    have h : PoS K none W G H σ s (if noX (setN s2 oi none) = true then .ct (setN s2 oi none) else .no) De := h
    split at h
    · rename_i c
      exact fun G2 H2 σ2 t2 R2 => h G2 H2 _ (stp_clear (t1.trans t2) io0 (.inl rfl)) (rep_clear R2 c (.inl rfl))
    · exact h.elim
  | rt v s2 =>
    cases v with
    | d x =>
      have h : PoS K none W G H σ s (if noX (setN s2 oi none) = true then .rt (.d x) (setN s2 oi none) else .no) De := h
      split at h
      · rename_i c
        exact fun v G2 H2 σ2 t2 R2 rv => h v G2 H2 (setσ σ2 oi none) (stp_clear (t1.trans t2) io0 (.inl rfl)) (rep_clear R2 c (.inl rfl)) rv
      · exact h.elim
    | o f b =>
      cases f with
      | true =>
        have h : PoS K none W G H σ s (if noX (setN s2 oi none) = true then .rt (.o true b) (setN s2 oi none) else .no) De := h
        split at h
        · rename_i c
          refine fun v G2 H2 σ2 t2 R2 rv => ?_
          obtain ⟨_, p, rfl, w1, w2, w3, w4⟩ := rv
          refine h _ G2 H2 (setσ σ2 oi none) (stp_clear (t1.trans t2) io0 (.inl rfl)) (rep_clear R2 c (.inl rfl)) ⟨rfl, p, rfl, w1, ?_, w3, fun g ⟨j, c, z1, z2⟩ => ?_⟩
          · rcases w2 with z | z
            · left
              cases q : H p with
              | none => rfl
              | some o => exact absurd z (t.lv p (ne_none q))
            · rcases t1.ow true p z with ⟨q, _⟩ | q
              · exact .inl q
              · exact .inr q
          · obtain ⟨a1, a2⟩ := setN_at z1
            rw [setσ_at a2] at z2
            exact w4 g ⟨j, c, a1, z2⟩
        · exact h.elim
      | false => exact h.elim
    | r j => exact h.elim
    | x y => exact h.elim
    | s ns => exact h.elim
    | z zp => exact h.elim
  | er y s2 => exact h.elim
  | no => exact h.elim
theorem rs_try_as {x n : Str} {c : Value} {i : Nat} {body suite : List Stmt} {b₀ : Stmt} {np pos' : Pos} {cm : Str → Option Bool} (hs : X.stack = X.env :: X.outer) (hf : X.env.frame = some X.env.locals) (hN : X.N.Nodup) (hi : X.N[i]? = some n) (hln : X.env.kindOf n = some .local) (hc : Names X x c) (tk : L2N.Takes X W)
    (hcm : ∀ nm b, cm nm = some b → PySem.W.exmOne X.K (.ref (He.ga X.K nm)) c = some b)
    (hb : ∀ (W : WX) (pn : List (Addr × Obj)) (xe : Value → Shared → Prop), L2N.Takes (X.tr pn xe) W → PassesOwn (model X.prog X.w) X.A X.env xe → PSs (X.tr pn xe) body (tS K none W f))
    (hsu : ∀ (a : Addr) (oe : Obj) (cls : Value) (d : Option Addr) (pn : List (Addr × Obj)), L2N.Zn cls d oe → (∃ vs, oe.data = .fields vs) → PSs (X.suite a ((a, oe) :: pn)) (b₀ :: suite) (tS K (some (a, cls, d)) WF g)) (hK : X.K = K := by rfl) :
    PS X (.Try body [.ExceptHandler (some (.Name x np)) (some n) (b₀ :: suite) pos'] [] [] pos) (tS K none W (tryS cm (some i) f g)) := by
  subst hK
  refine PS.mono (L2N.ps_try_as hs hf hN hi hln hc tk hb hsu) fun D σ H h => ?_
  obtain ⟨G, s, R, h⟩ := h
  refine ⟨G, s, R, ?_⟩
  have h : PoS X.K none W G H σ s (hdX cm (some i) g (f s)) D := h
  cases q : f s with
  | nx s1 => rw [q] at h; exact h
  | rt v s1 => rw [q] at h; exact h
  | bk s1 => rw [q] at h; exact h
  | ct s1 => rw [q] at h; exact h
  | no => rw [q] at h; exact h
  | er e s1 =>
    rw [q] at h
    intro G1 H1 σ1 t1 R1
    have h : PoS X.K none W G H σ s (match cm e.c with
      | some true => if freeN s1 (some i) = true then endX (some i) (g (setN s1 (some i) (some (.x e)))) else .no
      | some false => .er e s1
      | none => .no) D := h
    have all : ∀ d : Option Addr, (e.fld = none → d = none) → (∀ nm n, e.fld = some (nm, n) → ∃ dd, d = some dd ∧ H1 dd = some (.xd [(nm, .int n)])) → (cm e.c = some false → W (.ref (He.ga X.K e.c)) d σ1 H1) →
        wAs X.K c i (fun a cls d => tS X.K (some (a, cls, d)) WF g) W D (.ref (He.ga X.K e.c)) d σ1 H1 := fun d h1 h2 h3 => by
      split at h
      · rename_i ec
        split at h
        · rename_i fr
          exact ⟨true, hcm _ _ ec, fun _ a _ => suite_ok (oi := some i) R1 t1 fr ⟨rfl, h1⟩ h2 h, fun z => nomatch z⟩
        · exact h.elim
      · rename_i ec
        exact ⟨false, hcm _ _ ec, (fun z => nomatch z), fun _ => h3 ec⟩
      · exact h.elim
    unfold EW
    split
    · rename_i ef
      refine all none (fun _ => rfl) (fun nm n z => by rw [ef] at z; cases z) fun ec => ?_
      rw [ec] at h
      have z := h G1 H1 σ1 t1 R1
      unfold EW at z
      rw [ef] at z
      exact z
    · rename_i nm n ef
      intro dd hd
      refine all (some dd) (fun z => by rw [ef] at z; cases z) (fun nm' n' z => by rw [ef] at z; cases z; exact ⟨dd, rfl, hd⟩) fun ec => ?_
      rw [ec] at h
      have z := h G1 H1 σ1 t1 R1
      unfold EW at z
      rw [ef] at z
      exact z dd hd
end
end M
set_option Elab.async false
set_option linter.all false
set_option maxRecDepth 100000
set_option maxHeartbeats 4000000
namespace M
open PySem PySem.Spec PyProof.Rows L2 Sv
variable [Wd]
def subS (i : Nat) (fk fv : S → ER Vl) : S → Out := fun s => (fv s).out fun v s1 => match v with
  | .d x => (match lstAt s1 i with
    | some _ => (fk s1).out fun k s2 => (match lstAt s2 i, rd s2 k with
      | some (f, ds), some (.int n) => (match ixN ds.length n with
        | some j => .nx (s2.set i (some (.o f (.L (ds.set j x)))))
        | none => .no)
      | _, _ => .no)
    | none => .no)
  | _ => .no
def seqD : D → Option (List D)
  | .list ds => some ds
  | .tuple ds => some ds
  | _ => none
def starA (fa : S → ER Vl) (fr : S → ER (List Vl)) : S → ER (List Vl) := fun s => (fa s).bind fun a s1 => match (rd s1 a).bind seqD with
  | some ds => (fr s1).bind fun r s2 => .ok (ds.map .d ++ r) s2
  | none => .no
def isxE (i : Nat) (km : Str → Option Bool) : S → ER Vl := fun s => match s[i]? with
  | some (some (.x e)) => (match e.fld, km e.c with
    | none, some b => .ok (.d (.bool b)) s
    | _, _ => .no)
  | _ => .no
section
variable {X : Cx} {K : PySem.W.Frag} {xi : XI} {W : WX} {G H G' H' G1 H1 G0 H0 : Hp} {σ σ' σ1 σ0 : Ss} {s s' s1 s0 : S} {e ev : Expr} {es : List Expr} {fa fk fv : S → ER Vl} {fr : S → ER (List Vl)} {f g : S → Out} {De : Ends} {pos p q tpos : Pos} {i : Nat}
theorem VRs.app : ∀ {vs us : List V} {ds : List D} {vls : List Vl}, RpAll K G vs ds → VRs K xi H0 σ0 s0 G H σ s us vls → VRs K xi H0 σ0 s0 G H σ s (vs ++ us) (ds.map .d ++ vls)
  | _, _, _, _, .nil, b => b
  | _, _, _, _, .cons a r, b => .cons a (VRs.app r b)
theorem call_isX {a : Addr} {oe : Obj} {C cls : Value} {d : Option Addr} {c : V} {b : Bool} {nm : Str} {pins : List (Addr × Obj)} {Q : VK} {us : List Value} (hp : (a, oe) ∈ X.pn) (hz : Zc cls d oe) (hf : ∃ vs, oe.data = .fields vs) (hcls : cls = .ref (He.ga X.K nm)) (hd : d = none) (hc : ExcC X.K (He.ga X.K nm)) (hcv : ∀ u, RelV c u → u = C) (hb : PySem.W.kitOne X.K (.ref (He.ga X.K nm)) C = some b)
    {st : Shared} (I : Inv X pins σ H st) (r : Vals [.ref a, c] us) (qq : Q (.bl b) H) : wpAny (model X.prog X.w) X.A (call (.builtin "isinstance") us) (EP X pins σ Q) X.xe st := by
  subst hcls hd
  obtain ⟨u1, u2, rfl, r1, r2⟩ := vals2 r
  cases (show u1 = Value.ref a from r1)
  have e2 := hcv _ r2
  subst e2
  have look := (I.pin (a, oe) (List.mem_append_left _ hp)).1
  obtain ⟨vs, hv⟩ := hf
  have inst : PySem.W.InstAt st.heap a oe (He.ga X.K nm) none := by
    cases oe
    simp only [Zc] at hz
    obtain ⟨z1, z2⟩ := hz
    subst z1 z2 hv
    exact ⟨look, rfl, rfl, trivial⟩
  exact PySem.W.kia_one (PySem.W.handS_kitx_exc hc.hg hc.hk hc.hs hc.hd hc.ha hc.hn hc.ht hc.hm) I.kIn inst hb (fun z => nomatch z) fun tk => ⟨.bl b, H, I.tok tk, rfl, qq⟩
theorem re_isx {a : Addr} {oe : Obj} {cls : Value} {d : Option Addr} {n c : Str} {C : Addr} {km : Str → Option Bool} {q1 q2 : Pos} (hp : (a, oe) ∈ X.pn) (hz : Zc cls d oe) (hf : ∃ vs, oe.data = .fields vs) (hg : Gl X "isinstance") (hm : X.mg "isinstance" = none) (hn : PE X (.Name n q1) (tVar i)) (hc : PE X (.Name c q2) (tC (.ref C)))
    (hk : ∀ nm b, km nm = some b → ExcC X.K (He.ga X.K nm) ∧ PySem.W.kitOne X.K (.ref (He.ga X.K nm)) (.ref C) = some b) (hK : X.K = K := by rfl) (hs : starEach [.Name n q1, .Name c q2] X.env = (false, eval (.Name n q1) X.env) :: starEach [.Name c q2] X.env := by rfl) (hs2 : starEach [.Name c q2] X.env = (false, eval (.Name c q2) X.env) :: starEach [] X.env := by rfl) (hpl : (backTo pos (starEach [.Name c q2] X.env)).any (·.1) = false := by rfl) :
    PE X (.Call (.Name "isinstance" p) [.Name n q1, .Name c q2] [] pos) (tE K (some (a, cls, d)) W (isxE i km)) := by
  subst hK
  refine ⟨fun pins st σ H Q I h => ?_⟩
  obtain ⟨G, s, R, h⟩ := h
  have ha : PA X [.Name n q1, .Name c q2] (tCons (tVar i) (tCons (tC (.ref C)) tNil)) := pa_cons hn (pa_cons hc pa_nil hs2) hs
  unfold isxE at h
  split at h
  · rename_i e qe
    split at h
    · rename_i b ef ek
      obtain ⟨v, sv, a', cls', d', h1, rfl, ⟨h3, h4⟩, h5⟩ := R.sl i _ qe
      cases h1
      obtain ⟨k1, k2⟩ := hk _ _ ek
      refine wpAny_Call_Name_kw (ld_blt I hg hm boot_isinstance ?_)
      refine PyProof.Rows.callWith_builtin1 (thn (ha.run pos pins st σ H (fun vs H1 => vs = [.ref a, .ref C] ∧ H1 = H) I ⟨_, sv, rfl, rfl⟩) fun us s1 ⟨vs, H1, I1, r1, ev, eH⟩ => ?_) hs hpl
      subst ev eH
      exact call_isX (c := .ref C) (C := .ref C) hp hz hf h3 (h4 ef) k1 (fun u r => r) k2 I1 r1 (h _ G _ .refl R (.bl b))
    · exact h.elim
  · exact h.elim
end
end M
set_option Elab.async false
set_option linter.all false
set_option maxRecDepth 100000
set_option maxHeartbeats 4000000
namespace M
open PySem PySem.Spec PyProof.Rows L2 Sv L2H
variable [Wd]
structure FnI (P : Program) (w : World) (K : PySem.W.Frag) (mg : Str → Option Value) (base : Heap) (k : Nat) (f : Addr) (fd : FuncData) (ps : List Str) (sp : Addr × Obj → Sp) : Prop where
  run : ∀ (p : Addr × Obj) (A : Around) (outer : List Env) (s : Shared) (H : Hp) (args : Args) (us : List Value) (vs : List V) (Q : VK) (E : XK), RoomH k A → Hot1 A p → PinOk outer H s p → Env0 P w K mg base A outer s H → BindsTo s fd args (ps.zip us) → vs.length = ps.length → Vals vs us → sp p vs H Q E →
    codeAny (model P w) A (.call (.ref f) args) (CR (L2N.CX P w) outer P w H s Q E) s
theorem fnI_of {P : Program} {w : World} {K : PySem.W.Frag} {mg : Str → Option Value} {base : Heap} {nm q : Str} {st : Stmt} {f : Addr} {fd : FuncData} {N ps : List Str} {k : Nat} {sp : Addr × Obj → Sp} (F : Fun K nm q st f fd) (S : FnScope N ps (defScope st))
    (hb : ∀ (c : Value) (p : Addr × Obj) (A : Around) (outer : List Env) (s : Shared) (H : Hp) (vs : List V) (Q : VK) (E : XK), Hot1 A p → RoomH k (A.deeper (envOfC q (defScope st) s.heap.objs.size f c)) → sp p vs H Q E →
      ∃ t, PSs (cxH (L2N.CX P w) P w K mg base N q (defScope st) f c A outer s H E p) (defBody st) t ∧ t { nx := fun _ H' => Q .non H', rt := Q } (L2.start N vs) H) : FnI P w K mg base (k + 1) f fd ps sp := by
  refine ⟨fun p A outer s H args us vs Q E rm hot pin e0 bind hl rel hsp => ?_⟩
  obtain ⟨oc, od, kv, dc, pm, an, c, ct, sl, rfl, look, code⟩ := F.ex
  have inK : K.In s.heap := e0.mod.kin.keeps fun _ _ z => (e0.bs _ _ z).1
  have noL : s.heap.NoLimit := e0.mod.nolimit.keeps fun _ _ z => (e0.bs _ _ z).1
  have par : ∀ y ∈ ps.zip us, (defScope st).names.lookup y.1 = some .local ∨ ((defScope st).names.lookup y.1 = some .cell ∧ ((cellsFrom (s.heap.objs.size + 1) (defScope st).names []).lookup y.1).isSome = true) := by
    rintro ⟨n, z⟩ m
    exact (S.par n (List.of_mem_zip m).1).imp id fun e => ⟨e, PySem.W.cellsFrom_some _ _ _ (.inl e)⟩
  refine codeAny_call_function rm.depth (inK _ _ look) rfl S.co S.gen rfl (PySem.W.codeRec_of inK code) (bind _ _ _ _ ?_)
  refine wpAny_newFunctionEnv_cells S.kind par ?_
  rintro env rfl s1 x1
  refine ⟨noL.keeps x1.toInCall.keep, codeAny_func ?_⟩
  obtain ⟨t, ht, goal⟩ := hb c p A outer s H vs Q E hot (rm.deeper _) hsp
  have I := inv_startH (CX := L2N.CX P w) (E := E) S pin e0 hl rel x1
  refine wpAny_mono (ht.run [] s1 _ H _ I goal) ?_ fun _ _ z => z
  rintro fl s2 done
  cases fl with
  | next =>
    obtain ⟨σ2, H2, J, z⟩ := done
    exact ⟨.non, H2, J.os, J.bare, J.base, J.hok, rfl, z⟩
  | ret y =>
    obtain ⟨v2, σ2, H2, J, rv, z⟩ := done
    exact ⟨v2, H2, J.os, J.bare, J.base, J.hok, rv, z⟩
  | brk => exact done.elim fun _ z => z.elim fun _ z => z.2.elim
  | cont => exact done.elim fun _ z => z.elim fun _ z => z.2.elim
def spI (K : PySem.W.Frag) (n : Nat) (F : S → ER Vl) : Addr × Obj → Sp := fun p vs H Q E => vs.length = n ∧ ∃ (G : Hp) (s0 : S) (cls : Value) (d : Option Addr), Zc cls d p.2 ∧ (∃ vs, p.2.data = .fields vs) ∧ (∀ a ∈ s0, isArg a) ∧ Rep K (some (p.1, cls, d)) G H (vs.map some) s0 ∧
  Po K (some (p.1, cls, d)) (WX0 E) (VR K (some (p.1, cls, d))) G H (vs.map some) s0 (F s0) Q
theorem fin_ofI {K : PySem.W.Frag} {H : Hp} {f : S → Out} {n : Nat} {N : List Str} {vs : List V} {Q : VK} {E : XK} {p : Addr × Obj} {X : Cx} {bd : List Stmt} (h : spI K n (fin N.length f) p vs H Q E)
    (hb : ∀ (cls : Value) (d : Option Addr), Zc cls d p.2 → (∃ vs, p.2.data = .fields vs) → PSs X bd (tS K (some (p.1, cls, d)) (WX0 E) f)) : ∃ t, PSs X bd t ∧ t { nx := fun _ H' => Q .non H', rt := Q } (L2.start N vs) H := by
  obtain ⟨_, G, s0, cls, d, hz, hf, ha, R, h⟩ := h
  exact ⟨_, hb cls d hz hf, fin_gen ha R h⟩
def call1I (n : Nat) (F : S → ER Vl) (vls : List Vl) (s1 : S) : ER Vl := match argVs s1 vls with
  | some as => if (refs vls).Nodup ∧ vls.length = n then callR vls s1 (F (argS as)) else .no
  | none => .no
def callI (n : Nat) (F : S → ER Vl) (fa : S → ER (List Vl)) : S → ER Vl := fun s => (fa s).bind fun vls s1 => call1I n F vls s1
section
variable {X : Cx} {K : PySem.W.Frag} {xi : XI} {W : WX} {G H G' H' G1 H1 : Hp} {σ σ' σ1 : Ss} {s s' s1 : S}
end
end M
set_option Elab.async false
set_option linter.all false
set_option maxRecDepth 100000
set_option maxHeartbeats 4000000
namespace M
open PySem PySem.Spec PyProof.Rows L2 Sv
variable [Wd]
def LawN (P : Program) (w : World) (K : PySem.W.Frag) (mg : Str → Option Value) (base : Heap) (f : Addr) (fd : FuncData) (x : Str) (sp : Sp) : Prop :=
  ∀ (s : Shared) (H : Hp) (u : Value) (v : V) (Q : VK) (E : XK), Env0 P w K mg base callerA [] s H → BindsTo s fd ⟨[u], []⟩ [(x, u)] → RelV v u → sp [v] H Q E →
    codeAny (model P w) callerA (.call (.ref f) ⟨[u], []⟩) (CR (L2N.CX P w) [] P w H s Q E) s
theorem room_claimN {k : Nat} (h : k ≤ 20) : Room k callerA := (show Room 20 callerA from ⟨rfl, by decide, by decide⟩).mono h
theorem law_goesN {P : Program} {w : World} {K : PySem.W.Frag} {mg : Str → Option Value} {base : Heap} {nm q x : Str} {st : Stmt} {f : Addr} {fd : FuncData} {N : List Str} {sp : Sp} (F : Fun K nm q st f fd) (S : FnScope N [x] (defScope st))
    (hb : ∀ (c : Value) (s : Shared) (H : Hp) (v : V) (Q : VK) (E : XK), Room 19 (callerA.deeper (envOfC q (defScope st) s.heap.objs.size f c)) → sp [v] H Q E →
      ∃ t, PSs (cxOf (L2N.CX P w) P w K mg base N q (defScope st) f c callerA [] s H E) (defBody st) t ∧ t ⟨fun _ H' => Q .non H', Q, fun _ _ => False, fun _ _ => False⟩ (start N [v]) H) : LawN P w K mg base f fd x sp := by
  intro s H u v Q E e0 bind rel hsp
  obtain ⟨oc, od, kv, dc, pm, an, c, ct, sl, rfl, look, code⟩ := F.ex
  have inK : K.In s.heap := e0.mod.kin.keeps fun _ _ z => (e0.bs _ _ z).1
  have noL : s.heap.NoLimit := e0.mod.nolimit.keeps fun _ _ z => (e0.bs _ _ z).1
  have par : ∀ y ∈ [x].zip [u], (defScope st).names.lookup y.1 = some .local ∨ ((defScope st).names.lookup y.1 = some .cell ∧ ((cellsFrom (s.heap.objs.size + 1) (defScope st).names []).lookup y.1).isSome = true) := by
    rintro ⟨n, z⟩ m
    exact (S.par n (List.of_mem_zip m).1).imp id fun e => ⟨e, PySem.W.cellsFrom_some _ _ _ (.inl e)⟩
  have rm : Room 20 callerA := room_claimN (Nat.le_refl _)
  refine codeAny_call_function rm.depth (inK _ _ look) rfl S.co S.gen rfl (PySem.W.codeRec_of inK code) (bind _ _ _ _ ?_)
  refine wpAny_newFunctionEnv_cells S.kind par ?_
  rintro env rfl s1 x1
  refine ⟨noL.keeps x1.toInCall.keep, codeAny_func ?_⟩
  obtain ⟨t, ht, goal⟩ := hb c s H v Q E (rm.deeper _) hsp
  have I := inv_start (CX := L2N.CX P w) (E := E) S rm.hd e0 (vs := [v]) (us := [u]) rfl (.cons rel .nil) x1
  refine wpAny_mono (ht.run [] s1 _ H _ I goal) ?_ fun _ _ z => z
  rintro fl s2 done
  cases fl with
  | next =>
    obtain ⟨σ2, H2, J, z⟩ := done
    exact ⟨.non, H2, J.os, J.bare, J.base, J.hok, rfl, z⟩
  | ret y =>
    obtain ⟨v2, σ2, H2, J, rv, z⟩ := done
    exact ⟨v2, H2, J.os, J.bare, J.base, J.hok, rv, z⟩
  | brk => exact done.elim fun _ z => z.elim fun _ z => z.2.elim
  | cont => exact done.elim fun _ z => z.elim fun _ z => z.2.elim
def ScriptN (K : PySem.W.Frag) (a : Addr) (us : List Value) (vs : List V) (H : Hp) : Prop :=
  ∀ b o, H b = some o → b = a ∧ K.lookup a = none ∧ o = .frz { cls := .type "list", data := .seq us.toArray } (.lst vs)
theorem claim_callN {P : Program} {w : World} {K : PySem.W.Frag} {mg mb : Str → Option Value} {f a : Addr} {fd : FuncData} {x : Str} {sp : Sp} {s : Shared} {us : List Value} {ns : List Int}
    (inK : K.In s.heap) (glob : s.heap.Ns mainGlobals mg) (blt : s.heap.Ns builtinsNs mb) (boot : ∀ y : Str, y ≠ "__name__" → mb y = bootBuiltins y) (lim : s.heap.NoLimit) (gen : s.gens = #[])
    (script : s.heap.get? a = some { cls := .type "list", data := .seq us.toArray }) (isI : IntsAre us ns) (few : ns.length ≤ sizeLine)
    (F : ∀ base : Heap, K.In base → base.Ns mainGlobals mg → LawN P w K mg base f fd x sp) (bind : ∀ (s : Shared) (u : Value), BindsTo s fd ⟨[u], []⟩ [(x, u)])
    (law : ∀ H : Hp, SqL K H a (ns.map V.int) → sp [.ref a] H (fun v _ => v = .bl true) fun _ _ _ => False) :
    codeAny (model P w) callerA (.call (.ref f) ⟨[.ref a], []⟩) (fun r s' => r = .ok (.ret (.bool true)) ∧ OldK s.heap s'.heap ∧ s'.os = s.os ∧ AllBare s'.gens) s := by
  have rel := vals_ints isI
  have few2 : (ns.map V.int).length ≤ sizeLine := by rw [List.length_map]; exact few
  -- the heap that the walk begins with
  obtain ⟨H, one, seen⟩ : ∃ H : Hp, ScriptN K a us (ns.map V.int) H ∧ SqL K H a (ns.map V.int) := by
    cases look : K.lookup a with
    | none =>
      refine ⟨upd (fun _ => none) a (.frz { cls := .type "list", data := .seq us.toArray } (.lst (ns.map V.int))), fun b o z => ?_, .inl (.inr ⟨_, upd_same⟩)⟩
      by_cases e : b = a
      · subst e
        rw [upd_same] at z
        exact ⟨rfl, look, (Option.some.inj z).symm⟩
      · rw [upd_ne e] at z
        cases z
    | some o =>
      have z := inK a o look
      rw [script] at z
      cases z
      exact ⟨fun _ => none, fun b o z => (nomatch z), .inr ⟨_, us.toArray, _, look, rfl, rfl, rfl, by rw [List.size_toArray, isI.length]; exact few, by simpa using rel⟩⟩
  have ok : HOk P w H s.heap := fun b o z => by
    obtain ⟨rfl, _, rfl⟩ := one b o z
    exact ⟨script, few2, us, _, rel, script⟩
  have down : ∀ {b : Addr} {o : Obj}, s.heap.get? b = some o → b ≠ a ∨ K.lookup a ≠ none → (hidT s.heap H).get? b = some o := fun {b o} g n => by
    refine hidT_get g ?_
    cases z : H b with
    | none => rfl
    | some u =>
      obtain ⟨e1, e2, _⟩ := one b u z
      exact (n.elim (fun n => n e1) fun n => n e2).elim
  have dict : ∀ {b : Addr} {m : Str → Option Value}, s.heap.Ns b m → (hidT s.heap H).Ns b m := fun {b m} ⟨o, es, ep, e, d, r⟩ => by
    refine ⟨o, es, ep, down e (.inl fun z => ?_), d, r⟩
    rw [z, script] at e
    have e1 := congrArg Obj.data (Option.some.inj e)
    rw [d] at e1
    cases e1
  have fragIn : K.In (hidT s.heap H) := fun b o z => down (inK b o z) (by
    by_cases e : b = a
    · refine .inr ?_
      rw [← e, z]
      simp
    · exact .inl e)
  have env : Env0 P w K mg (hidT s.heap H) callerA [] s H :=
    { frames := rfl, mod := ⟨fragIn, dict glob, ⟨mb, dict blt, boot⟩, lim.elim fun m z => ⟨m, dict z.1, z.2⟩⟩, bs := fun _ _ z => of_hidT z, bsz := by rw [hidT_size]; exact Nat.le_refl _, funs := trivial,
      frf := fun b m => (nomatch m), hok := ok, bare := .of_eq gen }
  have run := F _ fragIn (dict glob) s H (.ref a) (.ref a) _ _ env (bind s _) rfl (law H seen)
  refine codeAny_mono run fun r s2 z => ?_
  cases r with
  | error e =>
    obtain ⟨_, _, _, _, _, _, _, _, _, _, _, _, y⟩ := z
    exact y.elim
  | ok fl =>
    cases fl with
    | ret u =>
      obtain ⟨v, H2, os, bare, un, ok2, rv, rfl⟩ := z
      cases (show u = Value.bool true from rv)
      refine ⟨rfl, OldK.of_keep fun b o g => ?_, os, bare⟩
      cases y : H b with
      | none => exact un.keep b o g y (fun m => (nomatch m)) (fun m => (nomatch m))
      | some h =>
        obtain ⟨rfl, _, rfl⟩ := one b h y
        have k2 := (ok2 _ _ (un.frzs _ _ _ y)).1
        rw [script] at g
        cases g
        exact k2
    | next => exact z.elim
    | brk => exact z.elim
    | cont => exact z.elim
theorem claim_walkN {l : PySem.W.OpenLaw} {n : Nat} {q : Program} {loose : List Str} {XP : (Str → Option Value) → Heap → Prop} {YP : World → Heap → Prop} {d : DefRec} {x : Str} (most : l.most = some n) (line : n ≤ sizeLine) (plain : d.params.defaults = [])
    (F : ∀ (w : World) (mg : Str → Option Value) (f : Addr) (h : Heap), YP w h → h.Ns mainGlobals mg → mg d.name = some (.ref f) →
      ∃ (K : PySem.W.Frag) (fd : FuncData) (sp : Sp), K.In h ∧ (∀ (s : Shared) (u : Value), BindsTo s fd ⟨[u], []⟩ [(x, u)]) ∧
        (∀ (H : Hp) (a : Addr) (ns : List Int), ns.length ≤ n → SqL K H a (ns.map V.int) → sp [.ref a] H (fun v _ => v = .bl true) fun _ _ _ => False) ∧
        ∀ base : Heap, K.In base → base.Ns mainGlobals mg → LawN l.prog w K mg base f fd x sp) : PySem.W.WalkO q loose XP YP l.row.toRowW d [] (fun f vs => PySem.call f vs) := by
  refine Att.attach_call most plain ?_
  intro w s0 s1 mg mb f o pm cd dc a us ns G Y _ _ _ name obj isI len gen
  obtain ⟨K, fd, sp, inK, bind, law, goes⟩ := F w mg f _ Y G.T.g name
  exact claim_callN inK G.T.g G.T.b G.T.builtins G.T.nolimit gen obj isI (Nat.le_trans len line) goes bind fun H seen => law H a ns len seen
theorem takesF {X : Cx} : L2N.Takes X WF := fun u s' ⟨_, _, _, _, _, _, _, _, _, _, _, _, _, _, _, _, z⟩ => z.elim
section
variable {P : Program} {w : World} {K : PySem.W.Frag} {mg : Str → Option Value} {base : Heap}
theorem okN {x qual : Str} {st : Stmt} {f : Addr} {fd : FuncData} {N ps : List Str} {k n : Nat} {b : S → Out} (F : Fun K x qual st f fd) (S : FnScope N ps (defScope st)) (hn : n = ps.length)
    (hbody : ∀ (cdv : Value) (A : Around) (outer : List Env) (s : Shared) (H : Hp) (E : XK), Room k (A.deeper (envOfC qual (defScope st) s.heap.objs.size f cdv)) → PSs (cxOf (L2N.CX P w) P w K mg base N qual (defScope st) f cdv A outer s H E) (defBody st) (tS K none (WX0 E) b)) :
    FnOk P w K mg base (L2N.CX P w) (k + 1) f fd ps (spF K n (fin N.length b)) := by
  obtain ⟨oc, od, kV, doc, pm, an, cdv, ct, osl, rfl, lk, hcd⟩ := F.ex
  exact fn_of lk hcd S (fun vs H Q E h => h.1.trans hn) fun A outer s H vs Q E hr hsp => ⟨_, hbody cdv A outer s H E hr, fin_of hsp⟩
theorem okI {x qual : Str} {st : Stmt} {f : Addr} {fd : FuncData} {N ps : List Str} {k n : Nat} {b : S → Out} (F : Fun K x qual st f fd) (S : FnScope N ps (defScope st))
    (hbody : ∀ (c : Value) (p : Addr × Obj) (A : Around) (outer : List Env) (s : Shared) (H : Hp) (E : XK) (cls : Value) (d : Option Addr), L2H.RoomH k (A.deeper (envOfC qual (defScope st) s.heap.objs.size f c)) → Zc cls d p.2 → (∃ vs, p.2.data = .fields vs) →
      PSs (L2H.cxH (L2N.CX P w) P w K mg base N qual (defScope st) f c A outer s H E p) (defBody st) (tS K (some (p.1, cls, d)) (WX0 E) b)) : FnI P w K mg base (k + 1) f fd ps (spI K n (fin N.length b)) :=
  fnI_of F S fun c p A outer s H vs Q E hot rm hsp => fin_ofI hsp fun cls d hz hf => hbody c p A outer s H E cls d rm hz hf
theorem lawN {q : Str} {st : Stmt} {f : Addr} {fd : FuncData} {N : List Str} {x : Str} {b : S → Out} (F : Fun K x q st f fd) {y : Str} (S : FnScope N [y] (defScope st))
    (hbody : ∀ (c : Value) (s : Shared) (H : Hp) (E : XK), Room 19 (callerA.deeper (envOfC q (defScope st) s.heap.objs.size f c)) → PSs (cxOf (L2N.CX P w) P w K mg base N q (defScope st) f c callerA [] s H E) (defBody st) (tS K none (WX0 E) b)) :
    LawN P w K mg base f fd y (spF K 1 (fin N.length b)) :=
  law_goesN F S fun c s H v Q E hr hsp => ⟨_, hbody c s H E hr, fin_of hsp⟩
end
theorem law_sp {K : PySem.W.Frag} {F : S → ER Vl} {H : Hp} {a : Addr} {ns : List Int} (hs : SqL K H a (ns.map V.int)) (h : ∃ s', F [some (.s ns)] = .ok (.d (.bool true)) s') : spF K 1 F [.ref a] H (fun v _ => v = .bl true) fun _ _ _ => False := by
  obtain ⟨s', e⟩ := h
  refine ⟨rfl, H, [some (.s ns)], fun u m => ?_, ⟨rfl, Same.refl _, fun i vl q => ?_, fun i j f g b c p h1 => ?_⟩, ?_⟩
  · rw [List.mem_singleton.mp m]
    exact trivial
  · match i, q with
    | 0, q => cases q; exact ⟨_, rfl, a, rfl, hs⟩
    | i + 1, q => simp at q
  · match i, h1 with
    | 0, q => cases q
    | i + 1, q => simp at q
  · rw [e]
    intro v G' H' _ _ r
    have r : Rp K G' v (.bool true) := r
    cases r
    rfl
end M
set_option Elab.async false
set_option linter.all false
set_option maxRecDepth 100000
set_option maxHeartbeats 4000000
namespace M
open PySem PySem.Spec PyProof.Rows L2 Sv
variable [Wd]
def tabF {α : Type} : List (Str × α) → Str → Option α
  | [], _ => none
  | (a, b) :: r, c => if c = a then some b else tabF r c
theorem tabF_mem {α : Type} {c : Str} {b : α} : ∀ {l : List (Str × α)}, tabF l c = some b → (c, b) ∈ l
  | (a, d) :: r, h => by
    unfold tabF at h
    split at h
    · rename_i e
      cases h
      rw [e]
      exact List.mem_cons_self
    · exact List.mem_cons_of_mem _ (tabF_mem h)
abbrev XTab := List (Str × List (Str × Bool))
def kmOf (l : XTab) (C : Str) (nm : Str) : Option Bool := (tabF l nm).bind fun r => tabF r C
theorem kmOf_mem {l : XTab} {C nm : Str} {b : Bool} (h : kmOf l C nm = some b) : ∃ r, (nm, r) ∈ l ∧ (C, b) ∈ r := by
  unfold kmOf at h
  cases q : tabF l nm with
  | none => rw [q] at h; cases h
  | some r => rw [q] at h; exact ⟨r, tabF_mem q, tabF_mem h⟩
def excB (K : PySem.W.Frag) (D : Addr) : Bool :=
  He.eqO (PySem.W.findIn K (.ref D) "__getattribute__") (some (some (.builtin "BaseException.__getattribute__"))) && (He.eqO (PySem.W.findIn K (.ref D) "__getattr__") (some none) &&
    (decide (PySem.W.subIn K (.ref D) (.type "BaseException") = some true) && (PySem.W.hasDictIn K D && (He.eqO (PySem.W.findIn K (.ref D) "__class__") (some (some (.builtin "object.__class__"))) &&
      (He.eqO (PySem.W.specialIn K (.builtin "object.__class__") "__get__") (some (some (.builtin "getset_descriptor.__get__"))) && (decide (PySem.W.takesIn K (.builtin "object.__class__") = some true) && decide (PySem.W.mroIn K D (.type "object") = some true)))))))
theorem excB_ok {K : PySem.W.Frag} {D : Addr} (h : excB K D = true) : ExcC K D := by
  obtain ⟨h1, h⟩ := He.ba h
  obtain ⟨h2, h⟩ := He.ba h
  obtain ⟨h3, h⟩ := He.ba h
  obtain ⟨h4, h⟩ := He.ba h
  obtain ⟨h5, h⟩ := He.ba h
  obtain ⟨h6, h⟩ := He.ba h
  obtain ⟨h7, h8⟩ := He.ba h
  exact ⟨He.eqO_ok h1, He.eqO_ok h2, of_decide_eq_true h3, h4, He.eqO_ok h5, He.eqO_ok h6, of_decide_eq_true h7, of_decide_eq_true h8⟩
def kitsB (K : PySem.W.Frag) (l : XTab) : Bool := l.all fun p => excB K (He.ga K p.1) && p.2.all fun q => decide (PySem.W.kitOne K (.ref (He.ga K p.1)) (.ref (He.ga K q.1)) = some q.2)
def exmsB (K : PySem.W.Frag) (l : XTab) : Bool := l.all fun p => p.2.all fun q => decide (PySem.W.exmOne K (.ref (He.ga K p.1)) (.ref (He.ga K q.1)) = some q.2)
theorem km_ok {K : PySem.W.Frag} {l : XTab} (h : kitsB K l = true) {C : Str} : ∀ nm b, kmOf l C nm = some b → ExcC K (He.ga K nm) ∧ PySem.W.kitOne K (.ref (He.ga K nm)) (.ref (He.ga K C)) = some b := fun nm b e => by
  obtain ⟨r, m1, m2⟩ := kmOf_mem e
  obtain ⟨h1, h2⟩ := He.ba (List.all_eq_true.mp h _ m1)
  exact ⟨excB_ok h1, of_decide_eq_true (List.all_eq_true.mp h2 _ m2)⟩
theorem cm_ok {K : PySem.W.Frag} {l : XTab} (h : exmsB K l = true) {C : Str} : ∀ nm b, kmOf l C nm = some b → PySem.W.exmOne K (.ref (He.ga K nm)) (.ref (He.ga K C)) = some b := fun nm b e => by
  obtain ⟨r, m1, m2⟩ := kmOf_mem e
  exact of_decide_eq_true (List.all_eq_true.mp (List.all_eq_true.mp h _ m1) _ m2)
section
variable {X : Cx} {K : PySem.W.Frag}
theorem ipf {f : Int → Int → Option Int} {g : Int → Int → Int} (h : ∀ i j k, f i j = some k → k = g i j) : OpF K (ipI g) (intD f) := of_int fun i j k H Q e q => ⟨i, j, rfl, rfl, by rw [← h i j k e]; exact q⟩
def adI (i j : Int) : Option Int := some (i + j)
theorem of_iadd : OpF K (ipI fun i j => i + j) (intD adI) := ipf fun i j k e => by cases e; rfl
end
end M
set_option Elab.async false
set_option linter.all false
set_option maxRecDepth 100000
set_option maxHeartbeats 4000000
namespace M
open PySem PySem.Spec PyProof.Rows L2 Sv
variable [Wd]
def leS (a b : Str) : Bool := !ltCps b.cps.toList a.cps.toList
def sortL (xs : List Str) : List Str := xs.mergeSort leS
theorem leS_iff {a b : Str} : leS a b = true ↔ a.cps.toList ≤ b.cps.toList := by
  unfold leS
  rw [ltCps_eq, Bool.not_eq_true', decide_eq_false_iff_not, List.not_lt]
theorem leS_trans (a b c : Str) (h1 : leS a b = true) (h2 : leS b c = true) : leS a c = true := leS_iff.mpr (List.le_trans (leS_iff.mp h1) (leS_iff.mp h2))
theorem leS_total (a b : Str) : (leS a b || leS b a) = true := by
  rw [Bool.or_eq_true, leS_iff, leS_iff]
  exact List.le_total _ _
theorem leS_anti {a b : Str} (h1 : leS a b = true) (h2 : leS b a = true) : a = b := by
  rw [tx_of a, tx_of b, List.le_antisymm (leS_iff.mp h1) (leS_iff.mp h2)]
theorem sortL_perm (xs : List Str) : (sortL xs).Perm xs := List.mergeSort_perm _ _
theorem sortL_pair (xs : List Str) : (sortL xs).Pairwise (fun a b => leS a b = true) := List.pairwise_mergeSort (le := leS) leS_trans leS_total xs
section
variable {X : Cx} {K : PySem.W.Frag} {G H : Hp}
theorem strsOf_all {vs : List V} : ∀ {ds : List D} {ys : List Str}, strsOf ds = some ys → RpAll K G vs ds → vs = ys.map V.str ∧ ds = ys.map .str ∧ ∀ y ∈ ys, y.length ≤ sizeLine := by
  induction vs with
  | nil =>
    intro ds ys h r
    cases r
    cases h
    exact ⟨rfl, rfl, fun _ m => nomatch m⟩
  | cons v vs ih =>
    intro ds ys h r
    cases r with
    | cons a r =>
      rename_i d ds
      cases d with
      | str z =>
        have h : (strsOf ds).map (z :: ·) = some ys := h
        cases q : strsOf ds with
        | none => rw [q] at h; cases h
        | some zs =>
          rw [q] at h
          cases h
          obtain ⟨e1, e2, e3⟩ := ih q r
          cases a with
          | str hz => exact ⟨by rw [e1]; rfl, by rw [e2]; rfl, fun y m => (List.mem_cons.mp m).elim (fun e => e ▸ hz) (e3 y)⟩
      | _ => cases h
theorem all_strs {ys : List Str} (h : ∀ y ∈ ys, y.length ≤ sizeLine) : RpAll K G (ys.map V.str) (ys.map .str) := by
  induction ys with
  | nil => exact .nil
  | cons y r ih => exact .cons (.str (h y List.mem_cons_self)) (ih fun z m => h z (List.mem_cons_of_mem _ m))
def revND (x : D) : Option Vl := revD x
theorem re_revN {xi : XI} {W : WX} {e : Expr} {fa : S → ER Vl} {k : Nat} {p1 p2 p3 pos : Pos} (ha : PE X e (tE K xi W fa)) (hK : X.K = K := by rfl) : PE X (.Subscript e (.Slice none none (some (.UnaryOp .USub (.Constant (.int 1) k p1) p2)) p3) pos) (tE K xi W (unE revND fa)) := by
  subst hK
  refine PE.mono (PE.or (re_rev rfl ha) (pe_revL ha)) fun σ H Q h => ?_
  obtain ⟨G, s, R, h⟩ := h
  cases q : fa s with
  | no => rw [show unE _ fa s = ER.no from by unfold unE; rw [q]; rfl] at h; exact h.elim
  | er e s1 =>
    rw [show unE _ fa s = ER.er e s1 from by unfold unE; rw [q]; rfl] at h
    exact .inl ⟨G, s, R, by unfold unE; rw [q]; exact h⟩
  | ok va s1 =>
    have h0 : Po X.K xi W (VR X.K xi) G H σ s (un1 revND s1 va) Q := by
      have e : unE revND fa s = un1 revND s1 va := by unfold unE; rw [q]; rfl
      rw [← e]; exact h
    unfold un1 at h0
    cases ed : rd s1 va with
    | none => rw [ed] at h0; exact h0.elim
    | some d =>
      rw [ed] at h0
      cases d with
      | list ds =>
        refine .inr ⟨G, s, R, ?_⟩
        rw [q]
        intro x G1 H1 t1 R1 ra
        have r := rd_ok R1 ra ed
        cases r with
        | @lst a xs _ h1 a1 =>
          refine ⟨a, xs, rfl, .inl (.inl h1), fun p hp => ?_⟩
          have h2 := Po.shift t1 backs_V h0
          exact Ext.fin (.lst hp a1.rev) R1 h2
      | str z => exact .inl ⟨G, s, R, by unfold unE; rw [q]; show Po X.K xi W (VR X.K xi) G H σ s (un1 _ s1 va) Q; unfold un1; rw [ed]; exact h0⟩
      | tuple ds => exact .inl ⟨G, s, R, by unfold unE; rw [q]; show Po X.K xi W (VR X.K xi) G H σ s (un1 _ s1 va) Q; unfold un1; rw [ed]; exact h0⟩
      | _ => exact h0.elim
end
end M
set_option Elab.async false
set_option linter.all false
set_option maxRecDepth 100000
set_option maxHeartbeats 4000000
namespace M
open PySem PySem.Spec L2 Sv
noncomputable instance (priority := low) noWd : Wd := ⟨⟨fun _ _ => 0, { strHash := fun _ => 0, shareClass := fun _ => 0, mergeTok := id, idOf := fun _ => 0, idOfShared := fun _ _ => 0, followText := fun _ => false, idOfImm := fun _ => 0 }⟩⟩
section
variable {α β : Type} {s s1 : S} {c : Prop} [Decidable c]
theorem bind_ok {a : α} {g : α → S → ER β} : (ER.ok a s).bind g = g a s := rfl
theorem bind_er {e : Exn} {g : α → S → ER β} : (ER.er e s : ER α).bind g = .er e s := rfl
theorem bind_ite {x y : ER α} {g : α → S → ER β} : (if c then x else y).bind g = if c then x.bind g else y.bind g := by split <;> rfl
theorem ite_and {a b : Bool} : (if a = true then ER.ok (.d (.bool b)) s else ER.ok (.d (.bool false)) s : ER Vl) = .ok (.d (.bool (a && b))) s := by cases a <;> rfl
theorem ite_or {a b : Bool} : (if a = true then ER.ok (.d (.bool true)) s else ER.ok (.d (.bool b)) s : ER Vl) = .ok (.d (.bool (a || b))) s := by cases a <;> rfl
theorem ite_or2 {a b : Bool} : (if a = true then ER.ok (.d (.bool a)) s else ER.ok (.d (.bool b)) s : ER Vl) = .ok (.d (.bool (a || b))) s := by cases a <;> rfl
theorem ite_and2 {a b : Bool} : (if a = true then ER.ok (.d (.bool b)) s else ER.ok (.d (.bool a)) s : ER Vl) = .ok (.d (.bool (a && b))) s := by cases a <;> rfl
theorem ite_andB {a b : Bool} : (if a = true then ER.ok b s else ER.ok false s) = .ok (a && b) s := by cases a <;> rfl
theorem ite_orB {a b : Bool} : (if a = true then ER.ok true s else ER.ok b s) = .ok (a || b) s := by cases a <;> rfl
theorem out_ok {a : α} {g : α → S → Out} : (ER.ok a s).out g = g a s := rfl
theorem out_er {e : Exn} {g : α → S → Out} : (ER.er e s : ER α).out g = .er e s := rfl
theorem out_ite {x y : ER α} {g : α → S → Out} : (if c then x else y).out g = if c then x.out g else y.out g := by split <;> rfl
theorem seq_nx {g : S → Out} : (Out.nx s).seq g = g s := rfl
theorem seq_rt {g : S → Out} {v : Vl} : (Out.rt v s).seq g = .rt v s := rfl
theorem seq_er {g : S → Out} {e : Exn} : (Out.er e s).seq g = .er e s := rfl
theorem seq_bk {g : S → Out} : (Out.bk s).seq g = .bk s := rfl
theorem seq_ct {g : S → Out} : (Out.ct s).seq g = .ct s := rfl
theorem seq_ite {x y : Out} {g : S → Out} : (if c then x else y).seq g = if c then x.seq g else y.seq g := by split <;> rfl
end
def dv : Option D → Option Vl
  | none => none
  | some x => some (.d x)
theorem dv_some {x : D} : dv (some x) = some (.d x) := rfl
theorem dv_none : dv none = none := rfl
theorem free_dv {x : Option D} : freeO (some (dv x)) = true := by cases x <;> rfl
theorem plain_dv {x : Option D} : plainO (some (dv x)) = true := by cases x <;> rfl
theorem free_d {x : D} : freeO (some (some (.d x))) = true := rfl
theorem plain_dd {x : D} : plainO (some (some (.d x))) = true := rfl
theorem free_n : freeO (some none) = true := rfl
theorem plain_n : plainO (some none) = true := rfl
theorem free_o {b : Ob} : freeO (some (some (.o true b))) = true := rfl
section
variable {n N : Nat} {b : S → Out} {ds : List D} {x : D} {o : Ob} {e : Exn} {s s1 : S} {F : S → ER Vl}
def ins (ds : List D) : S := ds.map fun d => some (.d d)
theorem outs_ins : ∀ {ds : List D} {s : S}, outs (ins ds) s = ins ds
  | [], s => by cases s <;> rfl
  | d :: ds, [] => rfl
  | d :: ds, x :: r => by
    show some (Vl.d d) :: outs (ins ds) r = some (.d d) :: ins ds
    rw [outs_ins]
theorem argVs_d : ∀ {ds : List D}, argVs s (ds.map .d) = some (ds.map .d)
  | [] => rfl
  | d :: ds => by
    show (argVs s (ds.map .d)).map (Vl.d d :: ·) = some (.d d :: ds.map .d)
    rw [argVs_d]
    rfl
theorem refs_d : ∀ {ds : List D}, refs (ds.map .d) = []
  | [] => rfl
  | d :: ds => refs_d (ds := ds)
theorem plain_d : ∀ {ds : List D}, plainA (ds.map .d) = true
  | [] => rfl
  | d :: ds => by
    have := plain_d (ds := ds)
    unfold plainA at this ⊢
    rw [List.map_cons, List.all_cons, this]
    rfl
theorem back_d : ∀ {ds : List D} {o s : S}, putBack (ds.map .d) o s = s
  | [], o, s => by cases o <;> rfl
  | d :: ds, [], s => rfl
  | d :: ds, x :: o, s => back_d (ds := ds) (o := o)
theorem call1_ds (hn : ds.length = n) : call1 n F (ds.map .d) s = callR (ds.map .d) s (F (ins ds)) := by
  unfold call1
  rw [argVs_d]
  show (if (refs (ds.map .d)).Nodup ∧ (ds.map Vl.d).length = n ∧ plainA (ds.map .d) = true then _ else _) = _
  rw [if_pos ⟨by rw [refs_d]; exact List.nodup_nil, by rw [List.length_map]; exact hn, plain_d⟩]
  show callR (ds.map .d) s (F (argS (ds.map .d))) = _
  unfold argS ins
  rw [List.map_map]
  rfl
def Gv (ds : List D) (N : Nat) (b : S → Out) : Out := b (ins ds ++ List.replicate (N - ds.length) none)
theorem fin_ins : fin N b (ins ds) = fin1 (ins ds) (Gv ds N b) := by
  unfold fin Gv ins
  rw [List.length_map]
theorem call_rt (hn : ds.length = n) (h : ∃ s1, Gv ds N b = .rt (.d x) s1) : call1 n (fin N b) (ds.map .d) s = .ok (.d x) s := by
  obtain ⟨s1, e⟩ := h
  rw [call1_ds hn, fin_ins, e]
  show ER.ok (Vl.d x) (putBack (ds.map .d) _ s) = _
  rw [back_d]
theorem call_ob (hn : ds.length = n) (h : ∃ s1, Gv ds N b = .rt (.o true o) s1) : call1 n (fin N b) (ds.map .d) s = .ok (.o true o) s := by
  obtain ⟨s1, e⟩ := h
  rw [call1_ds hn, fin_ins, e]
  show ER.ok (Vl.o true o) (putBack (ds.map .d) _ s) = _
  rw [back_d]
theorem call_nx (hn : ds.length = n) (h : ∃ s1, Gv ds N b = .nx s1) : call1 n (fin N b) (ds.map .d) s = .ok (.d .none) s := by
  obtain ⟨s1, e⟩ := h
  rw [call1_ds hn, fin_ins, e]
  show ER.ok (Vl.d .none) (putBack (ds.map .d) _ s) = _
  rw [back_d]
theorem call_er (hn : ds.length = n) (h : ∃ s1, Gv ds N b = .er e s1) : call1 n (fin N b) (ds.map .d) s = .er e s := by
  obtain ⟨s1, e⟩ := h
  rw [call1_ds hn, fin_ins, e]
  show ER.er _ (putBack (ds.map .d) _ s) = _
  rw [back_d]
end
section
variable {n N i : Nat} {b : S → Out} {ds : List D} {x : D} {o o' : Ob} {f : Bool} {e : Exn} {s s1 : S} {F : S → ER Vl}
def Gio (o : Ob) (ds : List D) (N : Nat) (b : S → Out) : Out := b (some (.o false o) :: (ins ds ++ List.replicate (N - (ds.length + 1)) none))
theorem fin_io : fin N b (some (.o false o) :: ins ds) = fin1 (some (.o false o) :: ins ds) (Gio o ds N b) := by
  unfold fin Gio ins
  rw [List.length_cons, List.length_map, List.cons_append]
theorem call1_io (hs : s[i]? = some (some (.o f o))) (hn : ds.length + 1 = n) : call1 n F (.r i :: ds.map .d) s = callR (.r i :: ds.map .d) s (F (some (.o false o) :: ins ds)) := by
  have e : argVs s (.r i :: ds.map .d) = some (.o false o :: ds.map .d) := by
    unfold argVs
    have e1 : argV s (.r i) = some (.o false o) := by
      show argR s[i]? = _
      rw [hs]
      rfl
    rw [e1, argVs_d]
    rfl
  unfold call1
  rw [e]
  have r : refs (.r i :: ds.map .d) = [i] := by
    show i :: refs (ds.map .d) = _
    rw [refs_d]
  have p : plainA (.o false o :: ds.map .d) = true := by
    have := plain_d (ds := ds)
    unfold plainA at this ⊢
    rw [List.all_cons, this]
    rfl
  show (if (refs (.r i :: ds.map .d)).Nodup ∧ (Vl.r i :: ds.map Vl.d).length = n ∧ plainA (.o false o :: ds.map .d) = true then _ else _) = _
  rw [if_pos ⟨by rw [r]; simp, by rw [List.length_cons, List.length_map]; exact hn, p⟩]
  unfold argS ins
  rw [List.map_cons, List.map_map]
  rfl
theorem io_outs (h : s1[0]? = some (some (.o false o'))) : outs (some (.o false o) :: ins ds) s1 = some (.o false o') :: ins ds := by
  cases s1 with
  | nil => simp at h
  | cons z r =>
    have h : some z = some (some (.o false o')) := h
    cases h
    show some (Vl.o false o') :: outs (ins ds) r = _
    rw [outs_ins]
theorem io_back (hs : s[i]? = some (some (.o f o))) : putBack (.r i :: ds.map .d) (some (.o false o') :: ins ds) s = s.set i (some (.o f o')) := by
  show putBack (ds.map .d) (ins ds) (match s[i]? with | some (some (.o f _)) => s.set i (some (.o f o')) | _ => s) = _
  rw [hs, back_d]
theorem io_rt (hs : s[i]? = some (some (.o f o))) (hn : ds.length + 1 = n) (h : ∃ s1, Gio o ds N b = .rt (.d x) s1 ∧ s1[0]? = some (some (.o false o'))) : call1 n (fin N b) (.r i :: ds.map .d) s = .ok (.d x) (s.set i (some (.o f o'))) := by
  obtain ⟨s1, e, h0⟩ := h
  rw [call1_io hs hn, fin_io, e]
  show callR _ s (.ok (.d x) (outs (some (.o false o) :: ins ds) s1)) = _
  rw [io_outs h0]
  show ER.ok (Vl.d x) (putBack _ _ s) = _
  rw [io_back hs]
end
section
variable {α : Type} {i : α → D} {g : Tg} {c : S → ER Bool} {e : S → ER Vl} {vs : List Nat} {s : S}
theorem lcL_p {P : α → Bool} {f : α → D} : ∀ {xs : List α} {acc : List D}, acc.length + xs.length ≤ 16777216 →
    (∀ a ∈ xs, ∃ s1, g (i a) (wipeS s vs) = some s1 ∧ restS s s1 vs = s ∧ c s1 = .ok (P a) s1 ∧ (P a = true → e s1 = .ok (.d (f a)) s1)) → lcL g c e vs (xs.map i) acc s = .ok (.o true (.L (acc ++ (xs.filter P).map f))) s
  | [], acc, _, _ => by simp [lcL]
  | a :: xs, acc, hl, h => by
    obtain ⟨s1, h1, h2, h3, h4⟩ := h a List.mem_cons_self
    have hr : ∀ b ∈ xs, _ := fun b m => h b (List.mem_cons_of_mem _ m)
    rw [List.length_cons] at hl
    show (match g (i a) (wipeS s vs) with
      | none => ER.no
      | some s1 => match c s1 with
        | .ok true s2 => (match e s2 with
          | .ok (.d x) s3 => if acc.length < 16777216 then lcL g c e vs (xs.map i) (acc ++ [x]) (restS s s3 vs) else .no
          | _ => .no)
        | .ok false s2 => lcL g c e vs (xs.map i) acc (restS s s2 vs)
        | _ => .no) = _
    rw [h1]
    show (match c s1 with
        | .ok true s2 => (match e s2 with
          | .ok (.d x) s3 => if acc.length < 16777216 then lcL g c e vs (xs.map i) (acc ++ [x]) (restS s s3 vs) else .no
          | _ => .no)
        | .ok false s2 => lcL g c e vs (xs.map i) acc (restS s s2 vs)
        | _ => .no) = _
    rw [h3]
    cases hp : P a with
    | false =>
      show lcL g c e vs (xs.map i) acc (restS s s1 vs) = _
      rw [h2, lcL_p (by omega) hr, List.filter_cons, hp]
      rfl
    | true =>
      show (match e s1 with
          | .ok (.d x) s3 => if acc.length < 16777216 then lcL g c e vs (xs.map i) (acc ++ [x]) (restS s s3 vs) else .no
          | _ => .no) = _
      rw [h4 hp]
      show (if acc.length < 16777216 then lcL g c e vs (xs.map i) (acc ++ [f a]) (restS s s1 vs) else .no) = _
      rw [if_pos (by omega), h2, lcL_p (by rw [List.length_append]; show acc.length + 1 + _ ≤ _; omega) hr, List.filter_cons, hp, if_pos rfl, List.map_cons, List.append_assoc]
      rfl
theorem lcL_m {f : α → D} {xs : List α} {acc : List D} (hl : acc.length + xs.length ≤ 16777216)
    (h : ∀ a ∈ xs, ∃ s1, g (i a) (wipeS s vs) = some s1 ∧ restS s s1 vs = s ∧ e s1 = .ok (.d (f a)) s1) : lcL g yesT e vs (xs.map i) acc s = .ok (.o true (.L (acc ++ xs.map f))) s := by
  rw [lcL_p (P := fun _ => true) (f := f) hl fun a m => ?_]
  · rw [List.filter_eq_self.mpr fun _ _ => rfl]
  · obtain ⟨s1, h1, h2, h3⟩ := h a m
    exact ⟨s1, h1, h2, rfl, fun _ => h3⟩
theorem lcL_s {St : S → Prop} {Pr : D → Prop} : ∀ {xs : List α} {acc : List D} {s : S}, acc.length + xs.length ≤ 16777216 → St s →
    (∀ a ∈ xs, ∀ s, St s → ∃ s1 x s3, g (i a) (wipeS s vs) = some s1 ∧ e s1 = .ok (.d x) s3 ∧ St (restS s s3 vs) ∧ Pr x) →
    ∃ ys s', lcL g yesT e vs (xs.map i) acc s = .ok (.o true (.L (acc ++ ys))) s' ∧ St s' ∧ ys.length = xs.length ∧ ∀ y ∈ ys, Pr y
  | [], acc, s, _, hs, _ => ⟨[], s, by simp [lcL], hs, rfl, fun _ m => nomatch m⟩
  | a :: xs, acc, s, hl, hs, h => by
    rw [List.length_cons] at hl
    obtain ⟨s1, x, s3, h1, h2, h3, h4⟩ := h a List.mem_cons_self s hs
    obtain ⟨ys, s', e1, e2, e3, e4⟩ := lcL_s (xs := xs) (acc := acc ++ [x]) (s := restS s s3 vs) (by rw [List.length_append]; show acc.length + 1 + _ ≤ _; omega) h3 fun b m => h b (List.mem_cons_of_mem _ m)
    refine ⟨x :: ys, s', ?_, e2, by rw [List.length_cons, List.length_cons, e3], fun y m => (List.mem_cons.mp m).elim (fun q => q ▸ h4) (e4 y)⟩
    show (match g (i a) (wipeS s vs) with
      | none => ER.no
      | some s1 => match yesT s1 with
        | .ok true s2 => (match e s2 with
          | .ok (.d x) s3 => if acc.length < 16777216 then lcL g yesT e vs (xs.map i) (acc ++ [x]) (restS s s3 vs) else .no
          | _ => .no)
        | .ok false s2 => lcL g yesT e vs (xs.map i) acc (restS s s2 vs)
        | _ => .no) = _
    rw [h1]
    show (match e s1 with
          | .ok (.d x) s3 => if acc.length < 16777216 then lcL g yesT e vs (xs.map i) (acc ++ [x]) (restS s s3 vs) else .no
          | _ => .no) = _
    rw [h2]
    show (if acc.length < 16777216 then lcL g yesT e vs (xs.map i) (acc ++ [x]) (restS s s3 vs) else .no) = _
    rw [if_pos (by omega), e1, List.append_assoc]
    rfl
variable {b : S → Out} {β : Type}
def turn (g : Tg) (b : S → Out) (d : D) (s : S) : Out := match g d s with
  | none => .no
  | some s1 => b s1
theorem forL_cons {d : D} {ds : List D} : forL g b (d :: ds) s = loopK (forL g b ds) (turn g b d s) := by
  show (match g d s with
    | none => Out.no
    | some s1 => match b s1 with
      | .nx s2 => forL g b ds s2
      | .ct s2 => forL g b ds s2
      | .bk s2 => .nx s2
      | .rt v s2 => .rt v s2
      | .er e s2 => .er e s2
      | .no => .no) = loopK (forL g b ds) (match g d s with
    | none => .no
    | some s1 => b s1)
  cases g d s with
  | none => rfl
  | some s1 =>
    show (match b s1 with
      | .nx s2 => forL g b ds s2
      | .ct s2 => forL g b ds s2
      | .bk s2 => .nx s2
      | .rt v s2 => .rt v s2
      | .er e s2 => .er e s2
      | .no => .no) = loopK (forL g b ds) (b s1)
    cases b s1 <;> rfl
theorem forL_n {St : Nat → S → Prop} {s : S} {xs : List α} (h0 : St 0 s) (h : ∀ n a, xs[n]? = some a → ∀ s, St n s → ∃ s2, (turn g b (i a) s = .nx s2 ∨ turn g b (i a) s = .ct s2) ∧ St (n + 1) s2) : ∃ s', forL g b (xs.map i) s = .nx s' ∧ St xs.length s' := by
  suffices hh : ∀ (ys : List α) (k : Nat) (s : S), (∀ n a, ys[n]? = some a → ∀ s, St (k + n) s → ∃ s2, (turn g b (i a) s = .nx s2 ∨ turn g b (i a) s = .ct s2) ∧ St (k + n + 1) s2) → St k s → ∃ s', forL g b (ys.map i) s = .nx s' ∧ St (k + ys.length) s' by
    have := hh xs 0 s (fun n a e s hs => by rw [Nat.zero_add] at hs ⊢; exact h n a e s hs) h0
    rw [Nat.zero_add] at this
    exact this
  intro ys
  induction ys with
  | nil => exact fun k s _ hs => ⟨s, rfl, hs⟩
  | cons a ys ih =>
    intro k s h hs
    obtain ⟨s2, h2, h3⟩ := h 0 a rfl s hs
    obtain ⟨s', e1, e2⟩ := ih (k + 1) s2 (fun n b e s q => by
      have := h (n + 1) b (by simpa using e) s (by rw [show k + (n + 1) = k + 1 + n by omega]; exact q)
      rw [show k + (n + 1) + 1 = k + 1 + n + 1 by omega] at this
      exact this) h3
    refine ⟨s', ?_, by rw [List.length_cons, show k + (ys.length + 1) = k + 1 + ys.length by omega]; exact e2⟩
    rw [List.map_cons, forL_cons]
    rcases h2 with h2 | h2 <;> rw [h2] <;> exact e1
end
end M
set_option Elab.async false
set_option linter.all false
set_option maxRecDepth 100000
set_option maxHeartbeats 4000000
namespace M
open PySem PySem.Spec L2 Sv
noncomputable def b_is_number_of_letters : S → Out := (retS (chE leD leD (cE (.int 2)) (varE 0) (caE lenD (consA (cE (.str "abcdef")) nilA))))
noncomputable def F_is_number_of_letters : S → ER Vl := fin 1 b_is_number_of_letters
noncomputable def b_check_number : S → Out := (ifS (notT (truT (callE 1 F_is_number_of_letters (consA (shE (varE 0)) nilA))))
  (raiS "BadNumber")
  nextS)
noncomputable def F_check_number : S → ER Vl := fin 1 b_check_number
noncomputable def b_letters_of : S → Out := (seqS (dropS (callE 1 F_check_number (consA (shE (varE 0)) nilA)))
  (retS (slE (cE (.str "abcdef")) noP (someP (varE 0)))))
noncomputable def F_letters_of : S → ER Vl := fin 1 b_letters_of
noncomputable def b_is_word : S → Out := (seqS (setS 2 (callE 1 F_letters_of (consA (shE (varE 0)) nilA)))
  (retS (andE (opE leD (caE lenD (consA (varE 1) nilA)) (cE (.int 60))) (opE eqD (mtE isStr stripF (varE 1) (consA (varE 2) nilA)) (cE (.str ""))))))
noncomputable def F_is_word : S → ER Vl := fin 3 b_is_word
noncomputable def b_check_word : S → Out := (ifS (notT (truT (callE 2 F_is_word (consA (shE (varE 0)) (consA (shE (varE 1)) nilA)))))
  (raiS "NotWord")
  nextS)
noncomputable def F_check_word : S → ER Vl := fin 2 b_check_word
noncomputable def b_law_number : S → Out := (seqS (ifS (blT (opE ltD (varE 0) (cE (.int 0))))
  (retS (opE (intD subI) (cE (.int 0)) (varE 0)))
  nextS)
  (retS (varE 0)))
noncomputable def F_law_number : S → ER Vl := fin 1 b_law_number
noncomputable def b_law_draws_1 : S → Out := (seqS (ifS (blT (opE eqD (varE 3) (cE (.int 0))))
  brkS
  nextS)
  (seqS (dropS (muE dArgs appF 1 (consA (opE (intD modI) (caE intF (consA (varE 3) nilA)) (cE (.int 1000))) nilA)))
  (setS 3 (opE (intD divI) (varE 3) (cE (.int 1000))))))
noncomputable def b_law_draws_2 : S → Out := (seqS (setS 3 (callE 1 F_law_number (consA (shE (varE 2)) nilA)))
  (ifS (blT (opE geD (varE 3) (cE (.int 1000000000000000000))))
  (forS (rng1I (consA (cE (.int 60)) nilA)) (nmG 4) b_law_draws_1)
  (seqS (setS 5 (opE (intD modI) (caE intF (consA (opE addD (opE mulD (varE 3) (cE (.int 48271))) (cE (.int 11))) nilA)) (cE (.int 2147483647))))
  (seqS (setS 6 (opE (intD modI) (caE intF (consA (opE addD (opE mulD (varE 5) (cE (.int 69621))) (varE 3)) nilA)) (cE (.int 2147483629))))
  (dropS (muE rdAll extF 1 (consA (lstE (consA (opE (intD modI) (caE intF (consA (varE 3) nilA)) (cE (.int 1000))) (consA (opE (intD modI) (caE intF (consA (varE 5) nilA)) (cE (.int 1000))) (consA (opE (intD modI) (caE intF (consA (varE 6) nilA)) (cE (.int 1000))) nilA)))) nilA)))))))
noncomputable def b_law_draws : S → Out := (seqS (setS 1 (lstE nilA))
  (seqS (forS (seqI (varE 0)) (nmG 2) b_law_draws_2)
  (retS (varE 1))))
noncomputable def F_law_draws : S → ER Vl := fin 7 b_law_draws
noncomputable def b_law_next : S → Out := (seqS (ifS (truT (varE 0))
  (retS (fun s => mu1 popF 0 s []))
  nextS)
  (retS (cE (.int 0))))
noncomputable def F_law_next : S → ER Vl := fin 1 b_law_next
noncomputable def b_law_string : S → Out := (retS (mtE isStr joinF (cE (.str "")) (consA (lcE (rng1I (consA (opE (intD modI) (caE intF (consA (callE 1 F_law_next (consA (varE 0) nilA)) nilA)) (opE addD (varE 2) (cE (.int 1)))) nilA)) (nmG 3) yesT (opE ixD (cE (.str "abcdef")) (opE (intD modI) (caE intF (consA (callE 1 F_law_next (consA (varE 0) nilA)) nilA)) (varE 1))) [3]) nilA)))
noncomputable def F_law_string : S → ER Vl := fin 4 b_law_string
end M
set_option Elab.async false
set_option linter.all false
set_option maxRecDepth 100000
set_option maxHeartbeats 4000000
namespace M
open PySem PySem.Spec L2 Sv
def numOk (k : Int) : Bool := decide (2 ≤ k) && decide (k ≤ 6)
def letters (k : Int) : Str := cutS "abcdef" none (some k)
def isWord (k : Int) (w : Str) : Bool := decide (((w.length : Nat) : Int) ≤ 60) && decide (Txt.stripChars w (letters k) = "")
theorem letters_len (k : Int) : (letters k).length ≤ 6 := cutS_length _ _ _
structure Rl where
  c : Str
  n : Str
  l : List Str
  r : List Str
structure Rl.Small (R : Rl) : Prop where
  c : R.c.length ≤ 1000
  n : R.n.length ≤ 1000
  l : R.l.length ≤ 1000
  r : R.r.length ≤ 1000
  sl : ∀ p ∈ R.l, p.length ≤ 1000
  sr : ∀ p ∈ R.r, p.length ≤ 1000
def namesOk (k : Int) (n : Str) : Bool := decide (tx (sortN n.cps.toList) = letters k)
def fits (p w : Str) (i : Int) : Bool := if i < 0 ∨ ((w.length : Nat) : Int) ≤ i then decide (p = "#") else decide (w.cps.getD i.toNat 0 ∈ p.cps.toList)
def allFit (ps : List Str) (w : Str) (b : Int) : Bool := (List.range ps.length).all fun i => fits (ps.getD i "") w (b + i)
def standsAt (R : Rl) (w : Str) (i : Nat) : Bool := decide (tx [w.cps.getD i 0] = R.c) && (allFit R.l w (((i : Nat) : Int) - ((R.l.length : Nat) : Int)) && allFit R.r w (((i : Nat) : Int) + 1))
def parts (R : Rl) (w : Str) : List Str := (List.range w.cps.size).map fun i => if standsAt R w i = true then R.n else tx [w.cps.getD i 0]
def Rl.turn (R : Rl) : Rl := ⟨R.c, revS R.n, R.r.reverse, R.l.reverse⟩
def LetK (k : Int) (c : Nat) : Prop := 97 ≤ c ∧ ((c : Nat) : Int) < 97 + k
def WordIn (k : Int) (m : Int) (w : Str) : Prop := ((w.length : Nat) : Int) ≤ m ∧ ∀ c ∈ w.cps.toList, LetK k c
theorem k_cases {P : Int → Prop} (h2 : P 2) (h3 : P 3) (h4 : P 4) (h5 : P 5) (h6 : P 6) {k : Int} (a : 2 ≤ k) (b : k ≤ 6) : P k := by
  have : k = 2 ∨ k = 3 ∨ k = 4 ∨ k = 5 ∨ k = 6 := by omega
  rcases this with e | e | e | e | e <;> rw [e] <;> assumption
theorem letters_list {k : Int} (a : 2 ≤ k) (b : k ≤ 6) : (letters k).cps.toList = (List.range k.toNat).map (97 + ·) :=
  k_cases (P := fun k => (letters k).cps.toList = (List.range k.toNat).map (97 + ·)) (by decide +kernel) (by decide +kernel) (by decide +kernel) (by decide +kernel) (by decide +kernel) a b
theorem mem_letters {k : Int} (a : 2 ≤ k) (b : k ≤ 6) (c : Nat) : c ∈ (letters k).cps.toList ↔ LetK k c := by
  rw [letters_list a b, List.mem_map]
  constructor
  · rintro ⟨j, hj, rfl⟩
    have := List.mem_range.mp hj
    constructor <;> omega
  · rintro ⟨h1, h2⟩
    exact ⟨c - 97, List.mem_range.mpr (by omega), by omega⟩
theorem numOk_of {k : Int} (a : 2 ≤ k) (b : k ≤ 6) : numOk k = true := by
  unfold numOk
  rw [decide_eq_true a, decide_eq_true b]
  rfl
def PlaceIn (k : Int) (p : Str) : Prop := p = "#" ∨ (p.length ≤ 6 ∧ ∀ c ∈ p.cps.toList, LetK k c)
structure Made (k : Int) (R : Rl) : Prop where
  c1 : R.c.length = 1
  c : ∀ c ∈ R.c.cps.toList, LetK k c
  n3 : R.n.length ≤ 3
  n : ∀ c ∈ R.n.cps.toList, LetK k c
  l2 : R.l.length ≤ 2
  r2 : R.r.length ≤ 2
  l : ∀ p ∈ R.l, PlaceIn k p
  r : ∀ p ∈ R.r, PlaceIn k p
theorem PlaceIn.len {k : Int} {p : Str} (h : PlaceIn k p) : p.length ≤ 6 := by
  rcases h with e | e
  · rw [e]; decide
  · exact e.1
theorem Made.small {k : Int} {R : Rl} (h : Made k R) : R.Small :=
  ⟨by have := h.c1; omega, by have := h.n3; omega, by have := h.l2; omega, by have := h.r2; omega, fun p m => by have := (h.l p m).len; omega, fun p m => by have := (h.r p m).len; omega⟩
theorem LetK.lt {k : Int} {c : Nat} (h : LetK k c) (b : k ≤ 6) : 97 ≤ c ∧ c < 103 := ⟨h.1, by have := h.2; omega⟩
structure Names (k : Int) (n : Str) : Prop where
  pm : n.cps.toList.Perm (letters k).cps.toList
theorem letters_n {k : Int} (a : 2 ≤ k) (b : k ≤ 6) : (letters k).cps.toList.length = k.toNat := by rw [letters_list a b, List.length_map, List.length_range]
theorem letters_sorted {k : Int} (a : 2 ≤ k) (b : k ≤ 6) : (letters k).cps.toList.Pairwise (· ≤ ·) :=
  k_cases (P := fun k => (letters k).cps.toList.Pairwise (· ≤ ·)) (by decide +kernel) (by decide +kernel) (by decide +kernel) (by decide +kernel) (by decide +kernel) a b
theorem Names.len {k : Int} {n : Str} (h : Names k n) (a : 2 ≤ k) (b : k ≤ 6) : n.length = k.toNat := by
  have := h.pm.length_eq
  rw [letters_n a b, Array.length_toList] at this
  exact this
theorem Names.ok {k : Int} {n : Str} (h : Names k n) (a : 2 ≤ k) (b : k ≤ 6) : namesOk k n = true := by
  unfold namesOk
  refine decide_eq_true ?_
  rw [tx_of (letters k)]
  congr 1
  congr 1
  exact (sortN_uniq h.pm.symm (letters_sorted a b)).symm
theorem Names.mem {k : Int} {n : Str} (h : Names k n) (a : 2 ≤ k) (b : k ≤ 6) {c : Nat} (hc : c ∈ n.cps.toList) : LetK k c := (mem_letters a b c).mp (h.pm.mem_iff.mp hc)
structure Fine (R : Rl) : Prop where
  c : R.c.length ≤ 100 ∧ ∀ x ∈ R.c.cps.toList, x < 1000
  n : R.n.length ≤ 100 ∧ ∀ x ∈ R.n.cps.toList, x < 1000
  l2 : R.l.length ≤ 10
  r2 : R.r.length ≤ 10
  l : ∀ p ∈ R.l, p.length ≤ 100 ∧ ∀ x ∈ p.cps.toList, x < 1000
  r : ∀ p ∈ R.r, p.length ≤ 100 ∧ ∀ x ∈ p.cps.toList, x < 1000
def Rl.data (R : Rl) : PyData := .tuple [.str R.c, .str R.n, .tuple (R.l.map PyData.str), .tuple (R.r.map PyData.str)]
theorem easy_strs {ps : List Str} (h2 : ps.length ≤ 10) (h : ∀ p ∈ ps, p.length ≤ 100 ∧ ∀ x ∈ p.cps.toList, x < 1000) : Easy 1010 1 (.tuple (ps.map PyData.str)) := by
  refine Easy.tup (n := 100) (k := 0) (fun d m => ?_) ?_
  · obtain ⟨p, hp, rfl⟩ := List.mem_map.mp m
    exact .str (h p hp).2 (h p hp).1
  · rw [List.length_map]
    omega
theorem Fine.show {R : Rl} (h : Fine R) : ShowOk R.data := by
  have e : Easy 4044 2 R.data := by
    refine Easy.tup (n := 1010) (k := 1) (fun d m => ?_) (by show 4 * _ ≤ _; decide)
    rcases List.mem_cons.mp m with rfl | m
    · exact (Easy.str (k := 0) h.c.2 h.c.1).mono (by decide) (by decide)
    · rcases List.mem_cons.mp m with rfl | m
      · exact (Easy.str (k := 0) h.n.2 h.n.1).mono (by decide) (by decide)
      · rcases List.mem_cons.mp m with rfl | m
        · exact easy_strs h.l2 h.l
        · rw [List.mem_singleton.mp m]
          exact easy_strs h.r2 h.r
  exact e.show (by decide) (by decide)
theorem LetK.small {k : Int} {l : List Nat} (b : k ≤ 6) (h : ∀ c ∈ l, LetK k c) : ∀ c ∈ l, c < 1000 := fun c m => by
  have := ((h c m).lt b).2
  omega
theorem PlaceIn.small {k : Int} {p : Str} (h : PlaceIn k p) (b : k ≤ 6) : p.length ≤ 100 ∧ ∀ x ∈ p.cps.toList, x < 1000 := by
  rcases h with e | e
  · rw [e]; decide
  · exact ⟨by have := e.1; omega, LetK.small b e.2⟩
theorem Made.turn {k : Int} {R : Rl} (h : Made k R) : Made k R.turn :=
  ⟨h.c1, h.c, by
    show (tx R.n.cps.toList.reverse).length ≤ 3
    rw [tx_len, List.length_reverse, Array.length_toList]
    exact h.n3, fun c m => h.n c (List.mem_reverse.mp m), by show R.r.reverse.length ≤ 2; rw [List.length_reverse]; exact h.r2, by show R.l.reverse.length ≤ 2; rw [List.length_reverse]; exact h.l2,
    fun p m => h.r p (List.mem_reverse.mp m), fun p m => h.l p (List.mem_reverse.mp m)⟩
theorem isWord_in {k : Int} (a : 2 ≤ k) (b : k ≤ 6) {w : Str} (hl : w.length ≤ 60) (h : ∀ c ∈ w.cps.toList, LetK k c) : isWord k w = true := by
  unfold isWord
  rw [decide_eq_true (by omega), decide_eq_true (strip_all fun c m => (mem_letters a b c).mpr (h c m))]
  rfl
end M
set_option Elab.async false
set_option linter.all false
set_option maxRecDepth 100000
set_option maxHeartbeats 4000000
namespace M
open PySem PySem.Spec PySem.W L2 Sv
theorem eqv_str (a b : Str) : PyData.eqv (.str a) (.str b) = decide (a = b) := Datum.eqv a b
theorem eqv_int (a b : Int) : PyData.eqv (.int a) (.int b) = decide (a = b) := Datum.eqv a b
theorem okD_str (a : Str) : okD (.str a) = true := rfl
theorem okD_int (a : Int) : okD (.int a) = true := rfl
theorem eqD_str (a b : Str) : eqD (.str a) (.str b) = some (.d (.bool (decide (a = b)))) := by
  unfold eqD
  rw [okD_str, Bool.true_or, if_pos rfl, eqv_str]
theorem neD_str (a b : Str) : neD (.str a) (.str b) = some (.d (.bool (!decide (a = b)))) := by
  unfold neD
  rw [okD_str, Bool.true_or, if_pos rfl, eqv_str]
theorem eqD_int (a b : Int) : eqD (.int a) (.int b) = some (.d (.bool (decide (a = b)))) := by
  unfold eqD
  rw [okD_int, Bool.true_or, if_pos rfl, eqv_int]
theorem neD_int (a b : Int) : neD (.int a) (.int b) = some (.d (.bool (!decide (a = b)))) := by
  unfold neD
  rw [okD_int, Bool.true_or, if_pos rfl, eqv_int]
theorem inD_sign (neg : Bool) (c : Nat) (z : Str) : inD neg (.str (tx [c])) (.str z) = some (.d (.bool (neg ^^ decide (c ∈ z.cps.toList)))) := by
  show some (Vl.d (.bool (neg ^^ !(Builtin.Str.occurrences z ⟨#[c]⟩ 0 z.length 1).isEmpty))) = _
  rw [PySem.StrLaws.found_one]
theorem items_str (z : Str) : itemsD (.str z) = some (z.cps.toList.map fun c => .str (tx [c])) := by
  show some ((Sv.signs z).map PyData.str) = _
  unfold Sv.signs
  rw [List.map_map]
  rfl
theorem strsOf_map : ∀ ys : List Str, strsOf (ys.map .str) = some ys
  | [] => rfl
  | y :: ys => by
    show (strsOf (ys.map .str)).map (y :: ·) = _
    rw [strsOf_map ys]
    rfl
theorem boolsOf_map : ∀ ys : List Bool, boolsOf (ys.map .bool) = some ys
  | [] => rfl
  | y :: ys => by
    show (boolsOf (ys.map .bool)).map (y :: ·) = _
    rw [boolsOf_map ys]
    rfl
theorem joinF_jn {ys : List Str} (h : (ys.map (·.length)).sum ≤ 16777216) : joinF [.str "", .list (ys.map .str)] = some (.d (.str (jn ys))) := by
  show ((strsOf (ys.map .str)).bind fun ys => fit (decide ((ys.map (·.length)).sum + ys.length * ("" : Str).length ≤ 16777216)) (.d (.str (Txt.join "" ys)))) = _
  rw [strsOf_map]
  show fit (decide ((ys.map (·.length)).sum + ys.length * 0 ≤ 16777216)) (.d (.str (Txt.join "" ys))) = _
  rw [Nat.mul_zero, Nat.add_zero, decide_eq_true h, join_jn]
  rfl
theorem joinF_signs {cs : List Nat} (h : cs.length ≤ 16777216) : joinF [.str "", .list (cs.map fun c => .str (tx [c]))] = some (.d (.str (tx cs))) := by
  have e : (cs.map fun c => PyData.str (tx [c])) = (cs.map fun c => tx [c]).map .str := by rw [List.map_map]; rfl
  rw [e, joinF_jn (by rw [sum_signs]; exact h), jn_signs]
theorem allF_map {α : Type} (xs : List α) (f : α → Bool) : allF [.list (xs.map fun a => .bool (f a))] = some (.d (.bool (xs.all f))) := by
  have e : (xs.map fun a => PyData.bool (f a)) = (xs.map f).map .bool := by rw [List.map_map]; rfl
  show (boolsOf (xs.map fun a => .bool (f a))).map (fun bs => Vl.d (.bool (bs.all id))) = _
  rw [e, boolsOf_map]
  show some (Vl.d (.bool ((xs.map f).all id))) = _
  rw [List.all_map]
  rfl
theorem ixD_str {z : Str} {i : Int} (h0 : 0 ≤ i) (h1 : i < ((z.length : Nat) : Int)) : ixD (.str z) (.int i) = some (.d (.str (tx [z.cps.getD i.toNat 0]))) := by
  show (atI z.cps.toList i).map (fun c => Vl.d (.str (tx [c]))) = _
  rw [at_str h0 h1]
  rfl
theorem smI_of {j : Int} (h0 : -1000000000 ≤ j) (h : j ≤ 1000000000) : smI j = true := decide_eq_true (by omega)
theorem rng_zero (j : Int) : rngL 0 j.toNat = (List.range j.toNat).map fun i => .int ((i : Nat) : Int) := by
  unfold rngL
  refine List.map_congr_left fun i _ => ?_
  rw [Int.zero_add]
end M
set_option Elab.async false
set_option linter.all false
set_option maxRecDepth 100000
set_option maxHeartbeats 4000000
namespace M
open PySem PySem.Spec L2 Sv
def bad (c : String) (s : S) : ER Vl := .er ⟨c, none⟩ s
theorem is_number_c (k : Int) (s : S) : call1 1 F_is_number_of_letters [.d (.int k)] s = .ok (.d (.bool (numOk k))) s := by
  refine call_rt (ds := [.int k]) rfl ?_
  simp only [b_is_number_of_letters, Gv, Gio, ins, List.map_cons, List.map_nil, List.length_cons, List.length_nil, Nat.sub_self, List.replicate_zero, List.append_nil, List.nil_append, List.cons_append, List.replicate_succ, Nat.reduceSub, Nat.reduceAdd, retS, retN, ret1, setS, sto, stoO, freeAt, free_dv, dv_some, dv_none, free_d, free_n, free_o, plain_dv, plain_dd, plain_n, dropS, seqS, ifS, raiS, nextS, brkS, cntS, unpS, tpG, itsOf, bindAll, optO, nmG, augS, chE, bind_ok, bind_er, bind_ite, out_ok, out_er, out_ite, seq_nx, seq_rt, seq_er, seq_bk, seq_ct, seq_ite, ite_and, ite_or, ite_and2, ite_or2, ite_andB, ite_orB, cE, varE, shE, shr, bi2, un1, opE, unE, rd, List.getElem?_cons_zero, List.getElem?_cons_succ, List.set_cons_zero, List.set_cons_succ, leD, ltD, gtD, geD, cmpD, eqD_str, neD_str, eqD_int, neD_int, inD_sign, isD, isNone, ifB, caE, consA, nilA, ca1, rdAll, dAll, lenD, intF, tupF, lstF, Option.map_some, Option.map_none, Option.bind_some, addD, intD, subI, modI, divI, adI, negD, mulD, revND, revD, tupE, lstE, mtE, okTy, isStr, isLst, stripF, callE, callI, truT, tru1, tru, truD, blT, notT, andT, orT, ifE, notE, andE, orE, if_true, Bool.not_true, Bool.not_false, Bool.true_and, Bool.and_true, Bool.false_and, Bool.or_false, Bool.false_or, Bool.true_or, Bool.or_true, Bool.and_false, Bool.false_xor, Bool.true_xor, slE, noP, someP, sl1, slD, seqI, its1, optI, forS, turn, lcE, wipeS, restS, plainAt, List.getD_cons_zero, List.getD_cons_succ, List.all_cons, List.all_nil, muE, mu1, lstAt, dArgs, appF, popF, rvsF, extF, rng1I, rng2I, enI, zipI, zip2, starA, subS, decide_true, decide_false, Int.reduceLT, Int.reduceLE, Nat.reduceLT, Nat.reduceLeDiff, true_and, and_true, Bool.false_eq_true, if_false, ite_true, ite_false, reduceIte, reduceCtorEq, Option.some.injEq]
  exact ⟨_, rfl⟩
theorem check_number_c (k : Int) (s : S) : call1 1 F_check_number [.d (.int k)] s = if numOk k = true then .ok (.d .none) s else bad "BadNumber" s := by
  cases h : numOk k
  · refine call_er (ds := [.int k]) rfl ?_
    simp only [b_check_number, Gv, Gio, ins, List.map_cons, List.map_nil, List.length_cons, List.length_nil, Nat.sub_self, List.replicate_zero, List.append_nil, List.nil_append, List.cons_append, List.replicate_succ, Nat.reduceSub, Nat.reduceAdd, retS, retN, ret1, setS, sto, stoO, freeAt, free_dv, dv_some, dv_none, free_d, free_n, free_o, plain_dv, plain_dd, plain_n, dropS, seqS, ifS, raiS, nextS, brkS, cntS, unpS, tpG, itsOf, bindAll, optO, nmG, augS, chE, bind_ok, bind_er, bind_ite, out_ok, out_er, out_ite, seq_nx, seq_rt, seq_er, seq_bk, seq_ct, seq_ite, ite_and, ite_or, ite_and2, ite_or2, ite_andB, ite_orB, cE, varE, shE, shr, bi2, un1, opE, unE, rd, List.getElem?_cons_zero, List.getElem?_cons_succ, List.set_cons_zero, List.set_cons_succ, leD, ltD, gtD, geD, cmpD, eqD_str, neD_str, eqD_int, neD_int, inD_sign, isD, isNone, ifB, caE, consA, nilA, ca1, rdAll, dAll, lenD, intF, tupF, lstF, Option.map_some, Option.map_none, Option.bind_some, addD, intD, subI, modI, divI, adI, negD, mulD, revND, revD, tupE, lstE, mtE, okTy, isStr, isLst, stripF, callE, callI, truT, tru1, tru, truD, blT, notT, andT, orT, ifE, notE, andE, orE, if_true, Bool.not_true, Bool.not_false, Bool.true_and, Bool.and_true, Bool.false_and, Bool.or_false, Bool.false_or, Bool.true_or, Bool.or_true, Bool.and_false, Bool.false_xor, Bool.true_xor, slE, noP, someP, sl1, slD, seqI, its1, optI, forS, turn, lcE, wipeS, restS, plainAt, List.getD_cons_zero, List.getD_cons_succ, List.all_cons, List.all_nil, muE, mu1, lstAt, dArgs, appF, popF, rvsF, extF, rng1I, rng2I, enI, zipI, zip2, starA, subS, decide_true, decide_false, Int.reduceLT, Int.reduceLE, Nat.reduceLT, Nat.reduceLeDiff, true_and, and_true, Bool.false_eq_true, if_false, ite_true, ite_false, reduceIte, reduceCtorEq, Option.some.injEq, is_number_c, h]
    exact ⟨_, rfl⟩
  · refine call_nx (ds := [.int k]) rfl ?_
    simp only [b_check_number, Gv, Gio, ins, List.map_cons, List.map_nil, List.length_cons, List.length_nil, Nat.sub_self, List.replicate_zero, List.append_nil, List.nil_append, List.cons_append, List.replicate_succ, Nat.reduceSub, Nat.reduceAdd, retS, retN, ret1, setS, sto, stoO, freeAt, free_dv, dv_some, dv_none, free_d, free_n, free_o, plain_dv, plain_dd, plain_n, dropS, seqS, ifS, raiS, nextS, brkS, cntS, unpS, tpG, itsOf, bindAll, optO, nmG, augS, chE, bind_ok, bind_er, bind_ite, out_ok, out_er, out_ite, seq_nx, seq_rt, seq_er, seq_bk, seq_ct, seq_ite, ite_and, ite_or, ite_and2, ite_or2, ite_andB, ite_orB, cE, varE, shE, shr, bi2, un1, opE, unE, rd, List.getElem?_cons_zero, List.getElem?_cons_succ, List.set_cons_zero, List.set_cons_succ, leD, ltD, gtD, geD, cmpD, eqD_str, neD_str, eqD_int, neD_int, inD_sign, isD, isNone, ifB, caE, consA, nilA, ca1, rdAll, dAll, lenD, intF, tupF, lstF, Option.map_some, Option.map_none, Option.bind_some, addD, intD, subI, modI, divI, adI, negD, mulD, revND, revD, tupE, lstE, mtE, okTy, isStr, isLst, stripF, callE, callI, truT, tru1, tru, truD, blT, notT, andT, orT, ifE, notE, andE, orE, if_true, Bool.not_true, Bool.not_false, Bool.true_and, Bool.and_true, Bool.false_and, Bool.or_false, Bool.false_or, Bool.true_or, Bool.or_true, Bool.and_false, Bool.false_xor, Bool.true_xor, slE, noP, someP, sl1, slD, seqI, its1, optI, forS, turn, lcE, wipeS, restS, plainAt, List.getD_cons_zero, List.getD_cons_succ, List.all_cons, List.all_nil, muE, mu1, lstAt, dArgs, appF, popF, rvsF, extF, rng1I, rng2I, enI, zipI, zip2, starA, subS, decide_true, decide_false, Int.reduceLT, Int.reduceLE, Nat.reduceLT, Nat.reduceLeDiff, true_and, and_true, Bool.false_eq_true, if_false, ite_true, ite_false, reduceIte, reduceCtorEq, Option.some.injEq, is_number_c, h]
    exact ⟨_, rfl⟩
theorem letters_of_c (k : Int) (s : S) : call1 1 F_letters_of [.d (.int k)] s = if numOk k = true then .ok (.d (.str (letters k))) s else bad "BadNumber" s := by
  cases h : numOk k
  · refine call_er (ds := [.int k]) rfl ?_
    simp only [b_letters_of, Gv, Gio, ins, List.map_cons, List.map_nil, List.length_cons, List.length_nil, Nat.sub_self, List.replicate_zero, List.append_nil, List.nil_append, List.cons_append, List.replicate_succ, Nat.reduceSub, Nat.reduceAdd, retS, retN, ret1, setS, sto, stoO, freeAt, free_dv, dv_some, dv_none, free_d, free_n, free_o, plain_dv, plain_dd, plain_n, dropS, seqS, ifS, raiS, nextS, brkS, cntS, unpS, tpG, itsOf, bindAll, optO, nmG, augS, chE, bind_ok, bind_er, bind_ite, out_ok, out_er, out_ite, seq_nx, seq_rt, seq_er, seq_bk, seq_ct, seq_ite, ite_and, ite_or, ite_and2, ite_or2, ite_andB, ite_orB, cE, varE, shE, shr, bi2, un1, opE, unE, rd, List.getElem?_cons_zero, List.getElem?_cons_succ, List.set_cons_zero, List.set_cons_succ, leD, ltD, gtD, geD, cmpD, eqD_str, neD_str, eqD_int, neD_int, inD_sign, isD, isNone, ifB, caE, consA, nilA, ca1, rdAll, dAll, lenD, intF, tupF, lstF, Option.map_some, Option.map_none, Option.bind_some, addD, intD, subI, modI, divI, adI, negD, mulD, revND, revD, tupE, lstE, mtE, okTy, isStr, isLst, stripF, callE, callI, truT, tru1, tru, truD, blT, notT, andT, orT, ifE, notE, andE, orE, if_true, Bool.not_true, Bool.not_false, Bool.true_and, Bool.and_true, Bool.false_and, Bool.or_false, Bool.false_or, Bool.true_or, Bool.or_true, Bool.and_false, Bool.false_xor, Bool.true_xor, slE, noP, someP, sl1, slD, seqI, its1, optI, forS, turn, lcE, wipeS, restS, plainAt, List.getD_cons_zero, List.getD_cons_succ, List.all_cons, List.all_nil, muE, mu1, lstAt, dArgs, appF, popF, rvsF, extF, rng1I, rng2I, enI, zipI, zip2, starA, subS, decide_true, decide_false, Int.reduceLT, Int.reduceLE, Nat.reduceLT, Nat.reduceLeDiff, true_and, and_true, Bool.false_eq_true, if_false, ite_true, ite_false, reduceIte, reduceCtorEq, Option.some.injEq, check_number_c, bad, h]
    exact ⟨_, rfl⟩
  · refine call_rt (ds := [.int k]) rfl ?_
    simp only [b_letters_of, Gv, Gio, ins, List.map_cons, List.map_nil, List.length_cons, List.length_nil, Nat.sub_self, List.replicate_zero, List.append_nil, List.nil_append, List.cons_append, List.replicate_succ, Nat.reduceSub, Nat.reduceAdd, retS, retN, ret1, setS, sto, stoO, freeAt, free_dv, dv_some, dv_none, free_d, free_n, free_o, plain_dv, plain_dd, plain_n, dropS, seqS, ifS, raiS, nextS, brkS, cntS, unpS, tpG, itsOf, bindAll, optO, nmG, augS, chE, bind_ok, bind_er, bind_ite, out_ok, out_er, out_ite, seq_nx, seq_rt, seq_er, seq_bk, seq_ct, seq_ite, ite_and, ite_or, ite_and2, ite_or2, ite_andB, ite_orB, cE, varE, shE, shr, bi2, un1, opE, unE, rd, List.getElem?_cons_zero, List.getElem?_cons_succ, List.set_cons_zero, List.set_cons_succ, leD, ltD, gtD, geD, cmpD, eqD_str, neD_str, eqD_int, neD_int, inD_sign, isD, isNone, ifB, caE, consA, nilA, ca1, rdAll, dAll, lenD, intF, tupF, lstF, Option.map_some, Option.map_none, Option.bind_some, addD, intD, subI, modI, divI, adI, negD, mulD, revND, revD, tupE, lstE, mtE, okTy, isStr, isLst, stripF, callE, callI, truT, tru1, tru, truD, blT, notT, andT, orT, ifE, notE, andE, orE, if_true, Bool.not_true, Bool.not_false, Bool.true_and, Bool.and_true, Bool.false_and, Bool.or_false, Bool.false_or, Bool.true_or, Bool.or_true, Bool.and_false, Bool.false_xor, Bool.true_xor, slE, noP, someP, sl1, slD, seqI, its1, optI, forS, turn, lcE, wipeS, restS, plainAt, List.getD_cons_zero, List.getD_cons_succ, List.all_cons, List.all_nil, muE, mu1, lstAt, dArgs, appF, popF, rvsF, extF, rng1I, rng2I, enI, zipI, zip2, starA, subS, decide_true, decide_false, Int.reduceLT, Int.reduceLE, Nat.reduceLT, Nat.reduceLeDiff, true_and, and_true, Bool.false_eq_true, if_false, ite_true, ite_false, reduceIte, reduceCtorEq, Option.some.injEq, check_number_c, h]
    exact ⟨_, rfl⟩
theorem is_word_c (k : Int) (w : Str) (s : S) : call1 2 F_is_word [.d (.int k), .d (.str w)] s = if numOk k = true then .ok (.d (.bool (isWord k w))) s else bad "BadNumber" s := by
  cases h : numOk k
  · refine call_er (ds := [.int k, .str w]) rfl ?_
    simp only [b_is_word, Gv, Gio, ins, List.map_cons, List.map_nil, List.length_cons, List.length_nil, Nat.sub_self, List.replicate_zero, List.append_nil, List.nil_append, List.cons_append, List.replicate_succ, Nat.reduceSub, Nat.reduceAdd, retS, retN, ret1, setS, sto, stoO, freeAt, free_dv, dv_some, dv_none, free_d, free_n, free_o, plain_dv, plain_dd, plain_n, dropS, seqS, ifS, raiS, nextS, brkS, cntS, unpS, tpG, itsOf, bindAll, optO, nmG, augS, chE, bind_ok, bind_er, bind_ite, out_ok, out_er, out_ite, seq_nx, seq_rt, seq_er, seq_bk, seq_ct, seq_ite, ite_and, ite_or, ite_and2, ite_or2, ite_andB, ite_orB, cE, varE, shE, shr, bi2, un1, opE, unE, rd, List.getElem?_cons_zero, List.getElem?_cons_succ, List.set_cons_zero, List.set_cons_succ, leD, ltD, gtD, geD, cmpD, eqD_str, neD_str, eqD_int, neD_int, inD_sign, isD, isNone, ifB, caE, consA, nilA, ca1, rdAll, dAll, lenD, intF, tupF, lstF, Option.map_some, Option.map_none, Option.bind_some, addD, intD, subI, modI, divI, adI, negD, mulD, revND, revD, tupE, lstE, mtE, okTy, isStr, isLst, stripF, callE, callI, truT, tru1, tru, truD, blT, notT, andT, orT, ifE, notE, andE, orE, if_true, Bool.not_true, Bool.not_false, Bool.true_and, Bool.and_true, Bool.false_and, Bool.or_false, Bool.false_or, Bool.true_or, Bool.or_true, Bool.and_false, Bool.false_xor, Bool.true_xor, slE, noP, someP, sl1, slD, seqI, its1, optI, forS, turn, lcE, wipeS, restS, plainAt, List.getD_cons_zero, List.getD_cons_succ, List.all_cons, List.all_nil, muE, mu1, lstAt, dArgs, appF, popF, rvsF, extF, rng1I, rng2I, enI, zipI, zip2, starA, subS, decide_true, decide_false, Int.reduceLT, Int.reduceLE, Nat.reduceLT, Nat.reduceLeDiff, true_and, and_true, Bool.false_eq_true, if_false, ite_true, ite_false, reduceIte, reduceCtorEq, Option.some.injEq, letters_of_c, bad, h]
    exact ⟨_, rfl⟩
  · refine call_rt (ds := [.int k, .str w]) rfl ?_
    simp only [b_is_word, Gv, Gio, ins, List.map_cons, List.map_nil, List.length_cons, List.length_nil, Nat.sub_self, List.replicate_zero, List.append_nil, List.nil_append, List.cons_append, List.replicate_succ, Nat.reduceSub, Nat.reduceAdd, retS, retN, ret1, setS, sto, stoO, freeAt, free_dv, dv_some, dv_none, free_d, free_n, free_o, plain_dv, plain_dd, plain_n, dropS, seqS, ifS, raiS, nextS, brkS, cntS, unpS, tpG, itsOf, bindAll, optO, nmG, augS, chE, bind_ok, bind_er, bind_ite, out_ok, out_er, out_ite, seq_nx, seq_rt, seq_er, seq_bk, seq_ct, seq_ite, ite_and, ite_or, ite_and2, ite_or2, ite_andB, ite_orB, cE, varE, shE, shr, bi2, un1, opE, unE, rd, List.getElem?_cons_zero, List.getElem?_cons_succ, List.set_cons_zero, List.set_cons_succ, leD, ltD, gtD, geD, cmpD, eqD_str, neD_str, eqD_int, neD_int, inD_sign, isD, isNone, ifB, caE, consA, nilA, ca1, rdAll, dAll, lenD, intF, tupF, lstF, Option.map_some, Option.map_none, Option.bind_some, addD, intD, subI, modI, divI, adI, negD, mulD, revND, revD, tupE, lstE, mtE, okTy, isStr, isLst, stripF, callE, callI, truT, tru1, tru, truD, blT, notT, andT, orT, ifE, notE, andE, orE, if_true, Bool.not_true, Bool.not_false, Bool.true_and, Bool.and_true, Bool.false_and, Bool.or_false, Bool.false_or, Bool.true_or, Bool.or_true, Bool.and_false, Bool.false_xor, Bool.true_xor, slE, noP, someP, sl1, slD, seqI, its1, optI, forS, turn, lcE, wipeS, restS, plainAt, List.getD_cons_zero, List.getD_cons_succ, List.all_cons, List.all_nil, muE, mu1, lstAt, dArgs, appF, popF, rvsF, extF, rng1I, rng2I, enI, zipI, zip2, starA, subS, decide_true, decide_false, Int.reduceLT, Int.reduceLE, Nat.reduceLT, Nat.reduceLeDiff, true_and, and_true, Bool.false_eq_true, if_false, ite_true, ite_false, reduceIte, reduceCtorEq, Option.some.injEq, letters_of_c, h]
    exact ⟨_, rfl⟩
theorem check_word_c (k : Int) (w : Str) (s : S) : call1 2 F_check_word [.d (.int k), .d (.str w)] s = if numOk k = true then (if isWord k w = true then .ok (.d .none) s else bad "NotWord" s) else bad "BadNumber" s := by
  cases h : numOk k
  · refine call_er (ds := [.int k, .str w]) rfl ?_
    simp only [b_check_word, Gv, Gio, ins, List.map_cons, List.map_nil, List.length_cons, List.length_nil, Nat.sub_self, List.replicate_zero, List.append_nil, List.nil_append, List.cons_append, List.replicate_succ, Nat.reduceSub, Nat.reduceAdd, retS, retN, ret1, setS, sto, stoO, freeAt, free_dv, dv_some, dv_none, free_d, free_n, free_o, plain_dv, plain_dd, plain_n, dropS, seqS, ifS, raiS, nextS, brkS, cntS, unpS, tpG, itsOf, bindAll, optO, nmG, augS, chE, bind_ok, bind_er, bind_ite, out_ok, out_er, out_ite, seq_nx, seq_rt, seq_er, seq_bk, seq_ct, seq_ite, ite_and, ite_or, ite_and2, ite_or2, ite_andB, ite_orB, cE, varE, shE, shr, bi2, un1, opE, unE, rd, List.getElem?_cons_zero, List.getElem?_cons_succ, List.set_cons_zero, List.set_cons_succ, leD, ltD, gtD, geD, cmpD, eqD_str, neD_str, eqD_int, neD_int, inD_sign, isD, isNone, ifB, caE, consA, nilA, ca1, rdAll, dAll, lenD, intF, tupF, lstF, Option.map_some, Option.map_none, Option.bind_some, addD, intD, subI, modI, divI, adI, negD, mulD, revND, revD, tupE, lstE, mtE, okTy, isStr, isLst, stripF, callE, callI, truT, tru1, tru, truD, blT, notT, andT, orT, ifE, notE, andE, orE, if_true, Bool.not_true, Bool.not_false, Bool.true_and, Bool.and_true, Bool.false_and, Bool.or_false, Bool.false_or, Bool.true_or, Bool.or_true, Bool.and_false, Bool.false_xor, Bool.true_xor, slE, noP, someP, sl1, slD, seqI, its1, optI, forS, turn, lcE, wipeS, restS, plainAt, List.getD_cons_zero, List.getD_cons_succ, List.all_cons, List.all_nil, muE, mu1, lstAt, dArgs, appF, popF, rvsF, extF, rng1I, rng2I, enI, zipI, zip2, starA, subS, decide_true, decide_false, Int.reduceLT, Int.reduceLE, Nat.reduceLT, Nat.reduceLeDiff, true_and, and_true, Bool.false_eq_true, if_false, ite_true, ite_false, reduceIte, reduceCtorEq, Option.some.injEq, is_word_c, bad, h]
    exact ⟨_, rfl⟩
  · cases h2 : isWord k w
    · refine call_er (ds := [.int k, .str w]) rfl ?_
      simp only [b_check_word, Gv, Gio, ins, List.map_cons, List.map_nil, List.length_cons, List.length_nil, Nat.sub_self, List.replicate_zero, List.append_nil, List.nil_append, List.cons_append, List.replicate_succ, Nat.reduceSub, Nat.reduceAdd, retS, retN, ret1, setS, sto, stoO, freeAt, free_dv, dv_some, dv_none, free_d, free_n, free_o, plain_dv, plain_dd, plain_n, dropS, seqS, ifS, raiS, nextS, brkS, cntS, unpS, tpG, itsOf, bindAll, optO, nmG, augS, chE, bind_ok, bind_er, bind_ite, out_ok, out_er, out_ite, seq_nx, seq_rt, seq_er, seq_bk, seq_ct, seq_ite, ite_and, ite_or, ite_and2, ite_or2, ite_andB, ite_orB, cE, varE, shE, shr, bi2, un1, opE, unE, rd, List.getElem?_cons_zero, List.getElem?_cons_succ, List.set_cons_zero, List.set_cons_succ, leD, ltD, gtD, geD, cmpD, eqD_str, neD_str, eqD_int, neD_int, inD_sign, isD, isNone, ifB, caE, consA, nilA, ca1, rdAll, dAll, lenD, intF, tupF, lstF, Option.map_some, Option.map_none, Option.bind_some, addD, intD, subI, modI, divI, adI, negD, mulD, revND, revD, tupE, lstE, mtE, okTy, isStr, isLst, stripF, callE, callI, truT, tru1, tru, truD, blT, notT, andT, orT, ifE, notE, andE, orE, if_true, Bool.not_true, Bool.not_false, Bool.true_and, Bool.and_true, Bool.false_and, Bool.or_false, Bool.false_or, Bool.true_or, Bool.or_true, Bool.and_false, Bool.false_xor, Bool.true_xor, slE, noP, someP, sl1, slD, seqI, its1, optI, forS, turn, lcE, wipeS, restS, plainAt, List.getD_cons_zero, List.getD_cons_succ, List.all_cons, List.all_nil, muE, mu1, lstAt, dArgs, appF, popF, rvsF, extF, rng1I, rng2I, enI, zipI, zip2, starA, subS, decide_true, decide_false, Int.reduceLT, Int.reduceLE, Nat.reduceLT, Nat.reduceLeDiff, true_and, and_true, Bool.false_eq_true, if_false, ite_true, ite_false, reduceIte, reduceCtorEq, Option.some.injEq, is_word_c, h, h2]
      exact ⟨_, rfl⟩
    · refine call_nx (ds := [.int k, .str w]) rfl ?_
      simp only [b_check_word, Gv, Gio, ins, List.map_cons, List.map_nil, List.length_cons, List.length_nil, Nat.sub_self, List.replicate_zero, List.append_nil, List.nil_append, List.cons_append, List.replicate_succ, Nat.reduceSub, Nat.reduceAdd, retS, retN, ret1, setS, sto, stoO, freeAt, free_dv, dv_some, dv_none, free_d, free_n, free_o, plain_dv, plain_dd, plain_n, dropS, seqS, ifS, raiS, nextS, brkS, cntS, unpS, tpG, itsOf, bindAll, optO, nmG, augS, chE, bind_ok, bind_er, bind_ite, out_ok, out_er, out_ite, seq_nx, seq_rt, seq_er, seq_bk, seq_ct, seq_ite, ite_and, ite_or, ite_and2, ite_or2, ite_andB, ite_orB, cE, varE, shE, shr, bi2, un1, opE, unE, rd, List.getElem?_cons_zero, List.getElem?_cons_succ, List.set_cons_zero, List.set_cons_succ, leD, ltD, gtD, geD, cmpD, eqD_str, neD_str, eqD_int, neD_int, inD_sign, isD, isNone, ifB, caE, consA, nilA, ca1, rdAll, dAll, lenD, intF, tupF, lstF, Option.map_some, Option.map_none, Option.bind_some, addD, intD, subI, modI, divI, adI, negD, mulD, revND, revD, tupE, lstE, mtE, okTy, isStr, isLst, stripF, callE, callI, truT, tru1, tru, truD, blT, notT, andT, orT, ifE, notE, andE, orE, if_true, Bool.not_true, Bool.not_false, Bool.true_and, Bool.and_true, Bool.false_and, Bool.or_false, Bool.false_or, Bool.true_or, Bool.or_true, Bool.and_false, Bool.false_xor, Bool.true_xor, slE, noP, someP, sl1, slD, seqI, its1, optI, forS, turn, lcE, wipeS, restS, plainAt, List.getD_cons_zero, List.getD_cons_succ, List.all_cons, List.all_nil, muE, mu1, lstAt, dArgs, appF, popF, rvsF, extF, rng1I, rng2I, enI, zipI, zip2, starA, subS, decide_true, decide_false, Int.reduceLT, Int.reduceLE, Nat.reduceLT, Nat.reduceLeDiff, true_and, and_true, Bool.false_eq_true, if_false, ite_true, ite_false, reduceIte, reduceCtorEq, Option.some.injEq, is_word_c, h, h2]
      exact ⟨_, rfl⟩
end M
set_option Elab.async false
set_option linter.all false
set_option maxRecDepth 100000
set_option maxHeartbeats 4000000
namespace M
open PySem PySem.Spec L2 Sv
end M
set_option Elab.async false
set_option linter.all false
set_option maxRecDepth 100000
set_option maxHeartbeats 4000000
namespace M
open PySem PySem.Spec L2 Sv
def Rl.nil : Rl := ⟨"", "", [], []⟩
def Shp (k : Nat) (d : PyData) : Prop := d.canLay0 = true ∧ d.depth ≤ k
theorem shp_all {k : Nat} : ∀ {ds : List PyData}, (∀ d ∈ ds, Shp k d) → PyData.canLayAll0 ds = true ∧ PyData.depthAll ds ≤ k
  | [], _ => ⟨rfl, Nat.zero_le _⟩
  | d :: ds, h => by
    obtain ⟨a, b⟩ := shp_all (ds := ds) fun z m => h z (List.mem_cons_of_mem _ m)
    obtain ⟨c, e⟩ := h d List.mem_cons_self
    refine ⟨?_, ?_⟩
    · show (d.canLay0 && PyData.canLayAll0 ds) = true
      rw [a, c]; rfl
    · show max d.depth (PyData.depthAll ds) ≤ k
      omega
theorem Shp.list {k : Nat} {ds : List PyData} (h : ∀ d ∈ ds, Shp k d) : Shp (k + 1) (.list ds) := ⟨(shp_all h).1, Nat.succ_le_succ (shp_all h).2⟩
theorem Shp.tup {k : Nat} {ds : List PyData} (h : ∀ d ∈ ds, Shp k d) : Shp (k + 1) (.tuple ds) := ⟨(shp_all h).1, Nat.succ_le_succ (shp_all h).2⟩
theorem Shp.str {k : Nat} {x : Str} (h : ∀ c ∈ x.cps.toList, c < 1000) : Shp k (.str x) := by
  refine ⟨?_, Nat.zero_le _⟩
  show x.cps.all (· < 0x110000) = true
  rw [Array.all_eq_true_iff_forall_mem]
  exact fun c m => decide_eq_true (Nat.lt_trans (h c (Array.mem_toList_iff.mpr m)) (by decide))
theorem Shp.int {k : Nat} {i : Int} : Shp k (.int i) := ⟨rfl, Nat.zero_le _⟩
theorem Shp.ok {k : Nat} {d : PyData} (h : Shp k d) (hk : k ≤ 64) : SeqAt.shaped d = true := by
  show (d.canLay0 && decide (d.depth ≤ 64)) = true
  rw [h.1, decide_eq_true (Nat.le_trans h.2 hk)]
  rfl
theorem Shp.eqv {k : Nat} {d : PyData} (h : Shp k d) : PyData.eqv d d = true := SeqAt.eqv_refl d h.1
end M
set_option Elab.async false
set_option linter.all false
set_option maxRecDepth 100000
set_option maxHeartbeats 4000000
namespace M
open PySem PySem.Spec L2 Sv
end M
set_option Elab.async false
set_option linter.all false
set_option maxRecDepth 100000
set_option maxHeartbeats 4000000
namespace M
open PySem PySem.Spec L2 Sv
end M
set_option Elab.async false
set_option linter.all false
set_option maxRecDepth 100000
set_option maxHeartbeats 4000000
namespace M
open PySem PySem.Spec L2 Sv
def Dr (ds : List D) : Prop := ∀ d ∈ ds, ∃ n : Int, d = .int n ∧ 0 ≤ n ∧ n < 1000
theorem Dr.nil : Dr [] := fun _ m => nomatch m
theorem Dr.app {a b : List D} (h : Dr a) (g : Dr b) : Dr (a ++ b) := fun d m => (List.mem_append.mp m).elim (h d) (g d)
theorem Dr.rev {a : List D} (h : Dr a) : Dr a.reverse := fun d m => h d (List.mem_reverse.mp m)
theorem Dr.one {n : Int} : Dr [.int (n % 1000)] := fun d m => by
  rw [List.mem_singleton.mp m]
  exact ⟨_, rfl, Int.emod_nonneg _ (by decide), Int.emod_lt_of_pos _ (by decide)⟩
theorem Dr.three {a b c : Int} : Dr [.int (a % 1000), .int (b % 1000), .int (c % 1000)] := by
  have := (Dr.one (n := a)).app ((Dr.one (n := b)).app (Dr.one (n := c)))
  exact this
section
variable {n N : Nat} {b : S → Out} {s : S} {o : Ob} {ns : List Int}
theorem call_s (h : ∃ s1, b (some (.s ns) :: List.replicate (N - 1) none) = .rt (.o true o) s1) : call1 1 (fin N b) [.s ns] s = .ok (.o true o) s := by
  obtain ⟨s1, e⟩ := h
  have e2 : fin N b [some (.s ns)] = .ok (.o true o) (outs [some (.s ns)] s1) := by
    show fin1 [some (.s ns)] (b (some (.s ns) :: List.replicate (N - 1) none)) = _
    rw [e]
    rfl
  show (if (refs [.s ns]).Nodup ∧ 1 = 1 ∧ plainA [.s ns] = true then callR [.s ns] s (fin N b [some (.s ns)]) else .no) = _
  rw [if_pos ⟨List.nodup_nil, rfl, rfl⟩, e2]
  cases s1 <;> rfl
end
def At (n : Nat) (F : S → ER Vl) (as : List Vl) (ds ds' : List D) (v : Vl) : Prop := ∀ (s : S) (i : Nat) (f : Bool), s[i]? = some (some (.o f (.L ds))) → call1 n F (.r i :: as) s = .ok v (s.set i (some (.o f (.L ds'))))
section
variable {n N : Nat} {F : S → ER Vl} {b : S → Out} {as : List Vl} {ds ds' o o' : List D} {v : Vl} {x : D} {q : Ob}
theorem At.z (h : At n F as ds ds' v) (f : Bool) (r : S) : call1 n F (.r 0 :: as) (some (.o f (.L ds)) :: r) = .ok v (some (.o f (.L ds')) :: r) := h _ 0 f rfl
theorem At.p (h : At n F as ds ds' v) (f : Bool) (x : Option Vl) (r : S) : call1 n F (.r 1 :: as) (x :: some (.o f (.L ds)) :: r) = .ok v (x :: some (.o f (.L ds')) :: r) := h _ 1 f rfl
theorem at_rt (hn : ds.length + 1 = n) (h : ∃ s1, Gio (.L o) ds N b = .rt (.d x) s1 ∧ s1[0]? = some (some (.o false (.L o')))) : At n (fin N b) (ds.map .d) o o' (.d x) := fun _ _ _ hs => io_rt hs hn h
end
section
variable {α : Type} {i : α → D} {g : Tg} {b : S → Out}
theorem forL_b {St : Nat → S → Prop} {s : S} {xs : List α} (h0 : St 0 s) (h : ∀ n a, xs[n]? = some a → ∀ s, St n s → ∃ s2, (turn g b (i a) s = .nx s2 ∨ turn g b (i a) s = .ct s2 ∨ turn g b (i a) s = .bk s2) ∧ St (n + 1) s2) : ∃ m s', m ≤ xs.length ∧ forL g b (xs.map i) s = .nx s' ∧ St m s' := by
  suffices hh : ∀ (ys : List α) (k : Nat) (s : S), (∀ n a, ys[n]? = some a → ∀ s, St (k + n) s → ∃ s2, (turn g b (i a) s = .nx s2 ∨ turn g b (i a) s = .ct s2 ∨ turn g b (i a) s = .bk s2) ∧ St (k + n + 1) s2) → St k s → ∃ m s', m ≤ k + ys.length ∧ forL g b (ys.map i) s = .nx s' ∧ St m s' by
    have := hh xs 0 s (fun n a e s hs => by rw [Nat.zero_add] at hs ⊢; exact h n a e s hs) h0
    rw [Nat.zero_add] at this
    exact this
  intro ys
  induction ys with
  | nil => exact fun k s _ hs => ⟨k, s, Nat.le_refl _, rfl, hs⟩
  | cons a ys ih =>
    intro k s h hs
    obtain ⟨s2, h2, h3⟩ := h 0 a rfl s hs
    have on : (turn g b (i a) s = .nx s2 ∨ turn g b (i a) s = .ct s2) → ∃ m s', m ≤ k + (a :: ys).length ∧ forL g b ((a :: ys).map i) s = .nx s' ∧ St m s' := fun h2 => by
      obtain ⟨m, s', e0, e1, e2⟩ := ih (k + 1) s2 (fun n b e s q => by
        have := h (n + 1) b (by simpa using e) s (by rw [show k + (n + 1) = k + 1 + n by omega]; exact q)
        rw [show k + (n + 1) + 1 = k + 1 + n + 1 by omega] at this
        exact this) h3
      refine ⟨m, s', by rw [List.length_cons]; omega, ?_, e2⟩
      rw [List.map_cons, forL_cons]
      rcases h2 with h2 | h2 <;> rw [h2] <;> exact e1
    rcases h2 with h2 | h2 | h2
    · exact on (.inl h2)
    · exact on (.inr h2)
    · refine ⟨k + 0 + 1, s2, by rw [List.length_cons]; omega, ?_, h3⟩
      rw [List.map_cons, forL_cons, h2]
      rfl
end
theorem law_number_c (i : Int) (s : S) : call1 1 F_law_number [.d (.int i)] s = .ok (.d (.int ((i.natAbs : Nat) : Int))) s := by
  refine call_rt (ds := [.int i]) rfl ?_
  by_cases h : i < 0
  · simp only [b_law_number, Gv, Gio, ins, List.map_cons, List.map_nil, List.length_cons, List.length_nil, Nat.sub_self, List.replicate_zero, List.append_nil, List.nil_append, List.cons_append, List.replicate_succ, Nat.reduceSub, Nat.reduceAdd, retS, retN, ret1, setS, sto, stoO, freeAt, free_dv, dv_some, dv_none, free_d, free_n, free_o, plain_dv, plain_dd, plain_n, dropS, seqS, ifS, raiS, nextS, brkS, cntS, unpS, tpG, itsOf, bindAll, optO, nmG, augS, chE, bind_ok, bind_er, bind_ite, out_ok, out_er, out_ite, seq_nx, seq_rt, seq_er, seq_bk, seq_ct, seq_ite, ite_and, ite_or, ite_and2, ite_or2, ite_andB, ite_orB, cE, varE, shE, shr, bi2, un1, opE, unE, rd, List.getElem?_cons_zero, List.getElem?_cons_succ, List.set_cons_zero, List.set_cons_succ, leD, ltD, gtD, geD, cmpD, eqD_str, neD_str, eqD_int, neD_int, inD_sign, isD, isNone, ifB, caE, consA, nilA, ca1, rdAll, dAll, lenD, intF, tupF, lstF, Option.map_some, Option.map_none, Option.bind_some, addD, intD, subI, modI, divI, adI, negD, mulD, revND, revD, tupE, lstE, mtE, okTy, isStr, isLst, stripF, callE, callI, truT, tru1, tru, truD, blT, notT, andT, orT, ifE, notE, andE, orE, if_true, Bool.not_true, Bool.not_false, Bool.true_and, Bool.and_true, Bool.false_and, Bool.or_false, Bool.false_or, Bool.true_or, Bool.or_true, Bool.and_false, Bool.false_xor, Bool.true_xor, slE, noP, someP, sl1, slD, seqI, its1, optI, forS, turn, lcE, wipeS, restS, plainAt, List.getD_cons_zero, List.getD_cons_succ, List.all_cons, List.all_nil, muE, mu1, lstAt, dArgs, appF, popF, rvsF, extF, rng1I, rng2I, enI, zipI, zip2, starA, subS, decide_true, decide_false, Int.reduceLT, Int.reduceLE, Nat.reduceLT, Nat.reduceLeDiff, true_and, and_true, Bool.false_eq_true, if_false, ite_true, ite_false, reduceIte, reduceCtorEq, Option.some.injEq, h, decide_true]
    rw [show ((i.natAbs : Nat) : Int) = 0 - i by omega]
    exact ⟨_, rfl⟩
  · simp only [b_law_number, Gv, Gio, ins, List.map_cons, List.map_nil, List.length_cons, List.length_nil, Nat.sub_self, List.replicate_zero, List.append_nil, List.nil_append, List.cons_append, List.replicate_succ, Nat.reduceSub, Nat.reduceAdd, retS, retN, ret1, setS, sto, stoO, freeAt, free_dv, dv_some, dv_none, free_d, free_n, free_o, plain_dv, plain_dd, plain_n, dropS, seqS, ifS, raiS, nextS, brkS, cntS, unpS, tpG, itsOf, bindAll, optO, nmG, augS, chE, bind_ok, bind_er, bind_ite, out_ok, out_er, out_ite, seq_nx, seq_rt, seq_er, seq_bk, seq_ct, seq_ite, ite_and, ite_or, ite_and2, ite_or2, ite_andB, ite_orB, cE, varE, shE, shr, bi2, un1, opE, unE, rd, List.getElem?_cons_zero, List.getElem?_cons_succ, List.set_cons_zero, List.set_cons_succ, leD, ltD, gtD, geD, cmpD, eqD_str, neD_str, eqD_int, neD_int, inD_sign, isD, isNone, ifB, caE, consA, nilA, ca1, rdAll, dAll, lenD, intF, tupF, lstF, Option.map_some, Option.map_none, Option.bind_some, addD, intD, subI, modI, divI, adI, negD, mulD, revND, revD, tupE, lstE, mtE, okTy, isStr, isLst, stripF, callE, callI, truT, tru1, tru, truD, blT, notT, andT, orT, ifE, notE, andE, orE, if_true, Bool.not_true, Bool.not_false, Bool.true_and, Bool.and_true, Bool.false_and, Bool.or_false, Bool.false_or, Bool.true_or, Bool.or_true, Bool.and_false, Bool.false_xor, Bool.true_xor, slE, noP, someP, sl1, slD, seqI, its1, optI, forS, turn, lcE, wipeS, restS, plainAt, List.getD_cons_zero, List.getD_cons_succ, List.all_cons, List.all_nil, muE, mu1, lstAt, dArgs, appF, popF, rvsF, extF, rng1I, rng2I, enI, zipI, zip2, starA, subS, decide_true, decide_false, Int.reduceLT, Int.reduceLE, Nat.reduceLT, Nat.reduceLeDiff, true_and, and_true, Bool.false_eq_true, if_false, ite_true, ite_false, reduceIte, reduceCtorEq, Option.some.injEq, h, decide_false]
    rw [show ((i.natAbs : Nat) : Int) = i by omega]
    exact ⟨_, rfl⟩
theorem law_draws_c (ns : List Int) (hn : ns.length ≤ 63) (s : S) : ∃ ds, call1 1 F_law_draws [.s ns] s = .ok (.o true (.L ds)) s ∧ Dr ds := by
  have hb1 : bits64 48271 = true := by decide +kernel
  have hb2 : bits64 69621 = true := by decide +kernel
  have hsm : smI 60 = true := by decide +kernel
  have inner : ∀ (m : Nat) (c : D) (r : Int) (ds : List D) (k o t : Option D), Dr ds → ds.length ≤ 10000 → ∃ s', forL (nmG 4) b_law_draws_1 (rngL 0 (Int.toNat 60)) [some (.s ns), some (.o true (.L ds)), some (.d c), some (.d (.int r)), dv k, dv o, dv t] = .nx s' ∧
      ∃ ds' r' k', s' = [some (.s ns), some (.o true (.L ds')), some (.d c), some (.d (.int r')), dv k', dv o, dv t] ∧ Dr ds' ∧ ds'.length ≤ ds.length + 60 := fun _ c r ds k o t hd hl => by
    rw [rng_zero]
    obtain ⟨m, s', e0, e1, ds', r', k', e2, e3, e4⟩ := forL_b (g := nmG 4) (b := b_law_draws_1) (i := fun j : Nat => .int ((j : Nat) : Int)) (xs := List.range (Int.toNat 60)) (s := [some (.s ns), some (.o true (.L ds)), some (.d c), some (.d (.int r)), dv k, dv o, dv t])
      (St := fun m s => ∃ ds' r' k', s = [some (.s ns), some (.o true (.L ds')), some (.d c), some (.d (.int r')), dv k', dv o, dv t] ∧ Dr ds' ∧ ds'.length ≤ ds.length + m) ⟨ds, r, k, rfl, hd, Nat.le_refl _⟩ (by
        rintro m a em s ⟨ds', r', k', rfl, hd', hl'⟩
        have hm : m < 60 := by
          have := (List.getElem?_eq_some_iff.mp em).1
          rw [List.length_range] at this
          exact this
        cases hz : decide (r' = 0)
        · have hlt : ds'.length < 16777216 := by omega
          refine ⟨_, .inl ?_, ds' ++ [.int (r' % 1000)], r' / 1000, some (.int ((a : Nat) : Int)), rfl, hd'.app Dr.one, by rw [List.length_append]; show _ + 1 ≤ _; omega⟩
          simp only [b_law_draws_1, Gv, Gio, ins, List.map_cons, List.map_nil, List.length_cons, List.length_nil, Nat.sub_self, List.replicate_zero, List.append_nil, List.nil_append, List.cons_append, List.replicate_succ, Nat.reduceSub, Nat.reduceAdd, retS, retN, ret1, setS, sto, stoO, freeAt, free_dv, dv_some, dv_none, free_d, free_n, free_o, plain_dv, plain_dd, plain_n, dropS, seqS, ifS, raiS, nextS, brkS, cntS, unpS, tpG, itsOf, bindAll, optO, nmG, augS, chE, bind_ok, bind_er, bind_ite, out_ok, out_er, out_ite, seq_nx, seq_rt, seq_er, seq_bk, seq_ct, seq_ite, ite_and, ite_or, ite_and2, ite_or2, ite_andB, ite_orB, cE, varE, shE, shr, bi2, un1, opE, unE, rd, List.getElem?_cons_zero, List.getElem?_cons_succ, List.set_cons_zero, List.set_cons_succ, leD, ltD, gtD, geD, cmpD, eqD_str, neD_str, eqD_int, neD_int, inD_sign, isD, isNone, ifB, caE, consA, nilA, ca1, rdAll, dAll, lenD, intF, tupF, lstF, Option.map_some, Option.map_none, Option.bind_some, addD, intD, subI, modI, divI, adI, negD, mulD, revND, revD, tupE, lstE, mtE, okTy, isStr, isLst, stripF, callE, callI, truT, tru1, tru, truD, blT, notT, andT, orT, ifE, notE, andE, orE, if_true, Bool.not_true, Bool.not_false, Bool.true_and, Bool.and_true, Bool.false_and, Bool.or_false, Bool.false_or, Bool.true_or, Bool.or_true, Bool.and_false, Bool.false_xor, Bool.true_xor, slE, noP, someP, sl1, slD, seqI, its1, optI, forS, turn, lcE, wipeS, restS, plainAt, List.getD_cons_zero, List.getD_cons_succ, List.all_cons, List.all_nil, muE, mu1, lstAt, dArgs, appF, popF, rvsF, extF, rng1I, rng2I, enI, zipI, zip2, starA, subS, decide_true, decide_false, Int.reduceLT, Int.reduceLE, Nat.reduceLT, Nat.reduceLeDiff, true_and, and_true, Bool.false_eq_true, if_false, ite_true, ite_false, reduceIte, reduceCtorEq, Option.some.injEq, hz, hlt]
        · refine ⟨_, .inr (.inr ?_), ds', r', some (.int ((a : Nat) : Int)), rfl, hd', by omega⟩
          simp only [b_law_draws_1, Gv, Gio, ins, List.map_cons, List.map_nil, List.length_cons, List.length_nil, Nat.sub_self, List.replicate_zero, List.append_nil, List.nil_append, List.cons_append, List.replicate_succ, Nat.reduceSub, Nat.reduceAdd, retS, retN, ret1, setS, sto, stoO, freeAt, free_dv, dv_some, dv_none, free_d, free_n, free_o, plain_dv, plain_dd, plain_n, dropS, seqS, ifS, raiS, nextS, brkS, cntS, unpS, tpG, itsOf, bindAll, optO, nmG, augS, chE, bind_ok, bind_er, bind_ite, out_ok, out_er, out_ite, seq_nx, seq_rt, seq_er, seq_bk, seq_ct, seq_ite, ite_and, ite_or, ite_and2, ite_or2, ite_andB, ite_orB, cE, varE, shE, shr, bi2, un1, opE, unE, rd, List.getElem?_cons_zero, List.getElem?_cons_succ, List.set_cons_zero, List.set_cons_succ, leD, ltD, gtD, geD, cmpD, eqD_str, neD_str, eqD_int, neD_int, inD_sign, isD, isNone, ifB, caE, consA, nilA, ca1, rdAll, dAll, lenD, intF, tupF, lstF, Option.map_some, Option.map_none, Option.bind_some, addD, intD, subI, modI, divI, adI, negD, mulD, revND, revD, tupE, lstE, mtE, okTy, isStr, isLst, stripF, callE, callI, truT, tru1, tru, truD, blT, notT, andT, orT, ifE, notE, andE, orE, if_true, Bool.not_true, Bool.not_false, Bool.true_and, Bool.and_true, Bool.false_and, Bool.or_false, Bool.false_or, Bool.true_or, Bool.or_true, Bool.and_false, Bool.false_xor, Bool.true_xor, slE, noP, someP, sl1, slD, seqI, its1, optI, forS, turn, lcE, wipeS, restS, plainAt, List.getD_cons_zero, List.getD_cons_succ, List.all_cons, List.all_nil, muE, mu1, lstAt, dArgs, appF, popF, rvsF, extF, rng1I, rng2I, enI, zipI, zip2, starA, subS, decide_true, decide_false, Int.reduceLT, Int.reduceLE, Nat.reduceLT, Nat.reduceLeDiff, true_and, and_true, Bool.false_eq_true, if_false, ite_true, ite_false, reduceIte, reduceCtorEq, Option.some.injEq, hz])
    have h60 : (List.range (Int.toNat 60)).length = 60 := by decide +kernel
    exact ⟨s', e1, ds', r', k', e2, e3, by omega⟩
  obtain ⟨s', e1, ds, c, r, k, o, t, e2, e3, e4⟩ := forL_n (g := nmG 2) (b := b_law_draws_2) (i := PyData.int) (xs := ns) (s := [some (.s ns), some (.o true (.L [])), none, none, none, none, none])
    (St := fun m s => ∃ ds c r k o t, s = [some (.s ns), some (.o true (.L ds)), dv c, dv r, dv k, dv o, dv t] ∧ Dr ds ∧ ds.length ≤ 60 * m) ⟨[], none, none, none, none, none, rfl, Dr.nil, Nat.le_refl _⟩ (by
      rintro m a em s ⟨ds, c, r, k, o, t, rfl, hd, hl⟩
      have hm : m < 63 := by
        have := (List.getElem?_eq_some_iff.mp em).1
        omega
      cases hz : decide (1000000000000000000 ≤ ((a.natAbs : Nat) : Int))
      · have hlt : ds.length + 3 ≤ 16777216 := by omega
        refine ⟨_, .inl ?_, ds ++ [.int (((a.natAbs : Nat) : Int) % 1000), .int (((((a.natAbs : Nat) : Int) * 48271 + 11) % 2147483647) % 1000), .int ((((((a.natAbs : Nat) : Int) * 48271 + 11) % 2147483647 * 69621 + ((a.natAbs : Nat) : Int)) % 2147483629) % 1000)], some (.int a), some (.int ((a.natAbs : Nat) : Int)), k, some (.int ((((a.natAbs : Nat) : Int) * 48271 + 11) % 2147483647)), some (.int (((((a.natAbs : Nat) : Int) * 48271 + 11) % 2147483647 * 69621 + ((a.natAbs : Nat) : Int)) % 2147483629)), rfl, hd.app Dr.three, by rw [List.length_append]; show _ + 3 ≤ _; omega⟩
        simp only [b_law_draws_2, Gv, Gio, ins, List.map_cons, List.map_nil, List.length_cons, List.length_nil, Nat.sub_self, List.replicate_zero, List.append_nil, List.nil_append, List.cons_append, List.replicate_succ, Nat.reduceSub, Nat.reduceAdd, retS, retN, ret1, setS, sto, stoO, freeAt, free_dv, dv_some, dv_none, free_d, free_n, free_o, plain_dv, plain_dd, plain_n, dropS, seqS, ifS, raiS, nextS, brkS, cntS, unpS, tpG, itsOf, bindAll, optO, nmG, augS, chE, bind_ok, bind_er, bind_ite, out_ok, out_er, out_ite, seq_nx, seq_rt, seq_er, seq_bk, seq_ct, seq_ite, ite_and, ite_or, ite_and2, ite_or2, ite_andB, ite_orB, cE, varE, shE, shr, bi2, un1, opE, unE, rd, List.getElem?_cons_zero, List.getElem?_cons_succ, List.set_cons_zero, List.set_cons_succ, leD, ltD, gtD, geD, cmpD, eqD_str, neD_str, eqD_int, neD_int, inD_sign, isD, isNone, ifB, caE, consA, nilA, ca1, rdAll, dAll, lenD, intF, tupF, lstF, Option.map_some, Option.map_none, Option.bind_some, addD, intD, subI, modI, divI, adI, negD, mulD, revND, revD, tupE, lstE, mtE, okTy, isStr, isLst, stripF, callE, callI, truT, tru1, tru, truD, blT, notT, andT, orT, ifE, notE, andE, orE, if_true, Bool.not_true, Bool.not_false, Bool.true_and, Bool.and_true, Bool.false_and, Bool.or_false, Bool.false_or, Bool.true_or, Bool.or_true, Bool.and_false, Bool.false_xor, Bool.true_xor, slE, noP, someP, sl1, slD, seqI, its1, optI, forS, turn, lcE, wipeS, restS, plainAt, List.getD_cons_zero, List.getD_cons_succ, List.all_cons, List.all_nil, muE, mu1, lstAt, dArgs, appF, popF, rvsF, extF, rng1I, rng2I, enI, zipI, zip2, starA, subS, decide_true, decide_false, Int.reduceLT, Int.reduceLE, Nat.reduceLT, Nat.reduceLeDiff, true_and, and_true, Bool.false_eq_true, if_false, ite_true, ite_false, reduceIte, reduceCtorEq, Option.some.injEq, law_number_c, geD, hz, hb1, hb2, hlt]
      · obtain ⟨s', i1, ds', r', k', i2, i3, i4⟩ := inner 0 (.int a) ((a.natAbs : Nat) : Int) ds k o t hd (by omega)
        refine ⟨s', .inl ?_, ds', some (.int a), some (.int r'), k', o, t, i2, i3, by omega⟩
        simp only [b_law_draws_2, Gv, Gio, ins, List.map_cons, List.map_nil, List.length_cons, List.length_nil, Nat.sub_self, List.replicate_zero, List.append_nil, List.nil_append, List.cons_append, List.replicate_succ, Nat.reduceSub, Nat.reduceAdd, retS, retN, ret1, setS, sto, stoO, freeAt, free_dv, dv_some, dv_none, free_d, free_n, free_o, plain_dv, plain_dd, plain_n, dropS, seqS, ifS, raiS, nextS, brkS, cntS, unpS, tpG, itsOf, bindAll, optO, nmG, augS, chE, bind_ok, bind_er, bind_ite, out_ok, out_er, out_ite, seq_nx, seq_rt, seq_er, seq_bk, seq_ct, seq_ite, ite_and, ite_or, ite_and2, ite_or2, ite_andB, ite_orB, cE, varE, shE, shr, bi2, un1, opE, unE, rd, List.getElem?_cons_zero, List.getElem?_cons_succ, List.set_cons_zero, List.set_cons_succ, leD, ltD, gtD, geD, cmpD, eqD_str, neD_str, eqD_int, neD_int, inD_sign, isD, isNone, ifB, caE, consA, nilA, ca1, rdAll, dAll, lenD, intF, tupF, lstF, Option.map_some, Option.map_none, Option.bind_some, addD, intD, subI, modI, divI, adI, negD, mulD, revND, revD, tupE, lstE, mtE, okTy, isStr, isLst, stripF, callE, callI, truT, tru1, tru, truD, blT, notT, andT, orT, ifE, notE, andE, orE, if_true, Bool.not_true, Bool.not_false, Bool.true_and, Bool.and_true, Bool.false_and, Bool.or_false, Bool.false_or, Bool.true_or, Bool.or_true, Bool.and_false, Bool.false_xor, Bool.true_xor, slE, noP, someP, sl1, slD, seqI, its1, optI, forS, turn, lcE, wipeS, restS, plainAt, List.getD_cons_zero, List.getD_cons_succ, List.all_cons, List.all_nil, muE, mu1, lstAt, dArgs, appF, popF, rvsF, extF, rng1I, rng2I, enI, zipI, zip2, starA, subS, decide_true, decide_false, Int.reduceLT, Int.reduceLE, Nat.reduceLT, Nat.reduceLeDiff, true_and, and_true, Bool.false_eq_true, if_false, ite_true, ite_false, reduceIte, reduceCtorEq, Option.some.injEq, law_number_c, geD, hz, hsm, i1])
  refine ⟨ds, call_s ?_, e3⟩
  have h0 : (0 : Nat) ≤ 16777216 := by decide
  simp only [b_law_draws, Gv, Gio, ins, List.map_cons, List.map_nil, List.length_cons, List.length_nil, Nat.sub_self, List.replicate_zero, List.append_nil, List.nil_append, List.cons_append, List.replicate_succ, Nat.reduceSub, Nat.reduceAdd, retS, retN, ret1, setS, sto, stoO, freeAt, free_dv, dv_some, dv_none, free_d, free_n, free_o, plain_dv, plain_dd, plain_n, dropS, seqS, ifS, raiS, nextS, brkS, cntS, unpS, tpG, itsOf, bindAll, optO, nmG, augS, chE, bind_ok, bind_er, bind_ite, out_ok, out_er, out_ite, seq_nx, seq_rt, seq_er, seq_bk, seq_ct, seq_ite, ite_and, ite_or, ite_and2, ite_or2, ite_andB, ite_orB, cE, varE, shE, shr, bi2, un1, opE, unE, rd, List.getElem?_cons_zero, List.getElem?_cons_succ, List.set_cons_zero, List.set_cons_succ, leD, ltD, gtD, geD, cmpD, eqD_str, neD_str, eqD_int, neD_int, inD_sign, isD, isNone, ifB, caE, consA, nilA, ca1, rdAll, dAll, lenD, intF, tupF, lstF, Option.map_some, Option.map_none, Option.bind_some, addD, intD, subI, modI, divI, adI, negD, mulD, revND, revD, tupE, lstE, mtE, okTy, isStr, isLst, stripF, callE, callI, truT, tru1, tru, truD, blT, notT, andT, orT, ifE, notE, andE, orE, if_true, Bool.not_true, Bool.not_false, Bool.true_and, Bool.and_true, Bool.false_and, Bool.or_false, Bool.false_or, Bool.true_or, Bool.or_true, Bool.and_false, Bool.false_xor, Bool.true_xor, slE, noP, someP, sl1, slD, seqI, its1, optI, forS, turn, lcE, wipeS, restS, plainAt, List.getD_cons_zero, List.getD_cons_succ, List.all_cons, List.all_nil, muE, mu1, lstAt, dArgs, appF, popF, rvsF, extF, rng1I, rng2I, enI, zipI, zip2, starA, subS, decide_true, decide_false, Int.reduceLT, Int.reduceLE, Nat.reduceLT, Nat.reduceLeDiff, true_and, and_true, Bool.false_eq_true, if_false, ite_true, ite_false, reduceIte, reduceCtorEq, Option.some.injEq, h0, e1, e2]
  exact ⟨_, rfl⟩
theorem law_next_a {ds : List D} (hd : Dr ds)  :
    ∃ n ds', At 1 F_law_next [] ds ds' (.d (.int n)) ∧ 0 ≤ n ∧ n < 1000 ∧ Dr ds' := by
  cases e : ds.getLast? with
  | none =>
    have en : ds = [] := List.getLast?_eq_none_iff.mp e
    subst en
    refine ⟨0, [], at_rt (ds := []) rfl ?_, by decide, by decide, Dr.nil⟩
    simp only [b_law_next, Gv, Gio, ins, List.map_cons, List.map_nil, List.length_cons, List.length_nil, Nat.sub_self, List.replicate_zero, List.append_nil, List.nil_append, List.cons_append, List.replicate_succ, Nat.reduceSub, Nat.reduceAdd, retS, retN, ret1, setS, sto, stoO, freeAt, free_dv, dv_some, dv_none, free_d, free_n, free_o, plain_dv, plain_dd, plain_n, dropS, seqS, ifS, raiS, nextS, brkS, cntS, unpS, tpG, itsOf, bindAll, optO, nmG, augS, chE, bind_ok, bind_er, bind_ite, out_ok, out_er, out_ite, seq_nx, seq_rt, seq_er, seq_bk, seq_ct, seq_ite, ite_and, ite_or, ite_and2, ite_or2, ite_andB, ite_orB, cE, varE, shE, shr, bi2, un1, opE, unE, rd, List.getElem?_cons_zero, List.getElem?_cons_succ, List.set_cons_zero, List.set_cons_succ, leD, ltD, gtD, geD, cmpD, eqD_str, neD_str, eqD_int, neD_int, inD_sign, isD, isNone, ifB, caE, consA, nilA, ca1, rdAll, dAll, lenD, intF, tupF, lstF, Option.map_some, Option.map_none, Option.bind_some, addD, intD, subI, modI, divI, adI, negD, mulD, revND, revD, tupE, lstE, mtE, okTy, isStr, isLst, stripF, callE, callI, truT, tru1, tru, truD, blT, notT, andT, orT, ifE, notE, andE, orE, if_true, Bool.not_true, Bool.not_false, Bool.true_and, Bool.and_true, Bool.false_and, Bool.or_false, Bool.false_or, Bool.true_or, Bool.or_true, Bool.and_false, Bool.false_xor, Bool.true_xor, slE, noP, someP, sl1, slD, seqI, its1, optI, forS, turn, lcE, wipeS, restS, plainAt, List.getD_cons_zero, List.getD_cons_succ, List.all_cons, List.all_nil, muE, mu1, lstAt, dArgs, appF, popF, rvsF, extF, rng1I, rng2I, enI, zipI, zip2, starA, subS, decide_true, decide_false, Int.reduceLT, Int.reduceLE, Nat.reduceLT, Nat.reduceLeDiff, true_and, and_true, Bool.false_eq_true, if_false, ite_true, ite_false, reduceIte, reduceCtorEq, Option.some.injEq, List.isEmpty_nil]
    exact ⟨_, rfl, rfl⟩
  | some d =>
    have hne : ds ≠ [] := fun z => by rw [z] at e; cases e
    have hm : d ∈ ds := List.mem_of_getLast? e
    obtain ⟨n, rfl, h0, h1⟩ := hd d hm
    refine ⟨n, ds.dropLast, at_rt (ds := []) rfl ?_, h0, h1, fun x m => hd x (List.dropLast_subset _ m)⟩
    have he : ds.isEmpty = false := by cases ds <;> first | rfl | exact absurd rfl hne
    simp only [b_law_next, Gv, Gio, ins, List.map_cons, List.map_nil, List.length_cons, List.length_nil, Nat.sub_self, List.replicate_zero, List.append_nil, List.nil_append, List.cons_append, List.replicate_succ, Nat.reduceSub, Nat.reduceAdd, retS, retN, ret1, setS, sto, stoO, freeAt, free_dv, dv_some, dv_none, free_d, free_n, free_o, plain_dv, plain_dd, plain_n, dropS, seqS, ifS, raiS, nextS, brkS, cntS, unpS, tpG, itsOf, bindAll, optO, nmG, augS, chE, bind_ok, bind_er, bind_ite, out_ok, out_er, out_ite, seq_nx, seq_rt, seq_er, seq_bk, seq_ct, seq_ite, ite_and, ite_or, ite_and2, ite_or2, ite_andB, ite_orB, cE, varE, shE, shr, bi2, un1, opE, unE, rd, List.getElem?_cons_zero, List.getElem?_cons_succ, List.set_cons_zero, List.set_cons_succ, leD, ltD, gtD, geD, cmpD, eqD_str, neD_str, eqD_int, neD_int, inD_sign, isD, isNone, ifB, caE, consA, nilA, ca1, rdAll, dAll, lenD, intF, tupF, lstF, Option.map_some, Option.map_none, Option.bind_some, addD, intD, subI, modI, divI, adI, negD, mulD, revND, revD, tupE, lstE, mtE, okTy, isStr, isLst, stripF, callE, callI, truT, tru1, tru, truD, blT, notT, andT, orT, ifE, notE, andE, orE, if_true, Bool.not_true, Bool.not_false, Bool.true_and, Bool.and_true, Bool.false_and, Bool.or_false, Bool.false_or, Bool.true_or, Bool.or_true, Bool.and_false, Bool.false_xor, Bool.true_xor, slE, noP, someP, sl1, slD, seqI, its1, optI, forS, turn, lcE, wipeS, restS, plainAt, List.getD_cons_zero, List.getD_cons_succ, List.all_cons, List.all_nil, muE, mu1, lstAt, dArgs, appF, popF, rvsF, extF, rng1I, rng2I, enI, zipI, zip2, starA, subS, decide_true, decide_false, Int.reduceLT, Int.reduceLE, Nat.reduceLT, Nat.reduceLeDiff, true_and, and_true, Bool.false_eq_true, if_false, ite_true, ite_false, reduceIte, reduceCtorEq, Option.some.injEq, he, e]
    exact ⟨_, rfl, rfl⟩
theorem law_next_c {ds : List D} (hd : Dr ds) {s : S} {i : Nat} {f : Bool} (hs : s[i]? = some (some (.o f (.L ds))))  :
    ∃ n ds', call1 1 F_law_next [.r i] s = .ok (.d (.int n)) (s.set i (some (.o f (.L ds')))) ∧ 0 ≤ n ∧ n < 1000 ∧ Dr ds' := by
  obtain ⟨n, ds', e, h⟩ := law_next_a hd
  exact ⟨n, ds', e s i f hs, h⟩
end M
set_option Elab.async false
set_option linter.all false
set_option maxRecDepth 100000
set_option maxHeartbeats 4000000
namespace M
open PySem PySem.Spec L2 Sv
theorem signs_all {P : Nat → Prop} : ∀ {ys : List D}, (∀ y ∈ ys, ∃ c, y = .str (tx [c]) ∧ P c) → ∃ cs : List Nat, ys = cs.map (fun c => .str (tx [c])) ∧ ∀ c ∈ cs, P c
  | [], _ => ⟨[], rfl, fun _ m => nomatch m⟩
  | y :: ys, h => by
    obtain ⟨cs, e, hp⟩ := signs_all (ys := ys) fun z m => h z (List.mem_cons_of_mem _ m)
    obtain ⟨c, e1, h1⟩ := h y List.mem_cons_self
    exact ⟨c :: cs, by rw [e, e1]; rfl, fun z m => (List.mem_cons.mp m).elim (fun q => q ▸ h1) (hp z)⟩
theorem vals_of {α : Type} {f : α → D} {P : α → Prop} : ∀ {ys : List D}, (∀ y ∈ ys, ∃ c, y = f c ∧ P c) → ∃ cs : List α, ys = cs.map f ∧ ∀ c ∈ cs, P c
  | [], _ => ⟨[], rfl, fun _ m => nomatch m⟩
  | y :: ys, h => by
    obtain ⟨cs, e, hp⟩ := vals_of (ys := ys) fun z m => h z (List.mem_cons_of_mem _ m)
    obtain ⟨c, e1, h1⟩ := h y List.mem_cons_self
    exact ⟨c :: cs, by rw [e, e1]; rfl, fun z m => (List.mem_cons.mp m).elim (fun q => q ▸ h1) (hp z)⟩
theorem mod_pos {n m : Int} (h : 0 < m) : (if 0 < m then some (n % m) else none) = some (n % m) := if_pos h
end M
set_option Elab.async false
set_option linter.all false
set_option maxRecDepth 100000
set_option maxHeartbeats 4000000
namespace M
open PySem PySem.Spec L2 Sv
abbrev sg (c : Nat) : D := .str (tx [c])
theorem tx_add (a b : List Nat) : (tx a ++ tx b : Str) = tx (a ++ b) := tx_app a b
end M
set_option Elab.async false
set_option linter.all false
set_option maxRecDepth 100000
set_option maxHeartbeats 4000000
namespace M
open PySem PySem.Spec L2 Sv
theorem revS_len (w : Str) : (revS w).length = w.length := by
  unfold revS
  rw [tx_len, List.length_reverse, Array.length_toList]
  rfl
end M
set_option Elab.async false
set_option linter.all false
set_option maxRecDepth 100000
set_option maxHeartbeats 4000000
namespace M
open PySem PySem.Spec L2 Sv
end M
set_option Elab.async false
set_option linter.all false
set_option maxRecDepth 100000
set_option maxHeartbeats 4000000
namespace M
open PySem PySem.Spec PySem.W L2 Sv
structure Pl (n : Nat) (d : D) : Prop where
  p : d.plain = true
  d : d.depth ≤ n
theorem Pl.str {n : Nat} {z : Str} : Pl n (.str z) := ⟨rfl, Nat.zero_le _⟩
theorem Pl.int {n : Nat} {z : Int} : Pl n (.int z) := ⟨rfl, Nat.zero_le _⟩
theorem Pl.bool {n : Nat} {z : Bool} : Pl n (.bool z) := ⟨rfl, Nat.zero_le _⟩
theorem Pl.none {n : Nat} : Pl n .none := ⟨rfl, Nat.zero_le _⟩
theorem pl_all {n : Nat} : ∀ {ds : List D}, (∀ d ∈ ds, Pl n d) → PyData.plainAll ds = true ∧ PyData.depthAll ds ≤ n
  | [], _ => ⟨rfl, Nat.zero_le _⟩
  | d :: ds, h => by
    obtain ⟨a, b⟩ := pl_all (ds := ds) fun z m => h z (List.mem_cons_of_mem _ m)
    have g := h d List.mem_cons_self
    exact ⟨by rw [PyData.plainAll, g.p, a]; rfl, by rw [PyData.depthAll]; exact Nat.max_le.mpr ⟨g.d, b⟩⟩
theorem Pl.list {n : Nat} {ds : List D} (h : ∀ d ∈ ds, Pl n d) : Pl (n + 1) (.list ds) := ⟨by rw [PyData.plain]; exact (pl_all h).1, Nat.succ_le_succ (pl_all h).2⟩
theorem Pl.tup {n : Nat} {ds : List D} (h : ∀ d ∈ ds, Pl n d) : Pl (n + 1) (.tuple ds) := ⟨by rw [PyData.plain]; exact (pl_all h).1, Nat.succ_le_succ (pl_all h).2⟩
theorem Pl.eq {n : Nat} {d : D} (h : Pl n d) (hn : n ≤ 40) : eqD d d = some (.d (.bool true)) := by
  unfold eqD
  rw [show okD d = true from decide_eq_true (Nat.le_trans h.d hn), Bool.true_or, if_pos rfl, PySem.SeqAt.eqv_refl_plain d h.p]
theorem Pl.ne {n : Nat} {d : D} (h : Pl n d) (hn : n ≤ 40) : neD d d = some (.d (.bool false)) := by
  unfold neD
  rw [show okD d = true from decide_eq_true (Nat.le_trans h.d hn), Bool.true_or, if_pos rfl, PySem.SeqAt.eqv_refl_plain d h.p]
  rfl
theorem law_end {N : Nat} {b : S → Out} {ns : List Int} (h : ∃ s1, b (some (.s ns) :: List.replicate (N - 1) none) = .rt (.d (.bool true)) s1) : ∃ s', fin N b [some (.s ns)] = .ok (.d (.bool true)) s' := by
  obtain ⟨s1, e⟩ := h
  refine ⟨outs [some (.s ns)] s1, ?_⟩
  show fin1 [some (.s ns)] (b (some (.s ns) :: List.replicate (N - 1) none)) = _
  rw [e]
  rfl
end M
set_option Elab.async false
set_option linter.all false
set_option maxRecDepth 100000
set_option maxHeartbeats 4000000
namespace M
open PySem PySem.Spec L2 Sv
end M
set_option Elab.async false
set_option linter.all false
set_option maxRecDepth 100000
set_option maxHeartbeats 4000000
namespace M
open PySem PySem.Spec L2 Sv
structure Row where
  l : Str
  es : List (Str × Int)
structure Mch where
  k : Int
  f : Str
  rows : List Row
def entD (e : Str × Int) : D := .tuple [.str e.1, .int e.2]
def rowD (r : Row) : D := .tuple [.str r.l, .tuple (r.es.map entD)]
abbrev rowsD (rs : List Row) : D := .tuple (rs.map rowD)
def Mch.data (m : Mch) : D := .tuple [.int m.k, .str m.f, rowsD m.rows]
def isEnt (k n : Int) (e : Str × Int) : Bool := isWord k e.1 && (decide (0 ≤ e.2) && decide (e.2 < n))
def isRow (k n : Int) (r : Row) : Bool := isWord k r.l && (decide (((r.es.length : Nat) : Int) = k) && r.es.all (isEnt k n))
def hasForm (m : Mch) (most : Int) : Bool := numOk m.k && (isWord m.k m.f && ((decide (1 ≤ ((m.rows.length : Nat) : Int)) && decide (((m.rows.length : Nat) : Int) ≤ most)) && m.rows.all (isRow m.k ((m.rows.length : Nat) : Int))))
def Row.nil : Row := ⟨"", []⟩
def nextE (rows : List Row) (s : Int) (c : Nat) : Str × Int := (rows.getD s.toNat Row.nil).es.getD (c - 97) ("", 0)
def runs (rows : List Row) : Int → List Nat → List Str × Int
  | s, [] => ([], s)
  | s, c :: w => ((nextE rows s c).1 :: (runs rows (nextE rows s c).2 w).1, (runs rows (nextE rows s c).2 w).2)
section
variable {k : Int} {rows : List Row}
end
def Mch.out (m : Mch) (w : Str) : Str := m.f ++ jn (runs m.rows 0 w.cps.toList).1
def Mch.at (m : Mch) (w : Str) : Int := (runs m.rows 0 w.cps.toList).2
def Mch.form (m : Mch) (w : Str) : Str := m.out w ++ (m.rows.getD (m.at w).toNat Row.nil).l
end M
set_option Elab.async false
set_option linter.all false
set_option maxRecDepth 100000
set_option maxHeartbeats 4000000
namespace M
open PySem PySem.Spec L2 Sv
section
variable {m : Mch} {w : Str}
end
theorem word_of {k n : Int} (a : 2 ≤ k) (b : k ≤ 6) {w : Str} (h : WordIn k n w) (hn : n ≤ 60) : isWord k w = true := isWord_in a b (by have := h.1; omega) h.2
end M
set_option Elab.async false
set_option linter.all false
set_option maxRecDepth 100000
set_option maxHeartbeats 4000000
namespace M
open PySem PySem.Spec L2 Sv
structure EntOk (k n : Int) (e : Str × Int) : Prop where
  o : WordIn k 2 e.1
  a0 : 0 ≤ e.2
  a1 : e.2 < n
structure RowOk (k n : Int) (r : Row) : Prop where
  l : WordIn k 2 r.l
  ln : ((r.es.length : Nat) : Int) = k
  es : ∀ e ∈ r.es, EntOk k n e
structure MchOk (most : Int) (m : Mch) : Prop where
  k2 : 2 ≤ m.k
  k6 : m.k ≤ 6
  f : WordIn m.k 1 m.f
  n1 : 1 ≤ m.rows.length
  n : ((m.rows.length : Nat) : Int) ≤ most
  rows : ∀ r ∈ m.rows, RowOk m.k ((m.rows.length : Nat) : Int) r
theorem MchOk.form {most a : Int} {m : Mch} (h : MchOk most m) (ha : most ≤ a) : hasForm m a = true := by
  unfold hasForm
  have nk := numOk_of h.k2 h.k6
  have wf := word_of h.k2 h.k6 h.f (by decide)
  have h1 : decide (1 ≤ ((m.rows.length : Nat) : Int)) = true := decide_eq_true (by have := h.n1; omega)
  have h2 : decide (((m.rows.length : Nat) : Int) ≤ a) = true := decide_eq_true (by have := h.n; omega)
  have h3 : m.rows.all (isRow m.k ((m.rows.length : Nat) : Int)) = true := List.all_eq_true.mpr fun r mr => by
    have ro := h.rows r mr
    unfold isRow
    rw [word_of h.k2 h.k6 ro.l (by decide), decide_eq_true ro.ln, Bool.true_and, Bool.true_and, List.all_eq_true]
    intro e me
    have eo := ro.es e me
    unfold isEnt
    rw [word_of h.k2 h.k6 eo.o (by decide), decide_eq_true eo.a0, decide_eq_true eo.a1]
    rfl
  rw [nk, wf, h1, h2, h3]
  rfl
end M
set_option Elab.async false
set_option linter.all false
set_option maxRecDepth 100000
set_option maxHeartbeats 4000000
namespace M
open PySem PySem.Spec L2 Sv
theorem app_len (a b : Str) : (a ++ b).length = a.length + b.length := by
  conv => lhs; rw [tx_of a, tx_of b, tx_app, tx_len, List.length_append]
  rw [Array.length_toList, Array.length_toList]
  rfl
end M
set_option Elab.async false
set_option linter.all false
set_option maxRecDepth 100000
set_option maxHeartbeats 4000000
namespace M
open PySem PySem.Spec L2 Sv
section
variable {α : Type} {i : α → D} {g : Tg} {e : S → ER Vl} {vs : List Nat}
end
end M
set_option Elab.async false
set_option linter.all false
set_option maxRecDepth 100000
set_option maxHeartbeats 4000000
namespace M
open PySem PySem.Spec L2 Sv
section
variable {f g : S → Out} {F : S → ER Vl} {cm : Str → Option Bool} {oi : Option Nat} {i : Nat} {s s1 s2 s' : S} {v : Vl} {e : Exn} {k x : D}
theorem try_rt (h : f s = .rt v s1) : tryS cm oi f g s = .rt v s1 := by
  unfold tryS
  rw [h]
  rfl
end
theorem reprF_ok {d : D} (h : ShowOk d) : reprF [d] = some (.d (.str d.shown)) := by
  unfold reprF
  exact if_pos h
section
variable {α : Type} (f : α → D) (xs : List α) (j : Nat)
end
section
variable {f g : S → Out} {cm : Str → Option Bool} {s s1 s2 : S} {e : Exn} {k : D}
end
end M
set_option Elab.async false
set_option linter.all false
set_option maxRecDepth 100000
set_option maxHeartbeats 4000000
namespace M
open PySem PySem.Spec L2 Sv
end M
set_option Elab.async false
set_option linter.all false
set_option maxRecDepth 100000
set_option maxHeartbeats 4000000
namespace M
open PySem PySem.Spec L2 Sv
theorem app_mem {a b : Str} {c : Nat} (h : c ∈ (a ++ b).cps.toList) : c ∈ a.cps.toList ∨ c ∈ b.cps.toList := by
  rw [tx_of a, tx_of b, tx_app, tx_list] at h
  exact List.mem_append.mp h
end M
set_option Elab.async false
set_option linter.all false
set_option maxRecDepth 100000
set_option maxHeartbeats 4000000
namespace M
open PySem PySem.Spec PyProof.Rows L2 Sv
variable [Wd]
section
variable {X : Cx} {K : PySem.W.Frag} {xi : XI} {W : WX} {G H G' H' G1 H1 : Hp} {σ σ' σ1 : Ss} {s s' s1 : S} {e : Expr} {fa : S → ER Vl} {pos p q1 : Pos} {T : String} {n : Str}
end
end M
set_option Elab.async false
set_option linter.all false
set_option maxRecDepth 100000
set_option maxHeartbeats 4000000
namespace M
open PySem PySem.Spec PyProof.Rows L2 Sv
variable [Wd]
section
variable {X : Cx} {K : PySem.W.Frag} {xi : XI} {W : WX} {G H G' H' G1 H1 : Hp} {σ σ' σ1 : Ss} {s s' s1 : S} {a b : Expr} {fa fb : S → ER Vl} {pos p q pos2 : Pos}
end
end M
set_option Elab.async false
set_option linter.all false
set_option maxRecDepth 100000
set_option maxHeartbeats 4000000
namespace M
open PySem PySem.Spec L2 Sv
end M
set_option Elab.async false
set_option linter.all false
set_option maxRecDepth 100000
set_option maxHeartbeats 4000000
namespace M
open PySem PySem.Spec L2 Sv
def cmn : List Nat → List Nat → Nat
  | x :: xs, y :: ys => if x = y then cmn xs ys + 1 else 0
  | _, _ => 0
end M
set_option Elab.async false
set_option linter.all false
set_option maxRecDepth 100000
set_option maxHeartbeats 4000000
namespace M
open PySem PySem.Spec L2 Sv
structure EntB (k n L : Int) (e : Str × Int) : Prop where
  o : WordIn k L e.1
  a0 : 0 ≤ e.2
  a1 : e.2 < n
structure RowB (k n L : Int) (r : Row) : Prop where
  l : WordIn k L r.l
  ln : ((r.es.length : Nat) : Int) = k
  es : ∀ e ∈ r.es, EntB k n L e
structure MchB (N : Nat) (L : Int) (m : Mch) : Prop where
  k2 : 2 ≤ m.k
  k6 : m.k ≤ 6
  f : WordIn m.k L m.f
  n1 : 1 ≤ m.rows.length
  n : m.rows.length ≤ N
  rows : ∀ r ∈ m.rows, RowB m.k ((m.rows.length : Nat) : Int) L r
theorem WordIn.mono {k a b : Int} {w : Str} (h : WordIn k a w) (ab : a ≤ b) : WordIn k b w := ⟨by have := h.1; omega, h.2⟩
theorem MchB.mono {N M : Nat} {a b : Int} {m : Mch} (h : MchB N a m) (nm : N ≤ M) (ab : a ≤ b) : MchB M b m :=
  ⟨h.k2, h.k6, h.f.mono ab, h.n1, Nat.le_trans h.n nm, fun r mr => ⟨(h.rows r mr).l.mono ab, (h.rows r mr).ln, fun e me => ⟨((h.rows r mr).es e me).o.mono ab, ((h.rows r mr).es e me).a0, ((h.rows r mr).es e me).a1⟩⟩⟩
theorem MchOk.b {most : Int} {m : Mch} (h : MchOk most m) : MchB most.toNat 2 m :=
  ⟨h.k2, h.k6, h.f.mono (by decide), h.n1, by have := h.n; omega, fun r mr => ⟨(h.rows r mr).l, (h.rows r mr).ln, fun e me => ⟨((h.rows r mr).es e me).o, ((h.rows r mr).es e me).a0, ((h.rows r mr).es e me).a1⟩⟩⟩
theorem MchB.form {N : Nat} {L a : Int} {m : Mch} (h : MchB N L m) (hN : (N : Int) ≤ a) (hL : L ≤ 60) : hasForm m a = true := by
  unfold hasForm
  have nk := numOk_of h.k2 h.k6
  have wf := word_of h.k2 h.k6 h.f hL
  have h1 : decide (1 ≤ ((m.rows.length : Nat) : Int)) = true := decide_eq_true (by have := h.n1; omega)
  have h2 : decide (((m.rows.length : Nat) : Int) ≤ a) = true := decide_eq_true (by have := h.n; omega)
  have h3 : m.rows.all (isRow m.k ((m.rows.length : Nat) : Int)) = true := List.all_eq_true.mpr fun r mr => by
    have ro := h.rows r mr
    unfold isRow
    rw [word_of h.k2 h.k6 ro.l hL, decide_eq_true ro.ln, Bool.true_and, Bool.true_and, List.all_eq_true]
    intro e me
    have eo := ro.es e me
    unfold isEnt
    rw [word_of h.k2 h.k6 eo.o hL, decide_eq_true eo.a0, decide_eq_true eo.a1]
    rfl
  rw [nk, wf, h1, h2, h3]
  rfl
theorem WordIn.app {k a b : Int} {v w : Str} (h : WordIn k a v) (g : WordIn k b w) : WordIn k (a + b) (v ++ w) :=
  ⟨by rw [app_len]; have := h.1; have := g.1; omega, fun c m => (app_mem m).elim (h.2 c) (g.2 c)⟩
end M
set_option Elab.async false
set_option linter.all false
set_option maxRecDepth 100000
set_option maxHeartbeats 4000000
namespace M
open PySem PySem.Spec L2 Sv
theorem cutS_mem {z : Str} {lo hi : Option Int} {c : Nat} (h : c ∈ (cutS z lo hi).cps.toList) : c ∈ z.cps.toList := by
  unfold cutS at h
  exact List.mem_of_mem_drop (List.mem_of_mem_take h)
theorem WordIn.cut {k L : Int} {z : Str} (h : WordIn k L z) (lo hi : Option Int) : WordIn k L (cutS z lo hi) :=
  ⟨by have := cutS_length z lo hi; have := h.1; omega, fun c m => h.2 c (cutS_mem m)⟩
end M
set_option Elab.async false
set_option linter.all false
set_option maxRecDepth 100000
set_option maxHeartbeats 4000000
namespace M
open PySem PySem.Spec L2 Sv
theorem list_app (a b : Str) : (a ++ b).cps.toList = a.cps.toList ++ b.cps.toList := by
  conv => lhs; rw [tx_of a, tx_of b, tx_app, tx_list]
end M
set_option Elab.async false
set_option linter.all false
set_option maxRecDepth 100000
set_option maxHeartbeats 4000000
namespace M
open PySem PySem.Spec PyProof.Rows L2 Sv
variable [Wd]
section
variable {X : Cx} {K : PySem.W.Frag} {xi : XI} {W : WX} {G H G' H' G1 H1 G0 H0 : Hp} {σ σ' σ1 σ0 : Ss} {s s' s1 s0 : S}
theorem VRs.data {H0 : Hp} {σ0 : Ss} {s0 : S} : ∀ {dvs : List V} {ds : List D}, RpAll K G dvs ds → VRs K xi H0 σ0 s0 G H σ s dvs (ds.map .d)
  | _, _, .nil => .nil
  | _, _, .cons a r => .cons a (VRs.data r)
theorem VRs.more {H0 : Hp} {σ0 : Ss} {s0 : S} : ∀ {vs ws : List V} {vls wls : List Vl}, VRs K xi H0 σ0 s0 G H σ s vs vls → VRs K xi H0 σ0 s0 G H σ s ws wls → VRs K xi H0 σ0 s0 G H σ s (vs ++ ws) (vls ++ wls)
  | _, _, _, _, .nil, h => h
  | _, _, _, _, .cons a r, h => .cons a (VRs.more r h)
theorem data_at {ds : List D} {vls : List Vl} {n : Nat} {i : Nat} {f : Bool} {b : Ob} (h : (vls ++ ds.map Vl.d)[i]? = some (.o f b)) : i < vls.length ∧ vls[i]? = some (.o f b) := by
  by_cases q : i < vls.length
  · rw [List.getElem?_append_left q] at h
    exact ⟨q, h⟩
  · rw [List.getElem?_append_right (by omega), List.getElem?_map] at h
    cases e : ds[i - vls.length]? with
    | none => rw [e] at h; cases h
    | some d => rw [e] at h; cases h
theorem rAs.more {H0 : Hp} {σ0 : Ss} {s0 : S} {vs dvs : List V} {vls : List Vl} {ds : List D} (h : rAs K xi H0 σ0 s0 G H σ s vs vls) (r : RpAll K G dvs ds) : rAs K xi H0 σ0 s0 G H σ s (vs ++ dvs) (vls ++ ds.map .d) := by
  have l : vs.length = vls.length := h.all.len
  refine ⟨VRs.more h.all (VRs.data r), fun i j f g b c p h1 h2 h3 h4 => ?_⟩
  obtain ⟨i1, e1⟩ := data_at (n := 0) h1
  obtain ⟨j1, e2⟩ := data_at (n := 0) h2
  rw [List.getElem?_append_left (by omega)] at h3 h4
  exact h.ap i j f g b c p e1 e2 h3 h4
variable {CX : CXT} {k n : Nat} {f : Addr} {fd : FuncData} {ps ks : List Str} {sp : Sp} {E : L2.St → XK} {x : Str} {p pos : Pos} {e : Expr} {es : List Expr} {kws : List Keyword} {t tk : TA} {g : List Value → List Value → List Value} {gV : List V → List V → List V}
theorem PK.mono {t t' : TA} (h : PK X kws t) (k : ∀ σ H Q, t' σ H Q → t σ H Q) : PK X kws t' := ⟨fun pos pins s σ H Q I w => h.run pos pins s σ H Q I (k σ H Q w)⟩
end
end M
namespace M
open PySem PySem.Spec PyProof.Rows L2 Sv
variable [Wd]
section
variable {P : Program} {w : World} {K : PySem.W.Frag} {mg : Str → Option Value} {base : Heap}
end
end M
set_option Elab.async false
set_option linter.all false
set_option maxRecDepth 100000
set_option maxHeartbeats 4000000
namespace M
open PySem PySem.Spec PyProof.Rows L2 Sv
variable [Wd]
section
variable {X : Cx} {K : PySem.W.Frag} {xi : XI} {W : WX} {G H G' H' G1 H1 : Hp} {σ σ' σ1 : Ss} {s s' s1 : S} {a b : Expr} {fa fb : S → ER Vl} {pos p q pos2 : Pos}
end
end M
set_option Elab.async false
set_option linter.all false
set_option maxRecDepth 100000
set_option maxHeartbeats 4000000
namespace M
open PySem PySem.Spec PyProof.Rows L2 Sv
variable [Wd]
section
variable {K : PySem.W.Frag}
end
end M
set_option Elab.async false
set_option linter.all false
set_option maxRecDepth 100000
set_option maxHeartbeats 4000000
namespace M
open PySem PySem.Spec PyProof.Rows L2 Sv
variable [Wd]
section
variable {X : Cx} {K : PySem.W.Frag} {xi : XI} {W : WX} {a b : Expr} {fa : S → ER Vl} {fr : S → ER (List Vl)} {pos p pos2 : Pos}
end
end M
set_option Elab.async false
set_option linter.all false
set_option maxRecDepth 100000
set_option maxHeartbeats 4000000
namespace M
open PySem PySem.Spec PyProof.Rows L2 Sv
variable [Wd]
section
variable {X : Cx} {K : PySem.W.Frag} {xi : XI} {W : WX} {G H G' H' G1 H1 : Hp} {σ σ' σ1 : Ss} {s s' s1 : S} {a b ev : Expr} {es : List Expr} {fa fv : S → ER Vl} {fr : S → ER (List Vl)} {pos p pos2 tpos : Pos} {i : Nat}
section
variable {x1 : Nat} (hu : X.A.units + 64 < cLine) (hx : PE X b (tVar i)) (ha : PA X es (tA K xi W fr))
include hu hx ha
end
end
end M
set_option Elab.async false
set_option linter.all false
set_option maxRecDepth 100000
set_option maxHeartbeats 4000000
namespace M
open PySem PySem.Spec PyProof.Rows L2 Sv
variable [Wd]
section
variable {X : Cx} {K : PySem.W.Frag} {xi : XI} {W : WX} {G H G' H' G1 H1 : Hp} {σ σ' σ1 : Ss} {s s' s1 : S} {k v a b ev : Expr} {es : List Expr} {tk tv : TE} {fa fv : S → ER Vl} {fr : S → ER (List Vl)} {pos p pos2 tpos : Pos} {i : Nat}
end
end M
set_option Elab.async false
set_option linter.all false
set_option maxRecDepth 100000
set_option maxHeartbeats 4000000
namespace K
open PySem PySem.Spec L2 Sv M
end K
set_option Elab.async false
set_option linter.all false
set_option maxRecDepth 100000
set_option maxHeartbeats 4000000
namespace M
open PySem PySem.Spec PyProof.Rows L2 Sv
variable [Wd]
section
variable {P : Program} {w : World} {K : PySem.W.Frag} {mg : Str → Option Value} {base : Heap}
end
section
variable {X : Cx} {K : PySem.W.Frag} {xi : XI} {W : WX} {e : Expr} {es : List Expr} {fa : S → ER (List Vl)} {pos p pos2 : Pos} {k : Nat} {x f : Str}
end
end M
set_option Elab.async false
set_option linter.all false
set_option maxRecDepth 100000
set_option maxHeartbeats 4000000
namespace M
open PySem PySem.Spec PyProof.Rows L2 Sv
variable [Wd]
def lc2I (g1 : Tg) (fe : S → ER Vl) (vs1 : List Nat) : List D → List D → S → ER (List D)
  | [], acc, s => .ok acc s
  | d :: ds, acc, s => if vs1.all (plainAt s) = true then (match g1 d (wipeS s vs1) with
    | none => .no
    | some s1 => match fe s1 with
      | .ok (.d x) s2 => if acc.length < 16777216 then lc2I g1 fe vs1 ds (acc ++ [x]) s2 else .no
      | _ => .no) else .no
def lc2L (g : Tg) (fi1 : S → ER (List D)) (g1 : Tg) (fe : S → ER Vl) (vs1 vs : List Nat) : List D → List D → S → ER Vl
  | [], acc, s => .ok (.o true (.L acc)) s
  | d :: ds, acc, s => match g d (wipeS s vs) with
    | none => .no
    | some s1 => match fi1 s1 with
      | .ok items s2 => (match lc2I g1 fe vs1 items acc s2 with
        | .ok acc2 s3 => lc2L g fi1 g1 fe vs1 vs ds acc2 (restS s s3 vs)
        | _ => .no)
      | _ => .no
def lc2E (it : S → ER (List D)) (g : Tg) (fi1 : S → ER (List D)) (g1 : Tg) (fe : S → ER Vl) (vs1 vs : List Nat) : S → ER Vl := fun s => (it s).bind fun ds s1 => if vs.all (plainAt s1) = true then lc2L g fi1 g1 fe vs1 vs ds [] s1 else .no
section
variable {X : Cx} {K : PySem.W.Frag} {xi : XI} {W : WX} {G H G' H' G1 H1 G0 H0 G2 H2 : Hp} {σ σ' σ1 σ0 σ2 : Ss} {s s' s1 s0 s2 s3 : S} {tg iter tg1 iter1 elt : Expr} {fe : S → ER Vl} {fi fi1 : S → ER (List PyData)} {g g1 : Tg} {pos : Pos} {sl sl1 vs vs1 : List Nat}
def msk (H : Hp) (A : Addr) : Hp := fun b => if b = A then none else H b
theorem msk_ne {A b : Addr} (h : b ≠ A) : msk H A b = H b := if_neg h
theorem msk_at {A : Addr} : msk H A A = none := if_pos rfl
theorem msk_some {A b : Addr} {o : HO} (h : msk H A b = some o) : b ≠ A ∧ H b = some o := by
  by_cases e : b = A
  · rw [e, msk_at] at h; cases h
  · rw [msk_ne e] at h; exact ⟨e, h⟩
theorem stp_msk0 {A : Addr} : Stp G (msk H A) σ s G H σ s :=
  ⟨fun _ _ h => h, fun b o h _ => (msk_some h).2, fun b h => by
    cases q : msk H A b with
    | none => exact absurd q h
    | some o => exact ne_none (msk_some q).2, fun _ h _ n => absurd h n, fun _ _ h => .inr h, fun _ b h => ⟨rfl, b, h⟩⟩
theorem stp_msk {A : Addr} (t : Stp G0 H0 σ0 s0 G H σ s) (h : H0 A = none) : Stp G0 H0 σ0 s0 G (msk H A) σ s := by
  refine ⟨t.gg, fun b o q n => ?_, fun b q => ?_, t.gn, t.ow, t.io⟩
  · rw [msk_ne (fun e => by rw [e, h] at q; cases q)]
    exact t.fr b o q n
  · rw [msk_ne (fun e => by rw [e, h] at q; exact q rfl)]
    exact t.lv b q
theorem rep_msk {A : Addr} {us : List V} (R : Rep K xi G H σ s) (h : H A = some (.lst us)) (g : G A = none) (n : ∀ f, ¬ Own σ s f A) : Rep K xi G (msk H A) σ s := by
  refine ⟨R.len, fun b o q => ?_, fun j u q => ?_, R.ap⟩
  · rw [msk_ne (fun e => by rw [e, g] at q; cases q)]
    exact R.gh b o q
  obtain ⟨v, e, w⟩ := R.sl j u q
  refine ⟨v, e, ?_⟩
  cases u with
  | d x => exact w
  | o f b =>
    obtain ⟨p, rfl, w1, w2⟩ := w
    exact ⟨p, rfl, w1, w2.mono (Same.refl _) (msk_ne fun e2 => n f ⟨j, b, q, by rw [e, e2]⟩)⟩
  | r k => exact w
  | x y =>
    obtain ⟨a, cls, d, z1, z2, z3, z4⟩ := w
    refine ⟨a, cls, d, z1, z2, z3, fun nm n e => ?_⟩
    obtain ⟨dd, q1, q2⟩ := z4 nm n e
    refine ⟨dd, q1, ?_⟩
    rw [msk_ne (fun e2 => by rw [e2, h] at q2; cases q2)]
    exact q2
  | s ns => exact w
  | z zp => exact w
theorem stp_wipe (h : vs.all (plainAt s) = true) : Stp G H σ s G H (wipe σ vs) (wipeS s vs) := by
  refine ⟨fun _ _ h => h, fun _ _ h _ => h, fun _ h => h, fun _ h _ n => absurd h n, fun f p w => .inr ((own_wipe h).mpr w), fun i b e => ?_⟩
  have m : i ∉ vs := fun m => plain_no h m e
  exact ⟨wipe_off m, b, by rw [wipeS_off m]; exact e⟩
theorem lc2_lift {Q : VK} (hsl : ∀ j ∈ sl, j ∈ vs) (hsl1 : ∀ j ∈ sl1, j ∈ vs1) (hv : ∀ j ∈ vs1, j ∈ vs) (h : tE K xi W (lc2E fi g fi1 g1 fe vs1 vs) σ H Q) :
    tLc2 (tI K xi W fi) (tG K xi sl g) (tT K xi (fun _ _ _ _ => False) yesT) (tI K xi (fun _ _ _ _ => False) fi1) (tG K xi sl1 g1) (tT K xi (fun _ _ _ _ => False) yesT) (tE K xi (fun _ _ _ _ => False) fe) vs vs1 σ H Q := by
  obtain ⟨G, s, R, h⟩ := h
  refine ⟨G, s, R, Po.bindU .refl h fun items s1 _ J G1 H1 t1 R1 okI h1 => ?_⟩
  have okI : IterOk K G1 J items := okI
  split at h1
  · rename_i pl
    intro A hA
    have gA : G1 A = none := R1.free hA
    have h0A : H A = none := by
      cases q : H A with
      | none => rfl
      | some o => exact absurd hA (t1.lv A (ne_none q))
    refine ⟨fun i m H2 => m = items.length - i ∧ i ≤ items.length ∧ ∃ G2 s2 us acc, Same G1 G2 ∧ Stp G H σ s G2 H2 σ s2 ∧ Rep K xi G2 H2 σ s2 ∧ H2 A = some (.lst us) ∧ RpAll K G2 us acc ∧ G2 A = none ∧ (∀ f, ¬ Own σ s2 f A) ∧ vs.all (plainAt s2) = true ∧ Po K xi W (VR K xi) G H σ s (lc2L g fi1 g1 fe vs1 vs (items.drop i) acc s2) Q,
      ⟨_, rfl, Nat.zero_le _, G1, s1, [], [], Same.refl _, stp_hid t1 h0A, ?_, upd_same, .nil, gA, fun f w => R1.noOwn hA f w, pl, h1⟩, ?_⟩
    · exact rep_new R1 hA (.inl rfl)
    rintro i m H2 ⟨rfl, hi, G2, s2, us, acc, g2, t2, R2, hus, hacc, g2A, nown, pl2, h2⟩
    obtain ⟨goes, stops⟩ := okI i G2 H2 g2 R2.gh
    by_cases hlt : i < items.length
    · right
      obtain ⟨go, yl⟩ := goes items[i] (by simp [hlt])
      refine ⟨go, fun H' => ∃ m', m' < items.length - i ∧ (m' = items.length - (i + 1) ∧ i + 1 ≤ items.length ∧ ∃ G2 s2 us acc, Same G1 G2 ∧ Stp G H σ s G2 H' σ s2 ∧ Rep K xi G2 H' σ s2 ∧ H' A = some (.lst us) ∧ RpAll K G2 us acc ∧ G2 A = none ∧ (∀ f, ¬ Own σ s2 f A) ∧ vs.all (plainAt s2) = true ∧ Po K xi W (VR K xi) G H σ s (lc2L g fi1 g1 fe vs1 vs (items.drop (i + 1)) acc s2) Q), fun H' h => h, fun v H3 y => ?_⟩
      obtain ⟨G3, g3, gh3, h3, c3, rv⟩ := yl v H3 y
      have t3 := t2.trans (stp_turn (σ := σ) (s := s2) g3 h3 c3)
      have R3 := rep_turn R2 g3 gh3 h3 c3
      have h3A : H3 A = some (.lst us) := h3 _ _ hus
      have g3A : G3 A = none := c3 A g2A (ne_none hus)
      rw [List.drop_eq_getElem_cons hlt] at h2
      unfold lc2L at h2
      split at h2
      · exact h2.elim
      · rename_i s4 q4
        have Rw := rep_wipe (vs := vs) R3
        refine ⟨G3, H3, wipe σ vs, wipeS s2 vs, G3, wipeS s2 vs, items[i], s4, .refl, Rw, rv, q4, fun σ4 off4 t4 R4 => ⟨?_, G3, s4, R4, fun k G5 H5 t5 R5 eb => ?_⟩⟩
        · have := wipe_same (vs := vs) (off4.1) fun j m => off4.2 j fun z => m (hsl j z)
          rw [this]
          exact wipe_same (wipe_length _ _) fun j m => wipe_off m
        have eb : k = true := eb
        subst eb
        show (if true = true then _ else _)
        rw [if_pos rfl]
        have offv4 : ∀ j, j ∉ vs → σ4[j]? = (wipe σ vs)[j]? := fun j m => off4.2 j fun z => m (hsl j z)
        have len4 : σ4.length = σ.length := off4.1.trans (wipe_length _ _)
        have R3m := rep_msk R3 h3A g3A nown
        have t3m := stp_msk (A := A) t3 h0A
        refine ⟨G5, s4, R5, ?_⟩
        cases qi : fi1 s4 with
        | no => rw [qi] at h2; exact h2.elim
        | er e s5 => rw [qi] at h2; exact h2.elim
        | ok items1 s6 =>
        rw [qi] at h2
        intro J1 G6 H6 t6 R6 okI1
        have okI1 : IterOk K G6 J1 items1 := okI1
        have t46 := (t4.trans t5).trans t6
        have nw3 : ∀ f, ¬ Own (wipe σ vs) (wipeS s2 vs) f A := fun f w => nown f ((own_wipe pl2).mpr w)
        have h6A : H6 A = some (.lst us) := t46.fr A _ h3A nw3
        have g6A : G6 A = none := by
          cases q : G6 A with
          | none => rfl
          | some o => exact absurd (t46.gn A g3A (ne_none h3A) (ne_none q)) (nw3 true)
        have n6A : ∀ f, ¬ Own σ4 s6 f A := fun f w => by
          rcases t46.ow f A w with ⟨z, _⟩ | z
          · rw [h3A] at z; cases z
          · exact nw3 f z
        refine ⟨fun j kk H7 => kk = items1.length - j ∧ j ≤ items1.length ∧ ∃ G7 σ7 s7 us acc, Same G6 G7 ∧ Same G3 G7 ∧ Stp G3 (msk H3 A) (wipe σ vs) (wipeS s2 vs) G7 H7 σ7 s7 ∧ Rep K xi G7 H7 σ7 s7 ∧ (∀ j, j ∉ vs → σ7[j]? = (wipe σ vs)[j]?) ∧ σ7.length = σ.length ∧ wipe σ7 vs1 = wipe σ4 vs1 ∧
          H7 A = some (.lst us) ∧ RpAll K G7 us acc ∧ G7 A = none ∧ (∀ f, ¬ Own σ7 s7 f A) ∧ Po K xi W (VR K xi) G H σ s (match lc2I g1 fe vs1 (items1.drop j) acc s7 with
            | .ok acc2 s3 => lc2L g fi1 g1 fe vs1 vs (items.drop (i + 1)) acc2 (restS s2 s3 vs)
            | _ => .no) Q,
          ⟨_, rfl, Nat.zero_le _, G6, σ4, s6, us, acc, Same.refl _, t46.gg, stp_msk0.trans t46, R6, offv4, len4, rfl, h6A, RpAll.same (g3.trans t46.gg) hacc, g6A, n6A, h2⟩, ?_⟩
        rintro j kk H7 ⟨rfl, hj, G7, σ7, s7, us7, acc7, g67, g37, T7, R7, off7, len7, w7, h7A, hacc7, g7A, n7A, h7⟩
        obtain ⟨goes1, stops1⟩ := okI1 j G7 H7 g67 R7.gh
        by_cases hlt1 : j < items1.length
        · right
          obtain ⟨go1, yl1⟩ := goes1 items1[j] (by simp [hlt1])
          refine ⟨go1, fun H' => ∃ k', k' < items1.length - j ∧ (k' = items1.length - (j + 1) ∧ j + 1 ≤ items1.length ∧ ∃ G7 σ7 s7 us acc, Same G6 G7 ∧ Same G3 G7 ∧ Stp G3 (msk H3 A) (wipe σ vs) (wipeS s2 vs) G7 H' σ7 s7 ∧ Rep K xi G7 H' σ7 s7 ∧ (∀ j, j ∉ vs → σ7[j]? = (wipe σ vs)[j]?) ∧ σ7.length = σ.length ∧ wipe σ7 vs1 = wipe σ4 vs1 ∧
            H' A = some (.lst us) ∧ RpAll K G7 us acc ∧ G7 A = none ∧ (∀ f, ¬ Own σ7 s7 f A) ∧ Po K xi W (VR K xi) G H σ s (match lc2I g1 fe vs1 (items1.drop (j + 1)) acc s7 with
              | .ok acc2 s3 => lc2L g fi1 g1 fe vs1 vs (items.drop (i + 1)) acc2 (restS s2 s3 vs)
              | _ => .no) Q), fun H' h => h, fun v1 H8 y1 => ?_⟩
          obtain ⟨G8, g8, gh8, h8, c8, rv1⟩ := yl1 v1 H8 y1
          have t8 := stp_turn (σ := σ7) (s := s7) g8 h8 c8
          have R8 := rep_turn R7 g8 gh8 h8 c8
          have h8A : H8 A = some (.lst us7) := h8 _ _ h7A
          have g8A : G8 A = none := c8 A g7A (ne_none h7A)
          rw [List.drop_eq_getElem_cons hlt1] at h7
          unfold lc2I at h7
          by_cases pl1 : vs1.all (plainAt s7) = true
          · rw [if_pos pl1] at h7
            cases q9 : g1 items1[j] (wipeS s7 vs1) with
            | none => rw [q9] at h7; exact h7.elim
            | some s9 =>
            rw [q9] at h7
            have h7 : Po K xi W (VR K xi) G H σ s (match (match fe s9 with
                | .ok (.d x) s2 => if acc7.length < 16777216 then lc2I g1 fe vs1 (items1.drop (j + 1)) (acc7 ++ [x]) s2 else .no
                | _ => .no) with
              | .ok acc2 s3 => lc2L g fi1 g1 fe vs1 vs (items.drop (i + 1)) acc2 (restS s2 s3 vs)
              | _ => .no) Q := h7
            have Rw8 := rep_wipe (vs := vs1) R8
            rw [← w7]
            refine ⟨G8, H8, wipe σ7 vs1, wipeS s7 vs1, G8, wipeS s7 vs1, items1[j], s9, .refl, Rw8, rv1, q9, fun σ9 off9 t9 R9 => ⟨?_, G8, s9, R9, fun k2 Ga Ha ta Ra eb2 => ?_⟩⟩
            · have := wipe_same (vs := vs1) (off9.1) fun j m => off9.2 j fun z => m (hsl1 j z)
              rw [this]
              exact wipe_same (wipe_length _ _) fun j m => wipe_off m
            have eb2 : k2 = true := eb2
            subst eb2
            show (if true = true then _ else _)
            rw [if_pos rfl]
            refine ⟨Ga, s9, Ra, ?_⟩
            cases qe : fe s9 with
            | no => rw [qe] at h7; exact h7.elim
            | er e s10 => rw [qe] at h7; exact h7.elim
            | ok u s10 =>
            rw [qe] at h7
            cases u with
            | o f b => exact h7.elim
            | r k => exact h7.elim
            | x y => exact h7.elim
            | s ns => exact h7.elim
            | z zp => exact h7.elim
            | d x =>
            intro y Gb Hb tb Rb ry
            have ry : Rp K Gb y x := ry
            have t9b := (t9.trans ta).trans tb
            have nw8 : ∀ f, ¬ Own (wipe σ7 vs1) (wipeS s7 vs1) f A := fun f w => n7A f ((own_wipe pl1).mpr w)
            have hbA : Hb A = some (.lst us7) := t9b.fr A _ h8A nw8
            have gbA : Gb A = none := by
              cases q : Gb A with
              | none => rfl
              | some o => exact absurd (t9b.gn A g8A (ne_none h8A) (ne_none q)) (nw8 true)
            have nbA : ∀ f, ¬ Own σ9 s10 f A := fun f w => by
              rcases t9b.ow f A w with ⟨z, _⟩ | z
              · rw [h8A] at z; cases z
              · exact nw8 f z
            by_cases lt : acc7.length < 16777216
            · have h7 : Po K xi W (VR K xi) G H σ s (match (if acc7.length < 16777216 then lc2I g1 fe vs1 (items1.drop (j + 1)) (acc7 ++ [x]) s10 else .no) with
                | .ok acc2 s3 => lc2L g fi1 g1 fe vs1 vs (items.drop (i + 1)) acc2 (restS s2 s3 vs)
                | _ => .no) Q := h7
              rw [if_pos lt] at h7
              have w9 : wipe σ9 vs1 = wipe σ7 vs1 := by
                have := wipe_same (vs := vs1) (off9.1) fun j m => off9.2 j fun z => m (hsl1 j z)
                rw [this]
                exact wipe_same (wipe_length _ _) fun j m => wipe_off m
              have off9v : ∀ j, j ∉ vs → σ9[j]? = (wipe σ vs)[j]? := fun j m => by
                have m1 : j ∉ vs1 := fun z => m (hv j z)
                rw [off9.2 j fun z => m1 (hsl1 j z), wipe_off m1]
                exact off7 j m
              have len9 : σ9.length = σ.length := (off9.1.trans (wipe_length _ _)).trans len7
              have gall := (g8.trans t9b.gg)
              exact ⟨us7, hbA, by rw [hacc7.len, sizeLine_eq]; exact lt, _, by omega, rfl, hlt1, Gb, σ9, s10, us7 ++ [y], acc7 ++ [x], g67.trans gall, g37.trans gall,
                stp_hid (T7.trans (t8.trans ((stp_wipe pl1).trans t9b))) msk_at, rep_hid Rb hbA gbA nbA, off9v, len9, w9, upd_same, (RpAll.same gall hacc7).app (.cons ry .nil), gbA, nbA, h7⟩
            · have h7 : Po K xi W (VR K xi) G H σ s (match (if acc7.length < 16777216 then lc2I g1 fe vs1 (items1.drop (j + 1)) (acc7 ++ [x]) s10 else .no) with
                | .ok acc2 s3 => lc2L g fi1 g1 fe vs1 vs (items.drop (i + 1)) acc2 (restS s2 s3 vs)
                | _ => .no) Q := h7
              rw [if_neg lt] at h7
              exact h7.elim
          · rw [if_neg pl1] at h7
            exact h7.elim
        · left
          have e : j = items1.length := by omega
          subst e
          refine ⟨stops1 rfl, ?_⟩
          rw [List.drop_length] at h7
          have l7 : s7.length = s2.length := by rw [R7.len, len7, R2.len]
          have Ro := rep_out R3m pl2 off7 len7 T7 R7
          have no : ∀ f, ¬ Own σ (restS s2 s7 vs) f A := fun f w => by
            obtain ⟨j, b, e1, e2⟩ := w
            have m : j ∉ vs := fun m => by rw [restS_on l7 m] at e1; exact plain_no pl2 m e1
            rw [restS_off m] at e1
            exact n7A f ⟨j, b, e1, by rw [off7 j m, wipe_off m]; exact e2⟩
          exact ⟨_, by omega, rfl, hlt, G7, restS s2 s7 vs, us7, acc7, (g2.trans g3).trans g37, t3m.trans (stp_out pl2 l7 off7 T7), Ro, h7A, hacc7, g7A, no, plain_rest pl2 l7, h7⟩
    · left
      have e : i = items.length := by omega
      subst e
      refine ⟨stops rfl, ?_⟩
      rw [List.drop_length] at h2
      exact h2 (.ref A) G2 H2 t2 R2 ⟨rfl, A, rfl, g2A, .inl h0A, ⟨us, hus, hacc⟩, nown⟩
  · exact h1.elim
end
end M
set_option Elab.async false
set_option linter.all false
set_option maxRecDepth 100000
set_option maxHeartbeats 4000000
namespace M
open PySem PySem.Spec PyProof.Rows L2 Sv
variable [Wd]
def getK : List (Key × D) → Key → Option D
  | [], _ => none
  | p :: r, k => if p.1 = k then some p.2 else getK r k
def putD (kvs : List (Key × D)) (k : Key) (v : D) : List (Key × D) := if (kvs.any fun kv => decide (kv.1 = k)) = true then kvs.map (fun kv => if kv.1 = k then (kv.1, v) else kv) else kvs ++ [(k, v)]
section
variable {X : Cx} {K : PySem.W.Frag} {xi : XI} {W : WX} {G H G' H' G1 H1 : Hp} {σ σ' σ1 : Ss} {s s' s1 : S} {k v a b ev kx tg iter : Expr} {fk fa fv fe : S → ER Vl} {fi : S → ER (List PyData)} {g : Tg} {pos p pos2 tpos : Pos} {i : Nat} {sl vs : List Nat}
end
end M
set_option Elab.async false
set_option linter.all false
set_option maxRecDepth 100000
set_option maxHeartbeats 4000000
namespace M
open PySem PySem.Spec PyProof.Rows L2 Sv
variable [Wd]
section
variable {X : Cx} {K : PySem.W.Frag} {xi : XI} {W : WX} {G H G' H' G1 H1 : Hp} {σ σ' σ1 : Ss} {s s' s1 : S} {kx ev tg iter tg1 iter1 elt : Expr} {fk fe : S → ER Vl} {fi fi1 : S → ER (List PyData)} {g g1 : Tg} {pos : Pos} {i : Nat} {sl sl1 vs vs1 : List Nat}
theorem rs_setLc2 {y : Str} {py spos : Pos} {scope : Scope} {own : List (Str × Nat)} (hc : X.calm = true) (hN : X.N.Nodup) (hy : X.N[i]? = some y) (hyl : X.env.scope.names.lookup y = some .local)
    (hsw : swapsWith (.ListComp elt [⟨tg, iter, [], 0⟩, ⟨tg1, iter1, [], 0⟩] scope pos) (some (.Name y py)) spos.line X.env = pure true) (hi : PI X tg iter (tI K xi W fi)) (ok : BlkOk X.N X.env.scope scope own)
    (hg : ∀ (s : Shared) (H : Hp) (C : Addr) (cl : List (Str × Addr)) (fp : List Addr), PG (X.blk s H scope (compEnvC scope cl C X.env) fp) tg (tG K xi sl g))
    (hi1 : ∀ (s : Shared) (H : Hp) (C : Addr) (cl : List (Str × Addr)) (fp : List Addr), PI (X.blk s H scope (compEnvC scope cl C X.env) fp) tg1 iter1 (tI K xi (fun _ _ _ _ => False) fi1))
    (hg1 : ∀ (s : Shared) (H : Hp) (C : Addr) (cl : List (Str × Addr)) (fp : List Addr), PG (X.blk s H scope (compEnvC scope cl C X.env) fp) tg1 (tG K xi sl1 g1))
    (he : ∀ (s : Shared) (H : Hp) (C : Addr) (cl : List (Str × Addr)) (fp : List Addr), PE (X.blk s H scope (compEnvC scope cl C X.env) fp) elt (tE K xi (fun _ _ _ _ => False) fe)) (hsl : ∀ j ∈ sl, j ∈ own.map (·.2)) (hsl1 : ∀ j ∈ sl1, j ∈ vs1) (hv : ∀ j ∈ vs1, j ∈ own.map (·.2))
    (ht : ∀ (s : Shared) (H : Hp) (C : Addr) (cl : List (Str × Addr)) (fp : List Addr), PTs (X.blk s H scope (compEnvC scope cl C X.env) fp) [] (tT K xi (fun _ _ _ _ => False) yesT)) (hs : ∀ x, foldedSetIterable iter X.env x = pure x := by intro _; rfl) (hs1 : ∀ env x, foldedSetIterable iter1 env x = pure x := by intro _ _; rfl) :
    PS X (.Assign [.Name y py] (.ListComp elt [⟨tg, iter, [], 0⟩, ⟨tg1, iter1, [], 0⟩] scope pos) spos) (tS K xi W (setS i (lc2E fi g fi1 g1 fe vs1 (own.map (·.2))))) := by
  refine PS.mono (ps_setLc2 hc hN hy hyl hsw hi ok hv hg ht hi1 hg1 ht he hs hs1) fun D σ H h => lc2_lift hsl hsl1 hv ?_
  obtain ⟨G, s, R, h⟩ := h
  refine ⟨G, s, R, Po.outU .refl h fun a s1 _ v G1 H1 t1 R1 r h1 => ?_⟩
  show D.nx (σ.set i (some v)) H1
  unfold stoO at h1
  split at h1
  · rename_i s2 q
    exact h1 G1 H1 _ (stp_set t1 R1 r q) (rep_set R1 r q)
  · exact h1.elim
end
end M
set_option Elab.async false
set_option linter.all false
set_option maxRecDepth 100000
set_option maxHeartbeats 4000000
namespace M
open PySem PySem.Spec PyProof.Rows L2 Sv
variable [Wd]
def muI (i j : Int) : Option Int := if bits64 i = true then some (i * j) else none
def ipMulI : TIp := fun x y H Q => ∃ i j, x = .int i ∧ y = .int j ∧ CMul i j ∧ Q (.int (i * j)) H
section
variable {X : Cx} {K : PySem.W.Frag}
theorem ip_mulI : PIp X .Mult ipMulI := by
  intro pins s σ H x y v u Q I r1 r2 h
  obtain ⟨i, j, e1, e2, hb, q⟩ := h
  subst e1; subst e2
  obtain ⟨t, rfl⟩ := r1
  obtain ⟨t', rfl⟩ := r2
  exact PySem.P.imul_int ⟨.int _, H, I.tok _, ⟨_, rfl⟩, q⟩ hb.ok
theorem of_imul : OpF K ipMulI (intD muI) := of_int fun i j k H Q e q => by
  have e : (if bits64 i = true then some (i * j) else none) = some k := e
  by_cases h : bits64 i = true
  · rw [if_pos h] at e
    cases e
    have := bits64_ok h
    exact ⟨i, j, rfl, rfl, .inl (by omega), q⟩
  · rw [if_neg h] at e
    cases e
end
end M
set_option Elab.async false
set_option linter.all false
set_option maxRecDepth 100000
set_option maxHeartbeats 4000000
namespace M
open PySem PySem.Spec PyProof.Rows L2 Sv
variable [Wd]
section
variable {X : Cx} {pins : List (Addr × Obj)} {σ : L2.St} {H G : Hp} {s : Shared} {A : Around} {E : Value → Shared → Prop}
variable {a : Addr} {y v : V} {o : Option V} {u r : Value}
end
section
variable {X : Cx} {o i e value : Expr} {pos pos' tpos : Pos} {td ty tv : TE}
end
end M
set_option Elab.async false
set_option linter.all false
set_option maxRecDepth 100000
set_option maxHeartbeats 4000000
namespace M
open PySem PySem.Spec PyProof.Rows L2 Sv
variable [Wd]
section
variable {X : Cx} {pins : List (Addr × Obj)} {σ : L2.St} {H G : Hp} {s : Shared} {E : Value → Shared → Prop} {a : Addr} {y v : V} {u r : Value}
end
section
variable {X : Cx}
end
end M
set_option Elab.async false
set_option linter.all false
set_option maxRecDepth 100000
set_option maxHeartbeats 4000000
namespace M
open PySem PySem.Spec PyProof.Rows L2 Sv
variable [Wd]
section
variable {X : Cx} {K : PySem.W.Frag} {xi : XI} {W : WX} {G H G' H' G1 H1 : Hp} {σ σ' σ1 : Ss} {s s' s1 : S} {k v a b ev kx tg iter : Expr} {fk fa fv fe : S → ER Vl} {fc : S → ER Bool} {fi : S → ER (List PyData)} {g : Tg} {pos p pos2 tpos : Pos} {i : Nat} {sl vs : List Nat}
section
variable (hu : X.A.units + 64 < cLine) (hx : PE X b (tVar i)) (hk : PE X a (tE K xi W fk))
include hu hx hk
end
end
end M
set_option Elab.async false
set_option linter.all false
set_option maxRecDepth 100000
set_option maxHeartbeats 4000000
namespace M
open PySem PySem.Spec PyProof.Rows L2 Sv
variable [Wd]
section
variable {X : Cx} {K : PySem.W.Frag} {xi : XI} {W : WX} {G H G' H' G1 H1 : Hp} {σ σ' σ1 : Ss} {s s' s1 : S} {b : Expr} {pos p q1 : Pos} {i : Nat}
end
end M
set_option Elab.async false
set_option linter.all false
set_option maxRecDepth 100000
set_option maxHeartbeats 4000000
namespace M
open PySem PySem.Spec PyProof.Rows L2 Sv
variable [Wd]
section
variable {X : Cx} {K : PySem.W.Frag} {xi : XI} {W : WX} {G H G' H' G1 H1 : Hp} {σ σ' σ1 : Ss} {s s' s1 : S} {kx ev tg iter : Expr} {fk fe : S → ER Vl} {fc : S → ER Bool} {fi : S → ER (List PyData)} {g : Tg} {pos : Pos} {i : Nat} {sl : List Nat}
end
end M
set_option Elab.async false
set_option linter.all false
set_option maxRecDepth 100000
set_option maxHeartbeats 4000000
namespace M
open PySem PySem.Spec PyProof.Rows L2 Sv
variable [Wd]
def okT (x y : D) : Bool := match x with
  | .tuple _ => PySem.W.alike x y && okD x
  | _ => false
def ltTD (x y : D) : Option Vl := if okT x y = true then some (.d (.bool (PySem.W.dataLt x y))) else none
def rTupC (K : PySem.W.Frag) (neg : Bool) : R2 := fun x y H Q => ∃ d e, Dp K H x d ∧ Dp K H y e ∧ okT d e = true ∧ Q (.bl (neg ^^ PySem.W.dataLt d e)) H
section
variable {X : Cx} {K : PySem.W.Frag}
theorem okT_ok {d e : D} (h : okT d e = true) : PySem.W.alike d e = true ∧ d ≠ .none ∧ d.depth ≤ 40 := by
  unfold okT at h
  cases d with
  | tuple ds =>
    rw [Bool.and_eq_true] at h
    exact ⟨h.1, (fun z => nomatch z), of_decide_eq_true h.2⟩
  | _ => cases h
theorem op_ltA (hu : X.A.units + 64 < cLine) (hK : X.K = K := by rfl) : OpR X (compareOp .Lt) (rTupC K false) := by
  subst hK
  intro pins s σ H x y v u Q I rx ry h
  obtain ⟨d, e, hd, he, ok, q⟩ := h
  obtain ⟨o1, o2, o3⟩ := okT_ok ok
  obtain ⟨as, r1⟩ := Dp.reads I d x v hd rx
  obtain ⟨bs, r2⟩ := Dp.reads I e y u he ry
  rw [Bool.false_xor] at q
  exact PySem.W.lt_data r1 r2 o1 o2 (by omega) ⟨.bl _, H, I, rfl, q⟩
theorem of_ltA : OpF K (rTupC K false) ltTD := by
  intro G H v w x y z Q g rx ry e h
  unfold ltTD at e
  split at e
  · rename_i c
    cases e
    exact ⟨x, y, (rx.dp g).dp, (ry.dp g).dp, c, by rw [Bool.false_xor]; exact h _ _ (.same (.bl _))⟩
  · cases e
end
theorem lt_words (n k : Int) (a b : Str) : PySem.W.dataLt (.tuple [.int n, .str a]) (.tuple [.int k, .str b]) = (decide (n < k) || (decide (n = k) && decide (a.cps.toList < b.cps.toList))) := by
  have al : PySem.W.alike (.int n) (.int k) = true := rfl
  have as : PySem.W.alike (.str a) (.str b) = true := rfl
  rw [PySem.W.dataLt_tuple]
  by_cases c : n = k
  · subst c
    rw [PySem.W.dataLt_all_yes al (by simp [PyData.eqv])]
    by_cases d : a = b
    · subst d
      rw [PySem.W.dataLt_all_yes as (by simp [PyData.eqv])]
      have : ¬ a.cps.toList < a.cps.toList := List.lt_irrefl _
      rw [decide_eq_false this]
      simp
      rfl
    · rw [PySem.W.dataLt_all_no as (by simp [PyData.eqv, d]), PySem.W.dataLt_str]
      simp
  · rw [PySem.W.dataLt_all_no al (by simp [PyData.eqv, c]), PySem.W.dataLt_int]
    simp [c]
theorem ltTD_words (n k : Int) (a b : Str) : ltTD (.tuple [.int n, .str a]) (.tuple [.int k, .str b]) = some (.d (.bool (decide (n < k) || (decide (n = k) && decide (a.cps.toList < b.cps.toList))))) := by
  unfold ltTD
  rw [if_pos (by rfl), lt_words]
end M
set_option Elab.async false
set_option linter.all false
set_option maxRecDepth 100000
set_option maxHeartbeats 4000000
namespace M
open PySem PySem.Spec PyProof.Rows L2 Sv
variable [Wd]
section
variable {X : Cx} {K : PySem.W.Frag}
end
end M
set_option Elab.async false
set_option linter.all false
set_option maxRecDepth 100000
set_option maxHeartbeats 4000000
namespace M
open PySem PySem.Spec PyProof.Rows L2 Sv
variable [Wd]
section
variable {K : PySem.W.Frag} {xi : XI} {G H G1 H1 : Hp} {σ : Ss} {s s1 : S} {q : Addr}
end
section
variable {X : Cx} {tg e : Expr} {td : TE}
end
section
variable {X : Cx} {K : PySem.W.Frag} {xi : XI} {W : WX} {e iter tg : Expr} {fa : S → ER Vl} {pos p : Pos}
end
section
variable {X : Cx}
end
section
variable {X : Cx} {K : PySem.W.Frag} {xi : XI} {W : WX} {e : Expr} {fa : S → ER Vl} {pos p : Pos}
end
end M
set_option Elab.async false
set_option linter.all false
set_option maxRecDepth 100000
set_option maxHeartbeats 4000000
namespace M
open PySem PySem.Spec PyProof.Rows L2 Sv
variable [Wd]
section
variable {X : Cx} {pins : List (Addr × Obj)} {σ : L2.St} {H : Hp} {s : Shared} {A : Around} {E : Value → Shared → Prop} {a : Addr} {y z : V} {o : Option V} {u r : Value}
end
section
variable {X : Cx} {o e f : Expr} {td ty tx : TE} {apos cpos : Pos}
end
section
variable {X : Cx} {K : PySem.W.Frag} {xi : XI} {W : WX} {G H G' H' G1 H1 : Hp} {σ : Ss} {s s1 : S} {b kx vx : Expr} {fk fv : S → ER Vl} {apos cpos : Pos} {i : Nat}
end
end M
set_option Elab.async false
set_option linter.all false
set_option maxRecDepth 100000
set_option maxHeartbeats 4000000
namespace M
open PySem PySem.Spec PyProof.Rows L2 Sv
variable [Wd]
section
variable {X : Cx} {K : PySem.W.Frag} {xi : XI} {W : WX} {G H G1 H1 : Hp} {σ : Ss} {s s1 : S} {kx vx : Expr} {fk fv : S → ER Vl} {pos : Pos} {q : Addr}
end
end M
set_option Elab.async false
set_option linter.all false
set_option maxRecDepth 100000
set_option maxHeartbeats 4000000
namespace K
open PySem PySem.Spec L2 Sv M
end K
set_option Elab.async false
set_option linter.all false
set_option maxRecDepth 100000
set_option maxHeartbeats 4000000
namespace K
open PySem PySem.Spec L2 Sv M
def lft (a b : List Nat) : Option (List Nat × List Nat) := if cmn a b < min a.length b.length then none else some (a.drop (cmn a b), b.drop (cmn a b))
def ldD : Option (List Nat × List Nat) → D
  | none => .none
  | some (x, y) => .tuple [.str (tx x), .str (tx y)]
structure Ent where
  s : Nat
  t : Nat
  l : Option (List Nat × List Nat)
  deriving DecidableEq
def Ent.d (e : Ent) : D := .tuple [.int ((e.s : Nat) : Int), .int ((e.t : Nat) : Int), ldD e.l]
section
variable (m p : Mch)
def lastL (m : Mch) (s : Nat) : List Nat := (m.rows.getD s Row.nil).l.cps.toList
def agrees (e : Ent) : Bool := match e.l with
  | none => false
  | some (x, y) => decide (x ++ lastL m e.s = y ++ lastL p e.t)
def entE (m : Mch) (s j : Nat) : Str × Int := (m.rows.getD s Row.nil).es.getD j ("", 0)
def after (e : Ent) (j : Nat) : Ent := match e.l with
  | none => ⟨0, 0, none⟩
  | some (x, y) => ⟨(entE m e.s j).2.toNat, (entE p e.t j).2.toNat, lft (x ++ (entE m e.s j).1.cps.toList) (y ++ (entE p e.t j).1.cps.toList)⟩
def start : Ent := ⟨0, 0, lft m.f.cps.toList p.f.cps.toList⟩
def pairIn (T : List Ent) (e : Ent) : Bool := T.any fun z => decide (z.s = e.s ∧ z.t = e.t)
def inner (w : Str) : List (Nat × Ent) → List Ent → List Str → Option Str × List Ent × List Str
  | [], T, W => (none, T, W)
  | (j, e) :: r, T, W => if agrees m p e = true then (if pairIn T e = true then inner w r T W else inner w r (T ++ [e]) (W ++ [w ++ tx [97 + j]])) else (some (w ++ tx [97 + j]), T, W)
def steps (e : Ent) : List (Nat × Ent) := (List.range m.k.toNat).map fun j => (j, after m p e j)
def outer : Nat → Nat → List Ent → List Str → Option Str × List Ent
  | 0, _, T, _ => (none, T)
  | n + 1, at', T, W => if at' < T.length then (match inner m p (W.getD at' "") (steps m p (T.getD at' ⟨0, 0, none⟩)) T W with
    | (some z, T', _) => (some z, T')
    | (none, T', W') => outer n (at' + 1) T' W') else (none, T)
end
structure Sides (N : Nat) (m p : Mch) : Prop where
  hm : MchB N 6 m
  hp : MchB N 6 p
  hk : p.k = m.k
  hn : N ≤ 60
structure Good (m p : Mch) (e : Ent) : Prop where
  s : e.s < m.rows.length
  t : e.t < p.rows.length
  one : ∀ x y, e.l = some (x, y) → (x = [] ∨ y = []) ∧ (∀ c ∈ x, LetK m.k c) ∧ (∀ c ∈ y, LetK m.k c) ∧ x.length ≤ 200 ∧ y.length ≤ 200
section
variable {N : Nat} {m p : Mch} (h : Sides N m p)
include h
structure Met (m p : Mch) (T : List Ent) (W : List Str) : Prop where
  g : ∀ e ∈ T, Good m p e ∧ agrees m p e = true
  nd : T.Pairwise fun a b => ¬ (a.s = b.s ∧ a.t = b.t)
  w : W.length = T.length
  wk : ∀ w ∈ W, ∀ c ∈ w.cps.toList, LetK m.k c
end
theorem nd_le : ∀ (N : Nat) (l : List Nat), l.Nodup → (∀ x ∈ l, x < N) → l.length ≤ N
  | 0, [], _, _ => Nat.le_refl _
  | 0, a :: l, _, h => absurd (h a List.mem_cons_self) (Nat.not_lt_zero _)
  | N + 1, l, nd, h => by
    have e : l.length ≤ (l.filter fun x => decide (x ≠ N)).length + 1 := by
      clear h
      induction l with
      | nil => exact Nat.zero_le _
      | cons a l ih =>
        rw [List.nodup_cons] at nd
        by_cases c : a = N
        · subst c
          have : (l.filter fun x => decide (x ≠ a)) = l := List.filter_eq_self.mpr fun x mx => decide_eq_true fun z => nd.1 (z ▸ mx)
          rw [List.filter_cons, if_neg (by simp), this, List.length_cons]
          exact Nat.le_refl _
        · rw [List.filter_cons, if_pos (decide_eq_true c), List.length_cons, List.length_cons]
          have := ih nd.2
          omega
    have := nd_le N (l.filter fun x => decide (x ≠ N)) (nd.filter _) fun x mx => by
      rw [List.mem_filter, decide_eq_true_eq] at mx
      have := h x mx.1
      omega
    omega
theorem Met.len {m p : Mch} {T : List Ent} {W : List Str} (hT : Met m p T W) : T.length ≤ m.rows.length * p.rows.length := by
  have := nd_le (m.rows.length * p.rows.length) (T.map fun e => e.s * p.rows.length + e.t) (by
    show List.Pairwise _ _
    rw [List.pairwise_map]
    refine hT.nd.imp_of_mem fun {a b} ma mb c e => c ?_
    have h1 := (hT.g a ma).1.t
    have h2 := (hT.g b mb).1.t
    have e1 : (a.s * p.rows.length + a.t) / p.rows.length = a.s := by rw [Nat.mul_comm, Nat.mul_add_div (by omega), Nat.div_eq_of_lt h1, Nat.add_zero]
    have e2 : (b.s * p.rows.length + b.t) / p.rows.length = b.s := by rw [Nat.mul_comm, Nat.mul_add_div (by omega), Nat.div_eq_of_lt h2, Nat.add_zero]
    have es : a.s = b.s := by rw [← e1, e, e2]
    rw [es] at e
    exact ⟨es, by omega⟩) fun x mx => by
    obtain ⟨e, me, rfl⟩ := List.mem_map.mp mx
    have h1 := (hT.g e me).1.s
    have h2 := (hT.g e me).1.t
    have : (e.s + 1) * p.rows.length ≤ m.rows.length * p.rows.length := Nat.mul_le_mul_right _ h1
    rw [Nat.add_mul, Nat.one_mul] at this
    show e.s * p.rows.length + e.t < _
    omega
  rw [List.length_map] at this
  exact this
end K
set_option Elab.async false
set_option linter.all false
set_option maxRecDepth 100000
set_option maxHeartbeats 4000000
namespace K
open PySem PySem.Spec L2 Sv M
section
variable {N : Nat} {m p : Mch} (h : Sides N m p)
include h
end
end K
set_option Elab.async false
set_option linter.all false
set_option maxRecDepth 100000
set_option maxHeartbeats 4000000
namespace K
open PySem PySem.Spec L2 Sv M
section
variable {N : Nat} {m p : Mch} (h : Sides N m p)
include h
def metOf (T : List Ent) : List (List Key × D) := T.map fun e => ([Sum.inl ((e.s : Nat) : Int), Sum.inl ((e.t : Nat) : Int)], .bool true)
abbrev Ss (m p : Mch) (S0 : D) (T : List Ent) (W : List Str) (i : Nat) (en : Option Vl) (x y : Option D) : S := [some (.d m.data), some (.d p.data), some (.d S0), some (.o true (.L (T.map Ent.d))), some (.o true (.L (W.map .str))), some (.o true (.T (metOf T))), some (.d (.int ((i : Nat) : Int))), en, dv x, dv y]
end
end K
set_option Elab.async false
set_option linter.all false
set_option maxRecDepth 100000
set_option maxHeartbeats 4000000
namespace K
open PySem PySem.Spec L2 Sv M
section
variable {N : Nat} {m p : Mch} (h : Sides N m p)
include h
abbrev Lt (m p : Mch) (R0 : D) (T : List Ent) (W : List Str) (i : Nat) (st : Option Vl) (x y : Option D) : S := [some (.d m.data), some (.d p.data), some (.d R0), some (.o true (.L (T.map Ent.d))), some (.o true (.L (W.map .str))), some (.d (.int ((i : Nat) : Int))), st, dv x, dv y]
end
end K
set_option Elab.async false
set_option linter.all false
set_option maxRecDepth 100000
set_option maxHeartbeats 4000000
namespace K
open PySem PySem.Spec L2 Sv M
end K
set_option Elab.async false
set_option linter.all false
set_option maxRecDepth 100000
set_option maxHeartbeats 4000000
namespace M
open PySem PySem.Spec L2 Sv
section
variable {α β : Type} [DecidableEq α] {f : α → D}
def look (l : List (α × D)) (a : α) : Option D := (l.find? fun p => decide (p.1 = a)).map (·.2)
end
end M
set_option Elab.async false
set_option linter.all false
set_option maxRecDepth 100000
set_option maxHeartbeats 4000000
namespace K
open PySem PySem.Spec L2 Sv M
abbrev Kx := Int × Int × Option (List Nat × List Nat)
def Ent.k (e : Ent) : Kx := (((e.s : Nat) : Int), ((e.t : Nat) : Int), e.l)
section
variable {N : Nat} {m p : Mch} (h : Sides N m p)
include h
end
end K
set_option Elab.async false
set_option linter.all false
set_option maxRecDepth 100000
set_option maxHeartbeats 4000000
namespace K
open PySem PySem.Spec L2 Sv M
def nxt (m : Mch) (s : Nat) : List Nat := (List.range m.k.toNat).map fun j => (entE m s j).2.toNat
section
variable {N : Nat} {m : Mch} (hm : MchB N 6 m)
include hm
structure OrdOk (m : Mch) (O : List Nat) : Prop where
  nd : O.Nodup
  lt : ∀ t ∈ O, t < m.rows.length
omit hm in
theorem OrdOk.len {O : List Nat} (h : OrdOk m O) : O.length ≤ m.rows.length := nd_le _ _ h.nd h.lt
end
end K
set_option Elab.async false
set_option linter.all false
set_option maxRecDepth 100000
set_option maxHeartbeats 4000000
namespace K
open PySem PySem.Spec L2 Sv M
section
variable {N : Nat} {m : Mch} (hm : MchB N 6 m) (hN : N ≤ 60)
include hm
end
end K
set_option Elab.async false
set_option linter.all false
set_option maxRecDepth 100000
set_option maxHeartbeats 4000000
namespace K
open PySem PySem.Spec L2 Sv M
section
variable {N : Nat} {m : Mch} (hm : MchB N 6 m) (hN : N ≤ 60)
include hm
end
end K
set_option Elab.async false
set_option linter.all false
set_option maxRecDepth 100000
set_option maxHeartbeats 4000000
namespace K
open PySem PySem.Spec L2 Sv M
section
variable {N : Nat} {m : Mch} (hm : MchB N 6 m) (hN : N ≤ 60)
include hm
end
end K
set_option Elab.async false
set_option linter.all false
set_option maxRecDepth 100000
set_option maxHeartbeats 4000000
namespace K
open PySem PySem.Spec L2 Sv M
section
variable {N : Nat} {m : Mch} (hm : MchB N 6 m) (hN : N ≤ 60)
include hm
end
end K
set_option Elab.async false
set_option linter.all false
set_option maxRecDepth 100000
set_option maxHeartbeats 4000000
namespace K
open PySem PySem.Spec L2 Sv M
theorem sqM {f g : S → Out} {s s1 : S} (h : f s = .nx s1) : seqS f g s = g s1 := by
  show (f s).seq g = _
  rw [h]
  rfl
section
variable {N : Nat} {m : Mch} (hm : MchB N 6 m) (hN : N ≤ 60)
include hm
end
end K
set_option Elab.async false
set_option linter.all false
set_option maxRecDepth 100000
set_option maxHeartbeats 4000000
namespace K
open PySem PySem.Spec L2 Sv M
end K
set_option Elab.async false
set_option linter.all false
set_option maxRecDepth 100000
set_option maxHeartbeats 4000000
namespace K
open PySem PySem.Spec L2 Sv M
section
variable {N : Nat} {m : Mch} (hm : MchB N 6 m) (hN : N ≤ 60)
include hm
end
end K
set_option Elab.async false
set_option linter.all false
set_option maxRecDepth 100000
set_option maxHeartbeats 4000000
namespace M
open PySem PySem.Spec PyProof.Rows L2 Sv
variable [Wd]
section
variable {X : Cx} {pins : List (Addr × Obj)} {σ : L2.St} {H : Hp} {s : Shared} {d : Addr} {o : Obj}
end
section
variable {P : Program} {w : World} {K : PySem.W.Frag} {tg : Expr} {d : Addr} {o : Obj} {es : Array DictEntry} {ep : Nat}
end
end M
set_option Elab.async false
set_option linter.all false
set_option maxRecDepth 100000
set_option maxHeartbeats 4000000
namespace M
open PySem PySem.Spec PyProof.Rows L2 Sv
variable [Wd]
end M
set_option Elab.async false
set_option linter.all false
set_option maxRecDepth 100000
set_option maxHeartbeats 4000000
namespace K
open PySem PySem.Spec L2 Sv M
end K
set_option Elab.async false
set_option linter.all false
set_option maxRecDepth 100000
set_option maxHeartbeats 4000000
namespace K
open PySem PySem.Spec L2 Sv M
section
variable {N : Nat} {m p : Mch} (h : Sides N m p)
include h
end
end K
set_option Elab.async false
set_option linter.all false
set_option maxRecDepth 100000
set_option maxHeartbeats 4000000
namespace K
open PySem PySem.Spec L2 Sv M
section
variable {N : Nat} {m : Mch} (hm : MchB N 6 m) (hN : N ≤ 60)
include hm
end
end K
set_option Elab.async false
set_option linter.all false
set_option maxRecDepth 100000
set_option maxHeartbeats 4000000
namespace K
open PySem PySem.Spec L2 Sv M
section
variable {N : Nat} {m : Mch} (hm : MchB N 6 m) (hN : N ≤ 60)
include hm
end
end K
set_option Elab.async false
set_option linter.all false
set_option maxRecDepth 100000
set_option maxHeartbeats 4000000
namespace M
open PySem PySem.Spec PyProof.Rows L2 Sv
variable [Wd]
section
variable {X : Cx} {pins : List (Addr × Obj)} {σ : L2.St} {H : Hp} {s : Shared} {d : Addr} {o : Obj}
end
section
variable {P : Program} {w : World} {K : PySem.W.Frag} {tg : Expr} {d : Addr} {o : Obj} {es : Array DictEntry} {ep : Nat}
end
section
variable {X : Cx} {tg e : Expr} {td : TE} {apos cpos : Pos}
end
section
variable {K : PySem.W.Frag} {xi : XI} {W : WX} {G H G1 H1 : Hp} {σ : Ss} {s s1 : S} {q : Addr}
end
section
variable {X : Cx} {K : PySem.W.Frag} {xi : XI} {W : WX} {e iter tg : Expr} {elts : List Expr} {fa : S → ER Vl} {pos p apos cpos tpos : Pos} {kk : Nat}
end
section
variable {X : Cx}
end
section
variable {X : Cx} {K : PySem.W.Frag} {xi : XI} {W : WX} {e : Expr} {fa : S → ER Vl} {pos p : Pos}
end
section
variable {X : Cx} {K : PySem.W.Frag} {xi : XI} {W : WX} {b kx : Expr} {fa fk : S → ER Vl} {pos : Pos}
end
end M
set_option Elab.async false
set_option linter.all false
set_option maxRecDepth 100000
set_option maxHeartbeats 4000000
namespace K
open PySem PySem.Spec L2 Sv M
end K
set_option Elab.async false
set_option linter.all false
set_option maxRecDepth 100000
set_option maxHeartbeats 4000000
namespace K
open PySem PySem.Spec L2 Sv M
theorem nd_sub {α : Type} [DecidableEq α] : ∀ (l U : List α), l.Nodup → (∀ x ∈ l, x ∈ U) → l.length ≤ U.length
  | [], U, _, _ => Nat.zero_le _
  | a :: l, U, nd, h => by
    rw [List.nodup_cons] at nd
    have ma := h a List.mem_cons_self
    have := nd_sub l (U.erase a) nd.2 fun x mx => (List.mem_erase_of_ne (fun e => nd.1 (by rw [← e]; exact mx))).mpr (h x (List.mem_cons_of_mem _ mx))
    rw [List.length_erase_of_mem ma] at this
    have := List.length_pos_of_mem ma
    rw [List.length_cons]
    omega
def wo2 : List (List Nat) := [97, 98, 99, 100, 101, 102].map (fun a => [a]) ++ [97, 98, 99, 100, 101, 102].flatMap fun a => [97, 98, 99, 100, 101, 102].map fun b => [a, b]
def ld2 : List (List Nat × List Nat) := ([], []) :: (wo2.map (fun w => (w, [])) ++ wo2.map fun w => ([], w))
def pl2 : List Kx := ([-1, 0, 1, 2] : List Int).flatMap fun s => ([-1, 0, 1, 2] : List Int).flatMap fun t => ld2.map fun l => (s, t, some l)
section
variable {N : Nat} {m : Mch} (hm : MchB N 2 m)
include hm
end
end K
set_option Elab.async false
set_option linter.all false
set_option maxRecDepth 100000
set_option maxHeartbeats 4000000
namespace K
open PySem PySem.Spec L2 Sv M
section
variable {N : Nat} {m : Mch} (hm : MchB N 2 m)
include hm
end
end K
set_option Elab.async false
set_option linter.all false
set_option maxRecDepth 100000
set_option maxHeartbeats 4000000
namespace M
open PySem PySem.Spec PyProof.Rows L2 Sv
theorem nat_le_of_sub {α : Type} [DecidableEq α] : ∀ {l U : List α}, l.Nodup → (∀ x ∈ l, x ∈ U) → l.length ≤ U.length
  | [], U, _, _ => Nat.zero_le _
  | a :: l, U, nd, h => by
    rw [List.nodup_cons] at nd
    have ma := h a List.mem_cons_self
    have := nat_le_of_sub (l := l) (U := U.erase a) nd.2 fun x mx => (List.mem_erase_of_ne (fun e => nd.1 (by rw [← e]; exact mx))).mpr (h x (List.mem_cons_of_mem _ mx))
    rw [List.length_erase_of_mem ma] at this
    have := List.length_pos_of_mem ma
    rw [List.length_cons]
    omega
def wordOf (e : Int × Value) : Str := match e.2 with
  | .str x _ => x
  | _ => ""
def WordE (w : World) (e : Int × Value) : Prop := ∃ x t, e.2 = Value.str x t ∧ e.1 = hashStr w x
def WordsAt (w : World) (h : Heap) (a : Addr) (L : List Str) : Prop :=
  ∃ o es ep t, h.get? a = some o ∧ o.ExactSet ∧ o.data = .set es ep t ∧ ((∀ e ∈ es.toList, WordE w e) ∧ (es.toList.map wordOf).Nodup ∧ ∀ x, x ∈ L ↔ x ∈ es.toList.map wordOf) ∧
    (es.size < scanBound ∧ t.fits es.size = true) ∧ Ris t.place.toList ∧ (w.params.followText "set-order" = true ∨ t.led = true)
theorem WordsAt.keep {w : World} {h h' : Heap} {a : Addr} {L : List Str} (R : WordsAt w h a L) (k : ∀ o, h.get? a = some o → h'.get? a = some o) : WordsAt w h' a L := by
  obtain ⟨o, es, ep, t, ho, r⟩ := R
  exact ⟨o, es, ep, t, k o ho, r⟩
theorem WordsAt.same {w : World} {h : Heap} {a : Addr} {L L' : List Str} (R : WordsAt w h a L) (e : ∀ x, x ∈ L' ↔ x ∈ L) : WordsAt w h a L' := by
  obtain ⟨o, es, ep, t, ho, hx, hd, ⟨g, nd, hm⟩, r⟩ := R
  exact ⟨o, es, ep, t, ho, hx, hd, ⟨g, nd, fun x => (e x).trans (hm x)⟩, r⟩
section
variable {P : Program} {w : World}
theorem word_is {e : Int × Value} (g : WordE w e) (x : Str) : (strKind P w).is x e.2 = true ↔ wordOf e = x := by
  obtain ⟨y, t, h1, _⟩ := g
  unfold wordOf
  rw [h1]
  constructor
  · intro z
    obtain ⟨u, q⟩ := Value.isStrOf_shape (show Value.isStrOf x (Value.str y t) = true from z)
    cases q
    rfl
  · intro z
    have z : y = x := z
    rw [z]
    exact strKind_is P w x t
theorem words_elems {l : List (Int × Value)} (g : ∀ e ∈ l, WordE w e) : ElemsOf (strKind P w) l := fun e me => by
  obtain ⟨x, t, h1, h2⟩ := g e me
  exact ⟨⟨x, by rw [h1]; exact strKind_is P w x t, h2⟩, by rw [h1] <;> rfl⟩
theorem words_has {l : List (Int × Value)} (g : ∀ e ∈ l, WordE w e) (x : Str) : x ∈ l.map wordOf ↔ ∃ e ∈ l, (strKind P w).is x e.2 = true := by
  rw [List.mem_map]
  exact ⟨fun ⟨e, me, q⟩ => ⟨e, me, (word_is (g e me) x).mpr q⟩, fun ⟨e, me, q⟩ => ⟨e, me, (word_is (g e me) x).mp q⟩⟩
end
section
variable {P : Program} {w : World} {A : Around} {E : Value → Shared → Prop} {s : Shared} {a : Addr} {L : List Str}
theorem words_tail {g : Bool → Sem Unit} (hg : ∀ (b : Bool) (s1 : Shared) (R : Unit → Shared → Prop), R () s1 → wpAny (model P w) A (g b) R E s1) {o : Obj} {es : Array (Int × Value)} {ep : Nat} {t : SetTable}
    (ho : s.heap.get? a = some o) (hx : o.ExactSet) (hd : o.data = .set es ep t) {es1 : Array (Int × Value)} {t2 : SetTable} {L' : List Str} (G : (∀ e ∈ es1.toList, WordE w e) ∧ (es1.toList.map wordOf).Nodup ∧ ∀ x, x ∈ L' ↔ x ∈ es1.toList.map wordOf)
    (hb : es1.size < scanBound) (hf : t2.fits es1.size = true) (hr : Ris t2.place.toList) (hl : w.params.followText "set-order" = true ∨ t2.led = true) {dm : Bool} {R : Option Bool → Shared → Prop}
    (hR : ∀ h', Heap.SameBut a s.heap h' → WordsAt w h' a L' → R (some true) { s with heap := h' }) :
    wpAny (model P w) A (do
        storeSet a es1 t2
        if (!dm && t2.tooFull) = true then do
            g (relayAll t2 es1 (SetTable.grown es1.size)).2.2
            storeSet a (relayAll t2 es1 (SetTable.grown es1.size)).1 (relayAll t2 es1 (SetTable.grown es1.size)).2.1
            pure (some true)
          else pure (some true)) R E s := by
  have sb1 := Heap.SameBut.update s.heap a (Obj.putSet es1 t2)
  have ho1 := store_at (es' := es1) (t' := t2) ho hd
  refine wpAny_bind (wpAny_storeSet_of ho hd ?_ (fits_of_scanBound hb))
  by_cases c : (!dm && t2.tooFull) = true
  · rw [if_pos c]
    have pm := relayAll_perm t2 es1 (SetTable.grown es1.size)
    have q1 := relayAll_fits t2 es1 (SetTable.grown es1.size)
    have q2 := relayAll_ris t2 es1 (SetTable.grown es1.size)
    have q3 := relayAll_led t2 es1 (SetTable.grown es1.size)
    generalize relayAll t2 es1 (SetTable.grown es1.size) = Z at pm q1 q2 q3 ⊢
    obtain ⟨es2, t3, gv⟩ := Z
    dsimp only at pm q1 q2 q3 ⊢
    have sz : es2.size = es1.size := by rw [← Array.length_toList, pm.length_eq, Array.length_toList]
    have hb2 : es2.size < scanBound := by omega
    have ho2 := store_at (es' := es2) (t' := t3) ho1 rfl
    refine wpAny_bind (hg _ _ _ (wpAny_bind (wpAny_storeSet_of ho1 rfl ?_ (fits_of_scanBound hb2))))
    refine wpAny_pure (hR _ (sb1.trans (Heap.SameBut.update _ a _)) ⟨_, es2, _, t3, ho2, hx, rfl, ⟨fun e me => G.1 e (pm.mem_iff.mp me), (pm.map wordOf).nodup_iff.mpr G.2.1, fun x => (G.2.2 x).trans (pm.map wordOf).mem_iff.symm⟩, ⟨hb2, q1⟩, q2, ?_⟩)
    rcases hl with z | z
    · exact .inl z
    · exact .inr (by rw [q3]; exact z)
  · rw [if_neg c]
    exact wpAny_pure (hR _ sb1 ⟨_, es1, _, t2, ho1, hx, rfl, G, ⟨hb, hf⟩, hr, hl⟩)
theorem words_add {x : Str} {tk : Tok} {Q : Bool → Shared → Prop} {n : Nat} (R : WordsAt w s.heap a L) (few : L.length ≤ n) (room : n + 1 < scanBound)
    (hQ : ∀ h' b, Heap.SameBut a s.heap h' → WordsAt w h' a (L ++ [x]) → Q b { s with heap := h' }) :
    wpAny (model P w) A (setAddHashed a (.str x tk) ((strKind P w).hash x)) Q E s := by
  obtain ⟨o, es, ep, t, ho, hx, hd, ⟨g, nd, hm⟩, ⟨hb, hf⟩, hr, hl⟩ := R
  have hsc : (Value.str x tk).scannable = true := rfl
  have hel : ElemsOf (strKind P w) es.toList := words_elems g
  have szn : es.size ≤ n := by
    have q := nat_le_of_sub nd fun y my => (hm y).mpr my
    rw [List.length_map, Array.length_toList] at q
    omega
  unfold setAddHashed setAddHashedIn
  refine wpAny_holding (wpAny_bind (wpAny_setState_of ho hd hf ?_))
  dsimp only
  rw [byScan_of hsc hb hel]
  simp only [↓reduceIte]
  unfold setAddByScan
  refine wpAny_bind (wpAny_bind (wpAny_rule (wpAny_bind (wpAny_setScan_of (strKind_is P w x tk) ho hd hf hel ?_))))
  cases fi : List.findIdx? (fun e => (strKind P w).is x e.2) es.toList with
  | some j =>
    dsimp only
    obtain ⟨hj, pj, _⟩ := List.findIdx?_eq_some_iff_getElem.mp fi
    have hin : x ∈ es.toList.map wordOf := (words_has (P := P) g x).mpr ⟨es.toList[j], List.getElem_mem hj, pj⟩
    refine wpAny_pure (wpAny_pure (hQ s.heap _ (Heap.SameBut.refl a s.heap) ⟨o, es, ep, t, ho, hx, hd, ⟨g, nd, fun y => ?_⟩, ⟨hb, hf⟩, hr, hl⟩))
    rw [List.mem_append, List.mem_singleton, hm y]
    exact ⟨fun z => z.elim id fun e => by rw [e]; exact hin, .inl⟩
  | none =>
    dsimp only
    have out : x ∉ es.toList.map wordOf := fun z => by
      obtain ⟨e, me, q⟩ := (words_has (P := P) g x).mp z
      have c := List.findIdx?_eq_none_iff.mp fi e me
      rw [q] at c
      cases c
    have pm := layNew_perm t es ((strKind P w).hash x) (.str x tk)
    have q1 := layNew_fits t es ((strKind P w).hash x) (.str x tk)
    have q2 := layNew_ris t es ((strKind P w).hash x) (.str x tk) hr
    have q3 := layNew_led t es ((strKind P w).hash x) (.str x tk)
    generalize layNew t es ((strKind P w).hash x) (.str x tk) = Z at pm q1 q2 q3 ⊢
    obtain ⟨es1, t1, dm, gv⟩ := Z
    dsimp only at pm q1 q2 q3 ⊢
    rw [Array.toList_push] at pm
    have pc : es1.toList.Perm (((strKind P w).hash x, Value.str x tk) :: es.toList) := pm.trans (List.perm_append_singleton _ _)
    have pk : (es1.toList.map wordOf).Perm (x :: es.toList.map wordOf) := pc.map wordOf
    have G : (∀ e ∈ es1.toList, WordE w e) ∧ (es1.toList.map wordOf).Nodup ∧ ∀ y, y ∈ L ++ [x] ↔ y ∈ es1.toList.map wordOf := by
      refine ⟨fun e me => ?_, pk.nodup_iff.mpr (List.nodup_cons.mpr ⟨out, nd⟩), fun y => ?_⟩
      · rcases List.mem_cons.mp (pc.mem_iff.mp me) with z | z
        · rw [z]; exact ⟨x, tk, rfl, rfl⟩
        · exact g e z
      · rw [List.mem_append, List.mem_singleton, hm y, pk.mem_iff, List.mem_cons]
        exact Or.comm
    have sz : es1.size = es.size + 1 := by rw [← Array.length_toList, pc.length_eq, List.length_cons, Array.length_toList]
    have hb1 : es1.size < scanBound := by omega
    have led : w.params.followText "set-order" = true ∨ t1.led = true := hl.imp id fun z => by rw [q3]; exact z
    have gw : ∀ (b : Bool) {s1 : Shared} {R : Unit → Shared → Prop}, R () s1 → wpAny (model P w) A (match b with | true => rule "set.scan.the-table-gave-way" | false => pure ()) R E s1 := fun b s1 R q => by
      cases b
      · exact wpAny_pure q
      · exact wpAny_rule q
    refine wpAny_bind (gw _ ?_)
    split
    · refine wpAny_bind ?_
      rw [hashByValue_scannable 8 hsc]
      refine wpAny_pure ?_
      refine words_tail ?_ ho hx hd G hb1 ?_ ?_ ?_ ?_
      · intro b s1 R q; cases b <;> first | exact wpAny_pure q | exact wpAny_rule q
      · first | (split <;> first | exact q1 | exact SetTable.fits_plain_off q1) | exact q1
      · first | (split <;> exact q2) | exact q2
      · first | (split <;> exact led) | exact led
      · intro h' sb r; dsimp only; exact wpAny_pure (hQ h' _ sb r)
    · refine wpAny_bind (wpAny_pure ?_)
      simp only [↓reduceIte]
      refine words_tail ?_ ho hx hd G hb1 q1 q2 led ?_
      · intro b s1 R q; cases b <;> first | exact wpAny_pure q | exact wpAny_rule q
      · intro h' sb r; dsimp only; exact wpAny_pure (hQ h' _ sb r)
end
end M
set_option Elab.async false
set_option linter.all false
set_option maxRecDepth 100000
set_option maxHeartbeats 4000000
namespace M
open PySem PySem.Spec PyProof.Rows L2 Sv
section
variable {P : Program} {w : World} {A : Around} {E : Value → Shared → Prop} {s : Shared}
abbrev set0 (w : World) : Obj := { cls := .type "set", dict := none, data := .set #[] 0 (.fresh 0 0 (!w.params.followText "set-order")) }
theorem words_none {h : Heap} {a : Addr} (ho : h.get? a = some (set0 w)) : WordsAt w h a [] := by
  refine ⟨_, #[], 0, _, ho, ⟨rfl, rfl, rfl⟩, rfl, ⟨fun e me => by simp at me, by simp, fun x => by simp⟩, ⟨by decide, by rfl⟩, List.Pairwise.nil, ?_⟩
  show _ ∨ (!w.params.followText "set-order") = true
  cases w.params.followText "set-order"
  · exact .inr rfl
  · exact .inl rfl
theorem words_loop {I : Addr} {fp wr : List Addr} {G : Array GenState → Array GenState → Prop} {n : Nat} {Pv : Nat → Value → Prop} {St : Nat → Shared → Prop} {R : Result → Shared → Prop}
    (W : WalksS P w A.in1 I fp wr G n Pv St) (S : Addr) (hS : S ∉ fp) (xs : List Str) (hn : n = xs.length) (hb : xs.length + 1 < scanBound) (hv : ∀ i v, Pv i v → ∃ x t, xs[i]? = some x ∧ v = .str x t) :
    ∀ (k i : Nat) (s : Shared), n - i = k → i ≤ n → St i s → WordsAt w s.heap S (xs.take i) → (∀ s', Moved (S :: wr) G s s' → WordsAt w s'.heap S xs → R (.ok (.ret .none)) s') →
      codeAny (model P w) A (.builtin "set.update.loop" ⟨[.ref S, .ref I], []⟩) R s := by
  have notw : S ∉ wr := fun h => hS (W.sub _ h)
  have up : ∀ b ∈ wr, b ∈ S :: wr := fun b hb => List.mem_cons_of_mem _ hb
  intro k
  induction k with
  | zero =>
    intro i s hk hi st ws hR
    obtain rfl : i = n := by omega
    refine codeAny_builtin F.entry_set_update_loop ?_
    rw [Around.under_plainId F.plain_set_update_loop _]
    show wpAny _ A.in1 (pyNext (.ref I) >>= _) _ _ s
    refine wpAny_bind (W.done s _ _ st fun s' mv => ?_)
    show wpAny _ A.in1 (ret Value.none) _ _ s'
    rw [List.take_of_length_le (by omega)] at ws
    exact wpAny_pure (hR s' (mv.mono up) (ws.keep fun o e => mv.heap S o notw e))
  | succ k ih =>
    intro i s hk hi st ws hR
    have lt : i < n := by omega
    refine codeAny_builtin F.entry_set_update_loop ?_
    rw [Around.under_plainId F.plain_set_update_loop _]
    show wpAny _ A.in1 (pyNext (.ref I) >>= _) _ _ s
    refine wpAny_bind (W.item i s _ _ lt st fun v s' pv st' mv => ?_)
    obtain ⟨x, t, hx, rfl⟩ := hv i v pv
    have ws' : WordsAt w s'.heap S (xs.take i) := ws.keep fun o e => mv.heap S o notw e
    show wpAny _ A.in1 (holding [Value.str x t] (setAdd S (.str x t)) >>= _) _ _ s'
    refine wpAny_bind (wpAny_holding ?_)
    unfold setAdd
    refine wpAny_holding (wpAny_bind ((strKind P w).pyHash (k := x) (strKind_is _ _ _ _) ?_))
    refine words_add (s := { s' with toks := s'.toks + 1 }) (n := i) ws' (by rw [List.length_take]; omega) (by omega) fun h' b sb ws2 => ?_
    have ws3 : WordsAt w h' S (xs.take (i + 1)) := by
      have e : xs.take (i + 1) = xs.take i ++ [x] := by rw [List.take_add_one, hx]; rfl
      rw [e]
      exact ws2
    refine wpAny_pure ⟨plainId_quiet F.plain_set_update_loop _, ih (i + 1) _ (by omega) lt (W.frame _ s' _ _ st' (Nat.le_succ _) fun b mb o e => ?_) ws3 fun s2 mv2 ws4 => ?_⟩
    · rw [sb.2 b (fun z : b = S => hS (by rw [← z]; exact mb))]
      exact e
    · refine hR s2 (Moved.trans W.gtrans ((mv.mono up).then_heap (Nat.le_succ _) fun b o mb e => ?_) mv2) ws4
      rw [sb.2 b (fun z : b = S => mb (by rw [z]; exact List.mem_cons_self))]
      exact e
set_option maxHeartbeats 3200000 in
theorem set_of_texts {l : Addr} {items : Array Value} (xs : List Str) {Q : Value → Shared → Prop} (hh : A.handled = none) (hl : s.heap.IsList l items) (it : ∀ (i : Nat) (v : Value), items[i]? = some v → ∃ x t, xs[i]? = some x ∧ v = .str x t) (sz : items.size = xs.length)
    (hb : xs.length + 1 < scanBound) (h : ∀ (h' : Heap) (tk : Nat), WordsAt w h' s.heap.objs.size xs → (∀ b o, s.heap.get? b = some o → h'.get? b = some o) → Q (.ref s.heap.objs.size) { s with heap := h', toks := tk }) :
    wpAny (model P w) A (call (.type "set") [.ref l]) Q E s := by
  obtain ⟨c, tl, hmro⟩ := F.called_set.mro
  have hmade := F.called_set.made
  have hsub := F.called_set.sub
  refine wpAny_call (codeAny_of_tree ?_)
  show wpAny _ _ (callAny (.type "set") _) _ _ _
  refine wpAny_pure ⟨Code.quiet_builtin _ (by decide +kernel), codeAny_builtin F.entry_type_call ?_⟩
  rw [Around.under_plain (weight_type_call_type "set" [.ref l] []) rfl]
  have h1 := F.called_set.notType
  have h2 := F.called_set.canCreate
  have hct := F.typeCall_set_1 (.ref l)
  repeat (any_goals (first | assumption | wp_step))

  refine codeAny_mono (code_set_led1 (.ref l) (E := E) (Q₁ := fun obj s1 => obj = .ref s.heap.objs.size ∧ s1 = { s with heap := s.heap.push (set0 w) }) ⟨rfl, rfl⟩) fun r s1 hr => ?_
  cases r with
  | error e => exact hr
  | ok fl =>
    cases fl with
    | ret obj =>
      obtain ⟨rfl, rfl⟩ := hr
      have hS : (s.heap.push (set0 w)).get? s.heap.objs.size = some (set0 w) := Heap.get?_push_size _ rfl
      have hT : Shared.TypeIs { s with heap := s.heap.push (set0 w) } (.ref s.heap.objs.size) "set" := ⟨_, hS, rfl⟩
      have hli := F.called_set.init.lookup
      have hbi := F.called_set.init.bind (.ref s.heap.objs.size)
      repeat (any_goals (first | assumption | wp_step))

      refine codeAny_mono (codeAny_call_builtin (R := wants (fun r s2 => r = .none ∧ ∃ h' tk, s2 = { s with heap := h', toks := tk } ∧ WordsAt w h' s.heap.objs.size xs ∧ ∀ b o, s.heap.get? b = some o → h'.get? b = some o) E) F.called_set.init.plain F.entry_set_init (check_set_init_1 hT ?_)) fun r2 s2 hr2 => ?_
      · obtain ⟨ol, hol, hcl, nl, hdl⟩ := hl
        obtain ⟨ocls, odict, odata, oslots⟩ := ol
        simp only at hcl hdl
        subst hcl; subst hdl
        have hol2 : (s.heap.push (set0 w)).get? l = some { cls := .type "list", dict := odict, data := .seq items nl, slots := oslots } := Heap.get?_push_of_some _ hol
        have hsls := F.sub_list_set
        have hslf := F.sub_list_frozenset
        have hne : (Value.type "list" == Value.type "dict") = false := by decide
        have hl1 : (s.heap.push (set0 w)).IsList l items := ⟨_, hol2, rfl, nl, rfl⟩
        unfold Builtin.«set.__init__» noKeywords Builtin.Frozenset.updateFrom
        generalize hPI : pyIter = PI
        wp_walk
        subst hPI
        refine wpAny_pyIter_list hl1 (wpAny_bind (wpAny_runValue ?_))
        have lS : l < s.heap.objs.size := Heap.lt_size hol
        have hh3 : A.in1.in1.in1.handled = none := by simp [hh]
        have z1 : (s.heap.push (set0 w)).objs.size = s.heap.objs.size + 1 := Heap.size_push ..
        have nI : l ≠ (s.heap.push (set0 w)).objs.size := by rw [z1]; exact Nat.ne_of_lt (Nat.lt_succ_of_lt lS)
        have hSf : s.heap.objs.size ∉ [(s.heap.push (set0 w)).objs.size, l] := by
          simp only [List.mem_cons, List.not_mem_nil, or_false, not_or]
          exact ⟨by rw [z1]; exact Nat.ne_of_lt (Nat.lt_succ_self _), Nat.ne_of_gt lS⟩
        refine words_loop ((Walks.list hh3 _ l nI items).toS) s.heap.objs.size hSf xs sz hb it (items.size - 0) 0 _ (by omega) (Nat.zero_le _) ⟨⟨_, Heap.get?_push_size _ rfl, rfl, rfl⟩, (hl1.push _)⟩ ?e0 ?e1
        case e0 => exact words_none (Heap.get?_push_of_some _ hS)
        case e1 =>
          intro s' mv ws
          obtain ⟨h', g2, d', tk', os'⟩ := s'
          obtain rfl : g2 = s.gens := mv.gens
          obtain rfl : d' = s.drawn := mv.drawn
          obtain rfl : os' = s.os := mv.os
          show wpAny _ _ _ _ _ _
          refine wpAny_pure ?_
          show wpAny _ _ (ret Value.none) _ _ _
          refine wpAny_pure ⟨rfl, h', tk', rfl, ws, fun b o e => ?_⟩
          have lb : b < s.heap.objs.size := Heap.lt_size e
          refine mv.heap b o ?_ (Heap.get?_push_of_some _ (Heap.get?_push_of_some _ e))
          simp only [List.mem_cons, List.not_mem_nil, or_false, not_or]
          exact ⟨Nat.ne_of_lt lb, by rw [z1]; exact Nat.ne_of_lt (Nat.lt_succ_of_lt lb)⟩
      · cases r2 with
        | error e => exact hr2
        | ok fl2 =>
          cases fl2 with
          | ret r =>
            obtain ⟨rfl, h', tk, rfl, ws, kp⟩ := hr2
            repeat (any_goals (first | assumption | wp_step))
            exact h _ _ ws kp
          | _ => exact hr2.elim
    | _ => exact hr.elim
end
end M
set_option Elab.async false
set_option linter.all false
set_option maxRecDepth 100000
set_option maxHeartbeats 4000000
namespace M
open PySem PySem.Spec PyProof.Rows L2 Sv
variable [Wd]
def leL (a b : Str) : Bool := decide ((a.length : Int) ≤ (b.length : Int))
def sortLL (xs : List Str) : List Str := xs.mergeSort leL
def onceL : List Str → List Str
  | [] => []
  | x :: r => if x ∈ r then onceL r else x :: onceL r
theorem once_mem : ∀ {xs : List Str} {x : Str}, x ∈ onceL xs ↔ x ∈ xs
  | [], x => Iff.rfl
  | y :: r, x => by
    unfold onceL
    split
    · rename_i c
      rw [once_mem, List.mem_cons]
      exact ⟨.inr, fun h => h.elim (fun e => by rw [e]; exact c) id⟩
    · rw [List.mem_cons, List.mem_cons, once_mem]
theorem once_nd : ∀ xs : List Str, (onceL xs).Nodup
  | [] => List.nodup_nil
  | y :: r => by
    unfold onceL
    split
    · exact once_nd r
    · rename_i c
      exact List.nodup_cons.mpr ⟨fun h => c (once_mem.mp h), once_nd r⟩
theorem nd_perm {α : Type} [DecidableEq α] : ∀ {l m : List α}, l.Nodup → m.Nodup → (∀ x, x ∈ l ↔ x ∈ m) → l.Perm m
  | [], m, _, _, h => by
    cases m with
    | nil => exact .nil
    | cons a m => exact absurd ((h a).mpr List.mem_cons_self) (by simp)
  | a :: l, m, n1, n2, h => by
    rw [List.nodup_cons] at n1
    have ma := (h a).mp List.mem_cons_self
    refine (List.Perm.cons a (nd_perm n1.2 (n2.erase a) fun x => ?_)).trans (List.perm_cons_erase ma).symm
    constructor
    · intro mx
      have ne : x ≠ a := fun e => n1.1 (by rw [← e]; exact mx)
      exact (List.mem_erase_of_ne ne).mpr ((h x).mp (List.mem_cons_of_mem _ mx))
    · intro mx
      have ne : x ≠ a := fun e => by rw [e] at mx; exact (n2.not_mem_erase) mx
      rcases List.mem_cons.mp ((h x).mpr (List.mem_of_mem_erase mx)) with q | q
      · exact absurd q ne
      · exact q
theorem sortL_of {l m : List Str} (p : l.Perm m) : sortL l = sortL m :=
  List.Perm.eq_of_pairwise (le := fun a b => leS a b = true) (fun a b _ _ h1 h2 => leS_anti h1 h2) (sortL_pair l) (sortL_pair m) (((sortL_perm l).trans p).trans (sortL_perm m).symm)
theorem order_S : PySem.W.dataLe false (fun x : Str => PyData.str x) = leS := by
  rw [PySem.W.dataLe_str (fun x : Str => x)]
  funext a b
  rw [Bool.eq_iff_iff, decide_eq_true_iff, leS_iff]
theorem order_L : PySem.W.dataLe false (fun x : Str => PyData.int (x.length : Int)) = leL := PySem.W.dataLe_int (fun x : Str => (x.length : Int))
def WordsO (w : World) (a : Addr) (L : List Str) : HO := .ext fun h => WordsAt w h a L
theorem words_laid {w : World} {P : Program} {H : Hp} {h : Heap} {a : Addr} {L : List Str} (R : WordsAt w h a L) : ObjOk P w H h a (WordsO w a L) := by
  have ⟨o, _, _, _, ho, _⟩ := R
  exact ⟨R, ⟨o, ho⟩, fun h1 h2 p k => WordsAt.keep p k⟩
abbrev IsText (v : Value) (b : Str) : Prop := ∃ t, v = Value.str b t
theorem texts_each : ∀ {xs : List Str} {us : List Value}, Vals (xs.map V.str) us → PySem.W.EachIs IsText us xs
  | [], [], _ => .nil
  | [], _ :: _, r => by cases r
  | x :: xs, [], r => by cases r
  | x :: xs, u :: us, r => by
    cases r with
    | cons a r => exact .cons a (texts_each r)
theorem each_texts : ∀ {xs : List Str} {us : List Value}, PySem.W.EachIs IsText us xs → Vals (xs.map V.str) us
  | _, _, .nil => .nil
  | _, _, .cons a r => .cons a (each_texts r)
def rSetW (K : PySem.W.Frag) (w : World) : List V → Hp → VK → Prop := fun vs H Q => ∃ (l : Addr) (xs : List Str), vs = [V.ref l] ∧ SqL K H l (xs.map V.str) ∧ xs.length + 1 < scanBound ∧ ∀ p, H p = none → Q (.ref p) (upd H p (WordsO w p xs))
def rSortedW (w : World) : List V → Hp → VK → Prop := fun vs H Q => ∃ (a : Addr) (xs : List Str), vs = [V.ref a] ∧ H a = some (WordsO w a xs) ∧ xs.length ≤ 4000 ∧ ∀ p, H p = none → Q (.ref p) (upd H p (.lst ((sortL (onceL xs)).map V.str)))
section
variable {X : Cx}
theorem call_setW (hc : X.calm = true) : CallR X (.type "set") (rSetW X.K X.w) := by
  intro pins s σ H vs us Q I r h
  obtain ⟨l, xs, rfl, hl, hb, q⟩ := h
  rw [Vals.ref1 r]
  obtain ⟨its, rv, pl, hz⟩ := I.list hl
  have ll : (xs.map V.str).length = its.length := rv.length
  rw [List.length_map] at ll
  refine set_of_texts (P := X.prog) (w := X.w) xs (I.ok.hd hc) pl.isList (fun i v hv => ?_) (by rw [List.size_toArray]; exact ll.symm) hb fun h' tk R k => ?_
  · rw [List.getElem?_toArray] at hv
    have hi : i < xs.length := by rw [ll]; exact (List.getElem?_eq_some_iff.mp hv).1
    obtain ⟨u, e1, t, e2⟩ := rv.get (i := i) (x := V.str xs[i]) (by rw [List.getElem?_map, List.getElem?_eq_getElem hi]; rfl)
    rw [hv] at e1
    cases e1
    exact ⟨xs[i], t, List.getElem?_eq_getElem hi, e2⟩
  · exact ⟨.ref s.heap.objs.size, upd H s.heap.objs.size (WordsO X.w s.heap.objs.size xs), I.laid (t' := tk) k (Nat.le_refl _) (words_laid R), rfl, q _ (I.hok.fresh (Nat.le_refl _))⟩
end
section
variable {P : Program} {w : World} {A : Around} {E : Value → Shared → Prop} {s : Shared} {a : Addr} {L : List Str}
theorem sorted_words {Q : Value → Shared → Prop} (R : WordsAt w s.heap a L) (hh : A.handled = none) (few : L.length ≤ 4000) (hu : A.units + 64 < cLine)
    (hQ : ∀ s' p (out : List Value) (c : Nat), (∀ b o, s.heap.get? b = some o → s'.heap.get? b = some o) → s'.gens = s.gens → s'.os = s.os → s.heap.objs.size ≤ p → s'.heap.get? p = some (seqObj "list" out.toArray c) → PySem.W.EachIs IsText out (sortL (onceL L)) → Q (.ref p) s') :
    wpAny (model P w) A (call (.builtin "sorted") [.ref a]) Q E s := by
  obtain ⟨o, es, ep, t, ho, hx, hd, ⟨g, nd, hm⟩, ⟨hb, hf⟩, hr, hl⟩ := R
  have szn : es.size ≤ 4000 := by
    have q := nat_le_of_sub nd fun y my => (hm y).mpr my
    rw [List.length_map, Array.length_toList] at q
    omega
  refine Calls.call_function_entry kind_sorted plain_sorted entry_sorted (args_sorted1 _) ?_
  unfold Builtin.«sorted»
  refine wpAny_bind (m := checkCount "sorted" 1 1 _) (wpAny_pure ?_)
  refine wpAny_bind (collect_set (A := A.in1) hh ⟨o, ho, hx.1, hd⟩ hf hb hr hl fun s1 vs k1 hz g1 o1 pm => ?_)
  have vl : vs.length = es.size := by rw [pm.length_eq, List.length_map, Array.length_toList]
  obtain ⟨bs, hbs⟩ : ∃ bs, bs = vs.map fun v => wordOf (0, v) := ⟨_, rfl⟩
  have ev : ∀ v ∈ vs, IsText v (wordOf (0, v)) := fun v mv => by
    obtain ⟨e, me, q⟩ := List.mem_map.mp (pm.mem_iff.mp mv)
    obtain ⟨x, t, h1, _⟩ := g e me
    rw [← q, h1]
    exact ⟨t, rfl⟩
  have ee : PySem.W.EachIs IsText vs bs := by
    rw [hbs]
    clear hbs pm vl
    induction vs with
    | nil => exact .nil
    | cons v vs ih => exact .cons (ev v List.mem_cons_self) (ih fun u mu => ev u (List.mem_cons_of_mem _ mu))
  have pb : bs.Perm (es.toList.map wordOf) := by
    have q := pm.map fun v => wordOf (0, v)
    rw [List.map_map] at q
    rw [hbs]
    exact q
  have eq : sortL bs = sortL (onceL L) := sortL_of (nd_perm (pb.nodup_iff.mpr nd) (once_nd L) fun x => by rw [pb.mem_iff, once_mem]; exact (hm x).symm)
  have bl : bs.length = vs.length := by rw [hbs, List.length_map]
  refine wpAny_bind (wpAny_newList ?_ (by rw [vl, sizeLine_eq]; omega))
  have hoL : (s1.heap.push (seqObj "list" vs.toArray 0)).get? s1.heap.objs.size = some (seqObj "list" vs.toArray 0) := Heap.get?_push_size _ rfl
  refine wpAny_bind (wpAny_holding (PySem.W.list_sort_data (enc := fun x : Str => PyData.str x) (bs := bs) (R := IsText) hoL ee (ee.mono fun v b ⟨t, q⟩ => ⟨[], by rw [q]; exact .str _ _, by simp⟩) (PySem.W.AllAlike.of fun _ _ => rfl) (.inr fun d md => ?_) (by rw [bl, vl, sizeLine_eq]; omega) (fun b _ => ?_) fun out lo eo => ?_))
  · obtain ⟨b, _, rfl⟩ := List.mem_map.mp md
    exact ⟨(fun z => nomatch z), fun xs z => nomatch z⟩
  · show A.units + 1 + 1 + 0 < cLine
    omega
  · rw [order_S] at eo
    have eo : PySem.W.EachIs IsText out (sortL bs) := eo
    rw [eq] at eo
    obtain ⟨c, hc⟩ := sortedHeap_at (vs := vs) (out := out.toArray) hoL
    refine wpAny_pure ⟨_, rfl, hQ { s1 with heap := sortedHeap (s1.heap.push (seqObj "list" vs.toArray 0)) s1.heap.objs.size vs out.toArray } s1.heap.objs.size out c (fun b u e => ?_) g1 o1 hz hc eo⟩
    have q := k1 b u e
    have lt := Heap.lt_size q
    show (sortedHeap (s1.heap.push (seqObj "list" vs.toArray 0)) s1.heap.objs.size vs out.toArray).get? b = some u
    rw [sortedHeap_old (Nat.ne_of_lt lt) (by rw [size_push']; exact Nat.lt_succ_of_lt lt)]
    exact Heap.get?_push_of_some _ q
end
section
variable {X : Cx}
theorem call_sortedW (hc : X.calm = true) (hu : X.A.units + 64 < cLine) : CallR X (.builtin "sorted") (rSortedW X.w) := by
  intro pins s σ H vs us Q I r h
  obtain ⟨a, xs, rfl, ha, few, q⟩ := h
  have R : WordsAt X.w s.heap a xs := (I.hok a _ ha).1
  rw [Vals.ref1 r]
  refine sorted_words R (I.ok.hd hc) few hu fun s' p out c k g o hp hg eo => ?_
  have len : ((sortL (onceL xs)).map V.str).length ≤ sizeLine := by
    rw [List.length_map, (sortL_perm _).length_eq, sizeLine_eq]
    have := nat_le_of_sub (once_nd xs) fun x mx => once_mem.mp mx
    omega
  have hn : H p = none := I.hok.fresh hp
  have J : Inv X pins σ (upd H p (.lst ((sortL (onceL xs)).map V.str))) { s with heap := s'.heap, gens := s'.gens, drawn := s'.drawn, toks := s'.toks } :=
    I.call (ch := []) (Un.laid k hp hn) (I.hok.laid k hp ⟨len, out, c, each_texts eo, hg⟩) (by rw [g]; exact I.bare) (fun _ z => nomatch z)
  have e : s' = { s with heap := s'.heap, gens := s'.gens, drawn := s'.drawn, toks := s'.toks } := by
    cases s'
    cases s
    cases o
    rfl
  rw [e]
  exact ⟨.ref p, _, J, rfl, q p hn⟩
end
def tSortLen (K : PySem.W.Frag) (t : TA) : TE := fun σ H Q => t σ H fun vs H1 => ∃ (l : Addr) (xs : List Str), vs = [V.ref l] ∧ SqL K H1 l (xs.map V.str) ∧ (∀ x ∈ xs, x.length ≤ sizeLine) ∧ ∀ p, H1 p = none → Q (.ref p) (upd H1 p (.lst ((sortLL xs).map V.str)))
section
variable {X : Cx} {p p2 pos kpos : Pos} {e : Expr} {t : TA}
theorem pe_sortLen (hu : X.A.units + 64 < cLine) (hg : Gl X "sorted") (hm : X.mg "sorted" = none) (hg2 : Gl X "len") (hm2 : X.mg "len" = none) (ha : PA X [e] t)
    (he : backTo pos (starEach [e] X.env) = (false, eval e X.env) :: backTo pos (starEach [] X.env) := by rfl) (hpl : (backTo pos (starEach [e] X.env)).any (·.1) = false := by rfl)
    (hall : (backToKw pos (keywordEach [⟨some "key", .Name "len" p2, kpos⟩] X.env)).all (·.1.isSome) = true := by rfl) (hnone : (backToKw pos (keywordEach [⟨some "key", .Name "len" p2, kpos⟩] X.env)).any (·.1.isNone) = false := by rfl)
    (hks : (backToKw pos (keywordEach [⟨some "key", .Name "len" p2, kpos⟩] X.env)).filterMap (·.1) = [Str.ofString "key"] := by rfl) :
    PE X (.Call (.Name "sorted" p) [e] [⟨some "key", .Name "len" p2, kpos⟩] pos) (tSortLen X.K t) := by
  refine ⟨fun pins s σ H Q I h => ?_⟩
  refine wpAny_Call_Name_kw (ld_blt I hg hm boot_sorted ?_ (by decide) (by decide))
  refine PyProof.Rows.callWith_kw (thn (ha.run pos pins s σ H _ I h) fun us s1 ⟨vs, H1, I1, r1, q1⟩ => ?_) he hpl hall hnone
  show wpAny _ _ (evalAll ((do let v ← eval (.Name "len" p2) X.env; standAt pos; pure v) :: [])) _ _ s1
  refine wpAny_evalAll_cons (wpAny_bind (ld_blt I1 hg2 hm2 boot_len (wpAny_bind (wpAny_standAt (wpAny_pure (wpAny_evalAll_nil ?_)))) (by decide) (by decide)))
  rw [hks]
  obtain ⟨l, xs, rfl, hl, hx, q⟩ := q1
  rw [Vals.ref1 r1]
  obtain ⟨its, rv, pl, hz⟩ := I1.list hl
  have ll : (xs.map V.str).length = its.length := rv.length
  rw [List.length_map] at ll
  show wpAny _ _ (call (.builtin "sorted") [.ref l] [(Str.ofString "key", .builtin "len")]) _ _ s1
  refine PySem.W.sorted_key_data (b := false) (fun x : Str => PyData.int (x.length : Int)) pl.isList (texts_each rv) (PySem.W.AllAlike.of fun _ _ => rfl) (.inr fun d md => ?_) (by rw [ll]; rw [← rv.length]; exact hz) (fun x _ => ?_) (ksk_s1 _ _) (fun _ => ksk_l1 _ _) (fun _ => ksk_t4 _ _)
    (fun v x ⟨t, q⟩ mx h tk kp => ?_) fun out c h' tk kp fr hD lo eo => ?_
  · obtain ⟨b, _, rfl⟩ := List.mem_map.mp md
    exact ⟨(fun z => nomatch z), fun xs z => nomatch z⟩
  · show X.A.units + 2 + 0 < cLine
    omega
  · rw [q]
    have hl := hx x mx
    rw [sizeLine_eq] at hl
    refine len_str (by omega) ⟨_, _, rfl, fun _ _ e => e, .int _ _⟩
  · rw [order_L] at eo
    have eo : PySem.W.EachIs IsText out (sortLL xs) := eo
    have len : ((sortLL xs).map V.str).length ≤ sizeLine := by
      rw [List.length_map] at hz ⊢
      show (xs.mergeSort leL).length ≤ _
      rw [(List.mergeSort_perm xs leL).length_eq]
      exact hz
    exact ⟨.ref _, upd H1 (s1.heap.objs.size + 1) (.lst ((sortLL xs).map V.str)), I1.laid (t' := tk) kp (Nat.le_succ _) ⟨len, out, c, each_texts eo, hD⟩, rfl, q _ (I1.hok.fresh (Nat.le_succ _))⟩
end
def ssetE (fa : S → ER Vl) : S → ER Vl := fun s => (fa s).bind fun a s1 => match rd s1 a with
  | some (.list ds) => (match strsOf ds with
    | some xs => if xs.length ≤ 4000 then .ok (.o true (.L ((sortL (onceL xs)).map .str))) s1 else .no
    | none => .no)
  | _ => .no
def slenE (fa : S → ER Vl) : S → ER Vl := fun s => (fa s).bind fun a s1 => match rd s1 a with
  | some (.list ds) => (match strsOf ds with
    | some xs => .ok (.o true (.L ((sortLL xs).map .str))) s1
    | none => .no)
  | _ => .no
section
variable {X : Cx} {K : PySem.W.Frag} {xi : XI} {W : WX} {e : Expr} {fa : S → ER Vl} {pos p p2 pos2 kpos : Pos}
theorem re_sset (hc : X.calm = true) (hu : X.A.units + 64 < cLine) (hg : Gl X "sorted") (hm : X.mg "sorted" = none) (hg2 : Gl X "set") (hm2 : X.mg "set" = none) (ha : PE X e (tE K xi W fa)) (hw : X.w = Wd.w := by rfl) (hK : X.K = K := by rfl)
    (he2 : starEach [e] X.env = (false, eval e X.env) :: starEach [] X.env := by rfl) (he : starEach [.Call (.Name "set" p2) [e] [] pos2] X.env = (false, eval (.Call (.Name "set" p2) [e] [] pos2) X.env) :: starEach [] X.env := by rfl)
    (hpl2 : (backTo pos2 (starEach [] X.env)).any (·.1) = false := by rfl) (hpl : (backTo pos (starEach [] X.env)).any (·.1) = false := by rfl) : PE X (.Call (.Name "sorted" p) [.Call (.Name "set" p2) [e] [] pos2] [] pos) (tE K xi W (ssetE fa)) := by
  subst hK
  refine PE.mono (pe_callB (call_sortedW hc hu) hg hm boot_sorted (pa_cons (pe_callTy (call_setW hc) hg2 hm2 boot_set (pa_cons ha pa_nil (hs := he2)) (by decide) (by decide) he2 hpl2) pa_nil (hs := he)) (by decide) (by decide) he hpl) fun σ H Q h => ?_
  obtain ⟨G, s, R, h⟩ := h
  refine ⟨G, s, R, Po.bindU .refl h fun va s1 _ v G1 H1 t1 R1 ra h1 => ?_⟩
  cases er : rd s1 va with
  | none => rw [er] at h1; exact h1.elim
  | some d =>
    rw [er] at h1
    have r := rd_ok R1 ra er
    cases d with
    | list ds =>
      cases es : strsOf ds with
      | none => simp only [es] at h1; exact h1.elim
      | some xs =>
        simp only [es] at h1
        split at h1
        · rename_i few
          cases r with
          | @lst a vs _ w1 w2 =>
            obtain ⟨rfl, rfl, lens⟩ := strsOf_all es w2
            refine ⟨a, xs, rfl, .inl (.inl w1), by show xs.length + 1 < 4096; omega, fun q hq => ⟨q, xs, rfl, upd_same, few, fun q2 hq2 => ?_⟩⟩
            have R2 := rep_new (o := WordsO X.w q xs) R1 hq (.inl rfl)
            have t2 := stp_new (o := WordsO X.w q xs) R1 hq (.inl rfl)
            refine Ext.fin (.lst hq2 (all_strs fun y my => ?_)) R2 (Po.shift (t1.trans t2) backs_V h1)
            exact lens y (once_mem.mp ((sortL_perm _).mem_iff.mp my))
        · exact h1.elim
    | _ => exact h1.elim
theorem re_slen (hu : X.A.units + 64 < cLine) (hg : Gl X "sorted") (hm : X.mg "sorted" = none) (hg2 : Gl X "len") (hm2 : X.mg "len" = none) (ha : PE X e (tE K xi W fa)) (hK : X.K = K := by rfl)
    (he0 : starEach [e] X.env = (false, eval e X.env) :: starEach [] X.env := by rfl)
    (he : backTo pos (starEach [e] X.env) = (false, eval e X.env) :: backTo pos (starEach [] X.env) := by rfl) (hpl : (backTo pos (starEach [e] X.env)).any (·.1) = false := by rfl)
    (hall : (backToKw pos (keywordEach [⟨some "key", .Name "len" p2, kpos⟩] X.env)).all (·.1.isSome) = true := by rfl) (hnone : (backToKw pos (keywordEach [⟨some "key", .Name "len" p2, kpos⟩] X.env)).any (·.1.isNone) = false := by rfl)
    (hks : (backToKw pos (keywordEach [⟨some "key", .Name "len" p2, kpos⟩] X.env)).filterMap (·.1) = [Str.ofString "key"] := by rfl) :
    PE X (.Call (.Name "sorted" p) [e] [⟨some "key", .Name "len" p2, kpos⟩] pos) (tE K xi W (slenE fa)) := by
  subst hK
  refine PE.mono (pe_sortLen hu hg hm hg2 hm2 (pa_cons ha pa_nil (hs := he0)) he hpl hall hnone hks) fun σ H Q h => ?_
  obtain ⟨G, s, R, h⟩ := h
  refine ⟨G, s, R, Po.bindU .refl h fun va s1 _ v G1 H1 t1 R1 ra h1 => ?_⟩
  cases er : rd s1 va with
  | none => rw [er] at h1; exact h1.elim
  | some d =>
    rw [er] at h1
    have r := rd_ok R1 ra er
    cases d with
    | list ds =>
      cases es : strsOf ds with
      | none => simp only [es] at h1; exact h1.elim
      | some xs =>
        simp only [es] at h1
        cases r with
        | @lst a vs _ w1 w2 =>
          obtain ⟨rfl, rfl, lens⟩ := strsOf_all es w2
          refine ⟨a, xs, rfl, .inl (.inl w1), lens, fun q hq => ?_⟩
          refine Ext.fin (.lst hq (all_strs fun y my => ?_)) R1 (Po.shift t1 backs_V h1)
          exact lens y ((List.mergeSort_perm xs leL).mem_iff.mp my)
    | _ => exact h1.elim
end
end M
set_option Elab.async false
set_option linter.all false
set_option maxRecDepth 100000
set_option maxHeartbeats 4000000
namespace K
open PySem PySem.Spec L2 Sv M
noncomputable def b_has_at_most_1 : S → Out := (seqS (augS 3 (intD muI) (varE 0))
  (ifS (blT (opE gtD (varE 3) (varE 2)))
  (retS (cE (.bool false)))
  nextS))
noncomputable def b_has_at_most : S → Out := (seqS (setS 3 (cE (.int 1)))
  (seqS (forS (rng1I (consA (varE 1) nilA)) (nmG 4) b_has_at_most_1)
  (retS (cE (.bool true)))))
noncomputable def F_has_at_most : S → ER Vl := fin 5 b_has_at_most
noncomputable def b_words_of_length_1 : S → Out := (setS 3 (lc2E (seqI (shE (varE 3))) (nmG 5) (seqI (shE (varE 2))) (nmG 6) (shE (opE addD (varE 5) (varE 6))) [6] [5, 6]))
noncomputable def b_words_of_length : S → Out := (seqS (setS 2 (callE 1 F_letters_of (consA (shE (varE 0)) nilA)))
  (seqS (ifS (blT (opE ltD (varE 1) (cE (.int 0))))
  (raiS "BadNumber")
  nextS)
  (seqS (ifS (notT (truT (callE 3 F_has_at_most (consA (shE (varE 0)) (consA (shE (varE 1)) (consA (cE (.int 4096)) nilA))))))
  (raiS "BadNumber")
  nextS)
  (seqS (setS 3 (lstE (consA (cE (.str "")) nilA)))
  (seqS (forS (rng1I (consA (varE 1) nilA)) (nmG 4) b_words_of_length_1)
  (retS (varE 3)))))))
noncomputable def F_words_of_length : S → ER Vl := fin 7 b_words_of_length
end K
set_option Elab.async false
set_option linter.all false
set_option maxRecDepth 100000
set_option maxHeartbeats 4000000
namespace K
open PySem PySem.Spec L2 Sv M
section
variable {α β : Type} {i : α → D} {i1 : β → D} {f : α → List β} {h : α → β → D} {g g1 : Tg} {fi1 : S → ER (List D)} {fe : S → ER Vl} {vs vs1 : List Nat}
theorem lc2I_m {hb : β → D} {s0 s1 : S} : ∀ (ys : List β) (acc : List D) (s : S), wipeS s vs1 = wipeS s1 vs1 → vs1.all (plainAt s) = true → restS s0 s vs = s0 → acc.length + ys.length ≤ 16777216 →
    (∀ b ∈ ys, ∃ s4, g1 (i1 b) (wipeS s1 vs1) = some s4 ∧ fe s4 = .ok (.d (hb b)) s4 ∧ wipeS s4 vs1 = wipeS s1 vs1 ∧ vs1.all (plainAt s4) = true ∧ restS s0 s4 vs = s0) →
    ∃ s', lc2I g1 fe vs1 (ys.map i1) acc s = .ok (acc ++ ys.map hb) s' ∧ restS s0 s' vs = s0
  | [], acc, s, _, _, hr, _, _ => ⟨s, by simp [lc2I], hr⟩
  | y :: ys, acc, s, hw, hp, hr, hl, h => by
    rw [List.length_cons] at hl
    obtain ⟨s4, h1, h2, h3, h4, h5⟩ := h y List.mem_cons_self
    obtain ⟨s', e1, e2⟩ := lc2I_m (s0 := s0) (s1 := s1) ys (acc ++ [hb y]) s4 h3 h4 h5 (by rw [List.length_append]; show acc.length + 1 + _ ≤ _; omega) fun b m => h b (List.mem_cons_of_mem _ m)
    refine ⟨s', ?_, e2⟩
    rw [List.map_cons]
    unfold lc2I
    rw [if_pos hp, hw, h1]
    show (match fe s4 with | .ok (.d x) s2 => if acc.length < 16777216 then lc2I g1 fe vs1 (ys.map i1) (acc ++ [x]) s2 else .no | _ => .no) = _
    rw [h2]
    show (if acc.length < 16777216 then lc2I g1 fe vs1 (ys.map i1) (acc ++ [hb y]) s4 else .no) = _
    rw [if_pos (by omega), e1, List.append_assoc]
    rfl
theorem lc2L_m {s : S} : ∀ (xs : List α) (acc : List D), acc.length + (xs.flatMap f).length ≤ 16777216 →
    (∀ a ∈ xs, ∃ s1, g (i a) (wipeS s vs) = some s1 ∧ fi1 s1 = .ok ((f a).map i1) s1 ∧ vs1.all (plainAt s1) = true ∧ restS s s1 vs = s ∧
      ∀ b ∈ f a, ∃ s4, g1 (i1 b) (wipeS s1 vs1) = some s4 ∧ fe s4 = .ok (.d (h a b)) s4 ∧ wipeS s4 vs1 = wipeS s1 vs1 ∧ vs1.all (plainAt s4) = true ∧ restS s s4 vs = s) →
    lc2L g fi1 g1 fe vs1 vs (xs.map i) acc s = .ok (.o true (.L (acc ++ xs.flatMap fun a => (f a).map (h a)))) s
  | [], acc, _, _ => by simp [lc2L]
  | a :: xs, acc, hl, hh => by
    rw [List.flatMap_cons, List.length_append] at hl
    obtain ⟨s1, h1, h2, h3, h4, h5⟩ := hh a List.mem_cons_self
    obtain ⟨s', e1, e2⟩ := lc2I_m (s0 := s) (s1 := s1) (vs := vs) (hb := h a) (f a) acc s1 rfl h3 h4 (by omega) h5
    have ih := lc2L_m xs (acc ++ (f a).map (h a)) (by rw [List.length_append, List.length_map]; omega) fun b m => hh b (List.mem_cons_of_mem _ m)
    rw [List.map_cons]
    unfold lc2L
    rw [h1]
    show (match fi1 s1 with
      | .ok items s2 => (match lc2I g1 fe vs1 items acc s2 with
        | .ok acc2 s3 => lc2L g fi1 g1 fe vs1 vs (xs.map i) acc2 (restS s s3 vs)
        | _ => .no)
      | _ => .no) = _
    rw [h2]
    show (match lc2I g1 fe vs1 ((f a).map i1) acc s1 with
        | .ok acc2 s3 => lc2L g fi1 g1 fe vs1 vs (xs.map i) acc2 (restS s s3 vs)
        | _ => .no) = _
    rw [e1]
    show lc2L g fi1 g1 fe vs1 vs (xs.map i) (acc ++ (f a).map (h a)) (restS s s' vs) = _
    rw [e2, ih, List.flatMap_cons, List.append_assoc]
end
def wl (k : Int) : Nat → List Str
  | 0 => [""]
  | n + 1 => (wl k n).flatMap fun w => (letters k).cps.toList.map fun c => w ++ tx [c]
theorem wl_len {k : Int} : ∀ {n : Nat} {w : Str}, w ∈ wl k n → w.length = n
  | 0, w, h => by rw [List.mem_singleton.mp h]; rfl
  | n + 1, w, h => by
    obtain ⟨v, hv, hw⟩ := List.mem_flatMap.mp h
    obtain ⟨c, _, rfl⟩ := List.mem_map.mp hw
    have := wl_len hv
    conv => lhs; rw [tx_of v, tx_add, tx_len, List.length_append, Array.length_toList]
    show v.length + 1 = n + 1
    rw [this]
theorem wl_size (k : Int) : ∀ n : Nat, (wl k n).length ≤ 6 ^ n
  | 0 => Nat.le_refl _
  | n + 1 => by
    have ih := wl_size k n
    have l6 : (letters k).cps.toList.length ≤ 6 := by rw [Array.length_toList]; exact letters_len k
    have : ∀ ws : List Str, (ws.flatMap fun w => (letters k).cps.toList.map fun c => w ++ tx [c]).length ≤ ws.length * 6 := fun ws => by
      induction ws with
      | nil => exact Nat.le_refl _
      | cons w ws ih2 =>
        rw [List.flatMap_cons, List.length_append, List.length_map, List.length_cons]
        omega
    have h := this (wl k n)
    show (List.flatMap _ (wl k n)).length ≤ 6 ^ n * 6
    omega
theorem has_at_most_c {k : Int} (a : 2 ≤ k) (b : k ≤ 6) {n : Nat} (hn : n ≤ 4) (s : S) : call1 3 F_has_at_most [.d (.int k), .d (.int ((n : Nat) : Int)), .d (.int 4096)] s = .ok (.d (.bool true)) s := by
  refine call_rt (ds := [.int k, .int ((n : Nat) : Int), .int 4096]) rfl ?_
  obtain ⟨s', e1, v, x, rfl, h1, h2⟩ := forL_n (g := nmG 4) (b := b_has_at_most_1) (i := fun j : Nat => .int ((j : Nat) : Int)) (xs := List.range n)
    (s := [some (.d (.int k)), some (.d (.int ((n : Nat) : Int))), some (.d (.int 4096)), some (.d (.int 1)), none])
    (St := fun m s => ∃ (v : Int) (x : Option D), s = [some (.d (.int k)), some (.d (.int ((n : Nat) : Int))), some (.d (.int 4096)), some (.d (.int v)), dv x] ∧ 1 ≤ v ∧ v ≤ ((6 ^ m : Nat) : Int))
    ⟨1, none, rfl, by decide, by decide⟩ (by
      rintro m j em s ⟨v, x, rfl, g1, g2⟩
      have hm : m < n := by
        have := (List.getElem?_eq_some_iff.mp em).1
        rw [List.length_range] at this
        exact this
      have p1 : 6 ^ m ≤ 6 ^ 3 := Nat.pow_le_pow_right (by decide) (by omega)
      have p1 : 6 ^ m ≤ 216 := p1
      have p2 : 6 ^ (m + 1) = 6 ^ m * 6 := Nat.pow_succ _ _
      have v1 : v * k ≤ v * 6 := Int.mul_le_mul_of_nonneg_left b (by omega)
      have v2 : v * 2 ≤ v * k := Int.mul_le_mul_of_nonneg_left a (by omega)
      have bv : bits64 v = true := decide_eq_true (by omega)
      have mu : muI v k = some (v * k) := if_pos bv
      refine ⟨[some (.d (.int k)), some (.d (.int ((n : Nat) : Int))), some (.d (.int 4096)), some (.d (.int (v * k))), some (.d (.int ((j : Nat) : Int)))], .inl ?_, v * k, some (.int ((j : Nat) : Int)), rfl, by omega, by rw [p2]; omega⟩
      have gt : decide (v * k > 4096) = false := decide_eq_false (by omega)
      simp only [b_has_at_most_1, Gv, Gio, ins, List.map_cons, List.map_nil, List.length_cons, List.length_nil, Nat.sub_self, List.replicate_zero, List.append_nil, List.nil_append, List.cons_append, List.replicate_succ, Nat.reduceSub, Nat.reduceAdd, retS, retN, ret1, setS, sto, stoO, freeAt, free_dv, dv_some, dv_none, free_d, free_n, free_o, plain_dv, plain_dd, plain_n, dropS, seqS, ifS, raiS, nextS, brkS, cntS, unpS, tpG, itsOf, bindAll, optO, nmG, augS, chE, bind_ok, bind_er, out_ok, out_er, seq_nx, seq_rt, seq_er, seq_bk, seq_ct, ite_and, ite_or, ite_and2, ite_or2, ite_andB, ite_orB, cE, varE, shE, shr, bi2, un1, opE, unE, rd, List.getElem?_cons_zero, List.getElem?_cons_succ, List.set_cons_zero, List.set_cons_succ, leD, ltD, gtD, geD, cmpD, eqD_str, neD_str, eqD_int, neD_int, inD_sign, isD, isNone, ifB, caE, consA, nilA, ca1, rdAll, dAll, lenD, intF, tupF, lstF, Option.map_some, Option.map_none, Option.bind_some, addD, intD, subI, modI, divI, adI, negD, mulD, revND, revD, tupE, lstE, mtE, okTy, isStr, isLst, stripF, callE, callI, truT, tru1, tru, truD, blT, notT, andT, orT, ifE, notE, andE, orE, if_true, Bool.not_true, Bool.not_false, Bool.true_and, Bool.and_true, Bool.false_and, Bool.or_false, Bool.false_or, Bool.true_or, Bool.or_true, Bool.and_false, Bool.false_xor, Bool.true_xor, slE, noP, someP, sl1, slD, seqI, its1, optI, forS, turn, lcE, wipeS, restS, plainAt, List.getD_cons_zero, List.getD_cons_succ, List.all_cons, List.all_nil, muE, mu1, lstAt, dArgs, appF, popF, rvsF, extF, rng1I, rng2I, enI, zipI, zip2, starA, subS, decide_true, decide_false, Int.reduceLT, Int.reduceLE, Nat.reduceLT, Nat.reduceLeDiff, true_and, and_true, Bool.false_eq_true, if_false, ite_true, ite_false, reduceIte, reduceCtorEq, Option.some.injEq, mu, gt])
  have hsm : smI ((n : Nat) : Int) = true := smI_of (by omega) (by omega)
  simp only [b_has_at_most, Gv, Gio, ins, List.map_cons, List.map_nil, List.length_cons, List.length_nil, Nat.sub_self, List.replicate_zero, List.append_nil, List.nil_append, List.cons_append, List.replicate_succ, Nat.reduceSub, Nat.reduceAdd, retS, retN, ret1, setS, sto, stoO, freeAt, free_dv, dv_some, dv_none, free_d, free_n, free_o, plain_dv, plain_dd, plain_n, dropS, seqS, ifS, raiS, nextS, brkS, cntS, unpS, tpG, itsOf, bindAll, optO, nmG, augS, chE, bind_ok, bind_er, out_ok, out_er, seq_nx, seq_rt, seq_er, seq_bk, seq_ct, ite_and, ite_or, ite_and2, ite_or2, ite_andB, ite_orB, cE, varE, shE, shr, bi2, un1, opE, unE, rd, List.getElem?_cons_zero, List.getElem?_cons_succ, List.set_cons_zero, List.set_cons_succ, leD, ltD, gtD, geD, cmpD, eqD_str, neD_str, eqD_int, neD_int, inD_sign, isD, isNone, ifB, caE, consA, nilA, ca1, rdAll, dAll, lenD, intF, tupF, lstF, Option.map_some, Option.map_none, Option.bind_some, addD, intD, subI, modI, divI, adI, negD, mulD, revND, revD, tupE, lstE, mtE, okTy, isStr, isLst, stripF, callE, callI, truT, tru1, tru, truD, blT, notT, andT, orT, ifE, notE, andE, orE, if_true, Bool.not_true, Bool.not_false, Bool.true_and, Bool.and_true, Bool.false_and, Bool.or_false, Bool.false_or, Bool.true_or, Bool.or_true, Bool.and_false, Bool.false_xor, Bool.true_xor, slE, noP, someP, sl1, slD, seqI, its1, optI, forS, turn, lcE, wipeS, restS, plainAt, List.getD_cons_zero, List.getD_cons_succ, List.all_cons, List.all_nil, muE, mu1, lstAt, dArgs, appF, popF, rvsF, extF, rng1I, rng2I, enI, zipI, zip2, starA, subS, decide_true, decide_false, Int.reduceLT, Int.reduceLE, Nat.reduceLT, Nat.reduceLeDiff, true_and, and_true, Bool.false_eq_true, if_false, ite_true, ite_false, reduceIte, reduceCtorEq, Option.some.injEq, hsm, rng_zero, Int.toNat_natCast]
  rw [e1]
  exact ⟨_, rfl⟩
theorem words_of_length_c {k : Int} (a : 2 ≤ k) (b : k ≤ 6) {n : Nat} (hn : n ≤ 4) (s : S) : call1 2 F_words_of_length [.d (.int k), .d (.int ((n : Nat) : Int))] s = .ok (.o true (.L ((wl k n).map .str))) s := by
  have nk := numOk_of a b
  refine call_ob (ds := [.int k, .int ((n : Nat) : Int)]) rfl ?_
  have ham := fun s => has_at_most_c a b hn s
  have z1 : (1 : Nat) ≤ 16777216 := by decide
  obtain ⟨s', e1, x, rfl⟩ := forL_n (g := nmG 4) (b := b_words_of_length_1) (i := fun j : Nat => .int ((j : Nat) : Int)) (xs := List.range n)
    (s := [some (.d (.int k)), some (.d (.int ((n : Nat) : Int))), some (.d (.str (letters k))), some (.o true (.L [.str ""])), none, none, none])
    (St := fun m s => ∃ x : Option D, s = [some (.d (.int k)), some (.d (.int ((n : Nat) : Int))), some (.d (.str (letters k))), some (.o true (.L ((wl k m).map .str))), dv x, none, none])
    ⟨none, rfl⟩ (by
      rintro m j em s ⟨x, rfl⟩
      have hm : m < n := by
        have := (List.getElem?_eq_some_iff.mp em).1
        rw [List.length_range] at this
        exact this
      have p1 : 6 ^ (m + 1) ≤ 6 ^ 4 := Nat.pow_le_pow_right (by decide) (by omega)
      have p1 : 6 ^ (m + 1) ≤ 1296 := p1
      have ws := wl_size k (m + 1)
      refine ⟨[some (.d (.int k)), some (.d (.int ((n : Nat) : Int))), some (.d (.str (letters k))), some (.o true (.L ((wl k (m + 1)).map .str))), some (.d (.int ((j : Nat) : Int))), none, none], .inl ?_, some (.int ((j : Nat) : Int)), rfl⟩
      have hz : ((wl k m).flatMap fun _ => (letters k).cps.toList).length = (wl k (m + 1)).length := by
        show _ = (List.flatMap _ (wl k m)).length
        rw [List.length_flatMap, List.length_flatMap]
        simp only [List.length_map]
      have lc := lc2L_m (i := PyData.str) (i1 := fun c : Nat => PyData.str (tx [c])) (f := fun _ : Str => (letters k).cps.toList) (h := fun w c => .str (w ++ tx [c])) (g := nmG 5) (g1 := nmG 6) (fi1 := seqI (shE (varE 2))) (fe := shE (opE addD (varE 5) (varE 6))) (vs := [5, 6]) (vs1 := [6])
        (s := [some (.d (.int k)), some (.d (.int ((n : Nat) : Int))), some (.d (.str (letters k))), some (.d (.list ((wl k m).map .str))), some (.d (.int ((j : Nat) : Int))), none, none]) (wl k m) [] (by rw [hz, List.length_nil]; omega) (fun w mw => by
          have lw := wl_len mw
          refine ⟨[some (.d (.int k)), some (.d (.int ((n : Nat) : Int))), some (.d (.str (letters k))), some (.d (.list ((wl k m).map .str))), some (.d (.int ((j : Nat) : Int))), some (.d (.str w)), none], rfl, ?_, rfl, rfl, fun c mc => ⟨[some (.d (.int k)), some (.d (.int ((n : Nat) : Int))), some (.d (.str (letters k))), some (.d (.list ((wl k m).map .str))), some (.d (.int ((j : Nat) : Int))), some (.d (.str w)), some (.d (.str (tx [c])))], rfl, ?_, rfl, rfl, rfl⟩⟩
          · simp only [Gv, Gio, ins, List.map_cons, List.map_nil, List.length_cons, List.length_nil, Nat.sub_self, List.replicate_zero, List.append_nil, List.nil_append, List.cons_append, List.replicate_succ, Nat.reduceSub, Nat.reduceAdd, retS, retN, ret1, setS, sto, stoO, freeAt, free_dv, dv_some, dv_none, free_d, free_n, free_o, plain_dv, plain_dd, plain_n, dropS, seqS, ifS, raiS, nextS, brkS, cntS, unpS, tpG, itsOf, bindAll, optO, nmG, augS, chE, bind_ok, bind_er, out_ok, out_er, seq_nx, seq_rt, seq_er, seq_bk, seq_ct, ite_and, ite_or, ite_and2, ite_or2, ite_andB, ite_orB, cE, varE, shE, shr, bi2, un1, opE, unE, rd, List.getElem?_cons_zero, List.getElem?_cons_succ, List.set_cons_zero, List.set_cons_succ, leD, ltD, gtD, geD, cmpD, eqD_str, neD_str, eqD_int, neD_int, inD_sign, isD, isNone, ifB, caE, consA, nilA, ca1, rdAll, dAll, lenD, intF, tupF, lstF, Option.map_some, Option.map_none, Option.bind_some, addD, intD, subI, modI, divI, adI, negD, mulD, revND, revD, tupE, lstE, mtE, okTy, isStr, isLst, stripF, callE, callI, truT, tru1, tru, truD, blT, notT, andT, orT, ifE, notE, andE, orE, if_true, Bool.not_true, Bool.not_false, Bool.true_and, Bool.and_true, Bool.false_and, Bool.or_false, Bool.false_or, Bool.true_or, Bool.or_true, Bool.and_false, Bool.false_xor, Bool.true_xor, slE, noP, someP, sl1, slD, seqI, its1, optI, forS, turn, lcE, wipeS, restS, plainAt, List.getD_cons_zero, List.getD_cons_succ, List.all_cons, List.all_nil, muE, mu1, lstAt, dArgs, appF, popF, rvsF, extF, rng1I, rng2I, enI, zipI, zip2, starA, subS, decide_true, decide_false, Int.reduceLT, Int.reduceLE, Nat.reduceLT, Nat.reduceLeDiff, true_and, and_true, Bool.false_eq_true, if_false, ite_true, ite_false, reduceIte, reduceCtorEq, Option.some.injEq, items_str]
          · have z : w.length + (tx [c]).length ≤ 16777216 := by rw [lw]; show m + 1 ≤ _; omega
            simp only [Gv, Gio, ins, List.map_cons, List.map_nil, List.length_cons, List.length_nil, Nat.sub_self, List.replicate_zero, List.append_nil, List.nil_append, List.cons_append, List.replicate_succ, Nat.reduceSub, Nat.reduceAdd, retS, retN, ret1, setS, sto, stoO, freeAt, free_dv, dv_some, dv_none, free_d, free_n, free_o, plain_dv, plain_dd, plain_n, dropS, seqS, ifS, raiS, nextS, brkS, cntS, unpS, tpG, itsOf, bindAll, optO, nmG, augS, chE, bind_ok, bind_er, out_ok, out_er, seq_nx, seq_rt, seq_er, seq_bk, seq_ct, ite_and, ite_or, ite_and2, ite_or2, ite_andB, ite_orB, cE, varE, shE, shr, bi2, un1, opE, unE, rd, List.getElem?_cons_zero, List.getElem?_cons_succ, List.set_cons_zero, List.set_cons_succ, leD, ltD, gtD, geD, cmpD, eqD_str, neD_str, eqD_int, neD_int, inD_sign, isD, isNone, ifB, caE, consA, nilA, ca1, rdAll, dAll, lenD, intF, tupF, lstF, Option.map_some, Option.map_none, Option.bind_some, addD, intD, subI, modI, divI, adI, negD, mulD, revND, revD, tupE, lstE, mtE, okTy, isStr, isLst, stripF, callE, callI, truT, tru1, tru, truD, blT, notT, andT, orT, ifE, notE, andE, orE, if_true, Bool.not_true, Bool.not_false, Bool.true_and, Bool.and_true, Bool.false_and, Bool.or_false, Bool.false_or, Bool.true_or, Bool.or_true, Bool.and_false, Bool.false_xor, Bool.true_xor, slE, noP, someP, sl1, slD, seqI, its1, optI, forS, turn, lcE, wipeS, restS, plainAt, List.getD_cons_zero, List.getD_cons_succ, List.all_cons, List.all_nil, muE, mu1, lstAt, dArgs, appF, popF, rvsF, extF, rng1I, rng2I, enI, zipI, zip2, starA, subS, decide_true, decide_false, Int.reduceLT, Int.reduceLE, Nat.reduceLT, Nat.reduceLeDiff, true_and, and_true, Bool.false_eq_true, if_false, ite_true, ite_false, reduceIte, reduceCtorEq, Option.some.injEq, z])
      have ef : ((wl k m).flatMap fun a => (letters k).cps.toList.map fun c => PyData.str (a ++ tx [c])) = (wl k (m + 1)).map .str := by
        show _ = (List.flatMap _ (wl k m)).map PyData.str
        rw [List.map_flatMap]
        simp only [List.map_map]
        rfl
      simp only [List.nil_append, ef] at lc
      have hi : itemsD (.list ((wl k m).map PyData.str)) = some ((wl k m).map PyData.str) := rfl
      simp only [b_words_of_length_1, Gv, Gio, ins, List.map_cons, List.map_nil, List.length_cons, List.length_nil, Nat.sub_self, List.replicate_zero, List.append_nil, List.nil_append, List.cons_append, List.replicate_succ, Nat.reduceSub, Nat.reduceAdd, retS, retN, ret1, setS, sto, stoO, freeAt, free_dv, dv_some, dv_none, free_d, free_n, free_o, plain_dv, plain_dd, plain_n, dropS, seqS, ifS, raiS, nextS, brkS, cntS, unpS, tpG, itsOf, bindAll, optO, nmG, augS, chE, bind_ok, bind_er, out_ok, out_er, seq_nx, seq_rt, seq_er, seq_bk, seq_ct, ite_and, ite_or, ite_and2, ite_or2, ite_andB, ite_orB, cE, varE, shE, shr, bi2, un1, opE, unE, rd, List.getElem?_cons_zero, List.getElem?_cons_succ, List.set_cons_zero, List.set_cons_succ, leD, ltD, gtD, geD, cmpD, eqD_str, neD_str, eqD_int, neD_int, inD_sign, isD, isNone, ifB, caE, consA, nilA, ca1, rdAll, dAll, lenD, intF, tupF, lstF, Option.map_some, Option.map_none, Option.bind_some, addD, intD, subI, modI, divI, adI, negD, mulD, revND, revD, tupE, lstE, mtE, okTy, isStr, isLst, stripF, callE, callI, truT, tru1, tru, truD, blT, notT, andT, orT, ifE, notE, andE, orE, if_true, Bool.not_true, Bool.not_false, Bool.true_and, Bool.and_true, Bool.false_and, Bool.or_false, Bool.false_or, Bool.true_or, Bool.or_true, Bool.and_false, Bool.false_xor, Bool.true_xor, slE, noP, someP, sl1, slD, seqI, its1, optI, forS, turn, lcE, wipeS, restS, plainAt, List.getD_cons_zero, List.getD_cons_succ, List.all_cons, List.all_nil, muE, mu1, lstAt, dArgs, appF, popF, rvsF, extF, rng1I, rng2I, enI, zipI, zip2, starA, subS, decide_true, decide_false, Int.reduceLT, Int.reduceLE, Nat.reduceLT, Nat.reduceLeDiff, true_and, and_true, Bool.false_eq_true, if_false, ite_true, ite_false, reduceIte, reduceCtorEq, Option.some.injEq, lc2E, hi]
      rw [lc]
      simp only [Gv, Gio, ins, List.map_cons, List.map_nil, List.length_cons, List.length_nil, Nat.sub_self, List.replicate_zero, List.append_nil, List.nil_append, List.cons_append, List.replicate_succ, Nat.reduceSub, Nat.reduceAdd, retS, retN, ret1, setS, sto, stoO, freeAt, free_dv, dv_some, dv_none, free_d, free_n, free_o, plain_dv, plain_dd, plain_n, dropS, seqS, ifS, raiS, nextS, brkS, cntS, unpS, tpG, itsOf, bindAll, optO, nmG, augS, chE, bind_ok, bind_er, out_ok, out_er, seq_nx, seq_rt, seq_er, seq_bk, seq_ct, ite_and, ite_or, ite_and2, ite_or2, ite_andB, ite_orB, cE, varE, shE, shr, bi2, un1, opE, unE, rd, List.getElem?_cons_zero, List.getElem?_cons_succ, List.set_cons_zero, List.set_cons_succ, leD, ltD, gtD, geD, cmpD, eqD_str, neD_str, eqD_int, neD_int, inD_sign, isD, isNone, ifB, caE, consA, nilA, ca1, rdAll, dAll, lenD, intF, tupF, lstF, Option.map_some, Option.map_none, Option.bind_some, addD, intD, subI, modI, divI, adI, negD, mulD, revND, revD, tupE, lstE, mtE, okTy, isStr, isLst, stripF, callE, callI, truT, tru1, tru, truD, blT, notT, andT, orT, ifE, notE, andE, orE, if_true, Bool.not_true, Bool.not_false, Bool.true_and, Bool.and_true, Bool.false_and, Bool.or_false, Bool.false_or, Bool.true_or, Bool.or_true, Bool.and_false, Bool.false_xor, Bool.true_xor, slE, noP, someP, sl1, slD, seqI, its1, optI, forS, turn, lcE, wipeS, restS, plainAt, List.getD_cons_zero, List.getD_cons_succ, List.all_cons, List.all_nil, muE, mu1, lstAt, dArgs, appF, popF, rvsF, extF, rng1I, rng2I, enI, zipI, zip2, starA, subS, decide_true, decide_false, Int.reduceLT, Int.reduceLE, Nat.reduceLT, Nat.reduceLeDiff, true_and, and_true, Bool.false_eq_true, if_false, ite_true, ite_false, reduceIte, reduceCtorEq, Option.some.injEq])
  have hsm : smI ((n : Nat) : Int) = true := smI_of (by omega) (by omega)
  have ng : decide (((n : Nat) : Int) < 0) = false := decide_eq_false (by omega)
  have e1 : forL (nmG 4) b_words_of_length_1 ((List.range n).map fun j : Nat => PyData.int ((j : Nat) : Int)) [some (.d (.int k)), some (.d (.int ((n : Nat) : Int))), some (.d (.str (letters k))), some (.o true (.L [.str ""])), none, none, none] = _ := e1
  simp only [b_words_of_length, Gv, Gio, ins, List.map_cons, List.map_nil, List.length_cons, List.length_nil, Nat.sub_self, List.replicate_zero, List.append_nil, List.nil_append, List.cons_append, List.replicate_succ, Nat.reduceSub, Nat.reduceAdd, retS, retN, ret1, setS, sto, stoO, freeAt, free_dv, dv_some, dv_none, free_d, free_n, free_o, plain_dv, plain_dd, plain_n, dropS, seqS, ifS, raiS, nextS, brkS, cntS, unpS, tpG, itsOf, bindAll, optO, nmG, augS, chE, bind_ok, bind_er, out_ok, out_er, seq_nx, seq_rt, seq_er, seq_bk, seq_ct, ite_and, ite_or, ite_and2, ite_or2, ite_andB, ite_orB, cE, varE, shE, shr, bi2, un1, opE, unE, rd, List.getElem?_cons_zero, List.getElem?_cons_succ, List.set_cons_zero, List.set_cons_succ, leD, ltD, gtD, geD, cmpD, eqD_str, neD_str, eqD_int, neD_int, inD_sign, isD, isNone, ifB, caE, consA, nilA, ca1, rdAll, dAll, lenD, intF, tupF, lstF, Option.map_some, Option.map_none, Option.bind_some, addD, intD, subI, modI, divI, adI, negD, mulD, revND, revD, tupE, lstE, mtE, okTy, isStr, isLst, stripF, callE, callI, truT, tru1, tru, truD, blT, notT, andT, orT, ifE, notE, andE, orE, if_true, Bool.not_true, Bool.not_false, Bool.true_and, Bool.and_true, Bool.false_and, Bool.or_false, Bool.false_or, Bool.true_or, Bool.or_true, Bool.and_false, Bool.false_xor, Bool.true_xor, slE, noP, someP, sl1, slD, seqI, its1, optI, forS, turn, lcE, wipeS, restS, plainAt, List.getD_cons_zero, List.getD_cons_succ, List.all_cons, List.all_nil, muE, mu1, lstAt, dArgs, appF, popF, rvsF, extF, rng1I, rng2I, enI, zipI, zip2, starA, subS, decide_true, decide_false, Int.reduceLT, Int.reduceLE, Nat.reduceLT, Nat.reduceLeDiff, true_and, and_true, Bool.false_eq_true, if_false, ite_true, ite_false, reduceIte, reduceCtorEq, Option.some.injEq, letters_of_c, nk, ng, ham, z1, hsm, rng_zero, Int.toNat_natCast]
  rw [e1]
  simp only [Gv, Gio, ins, List.map_cons, List.map_nil, List.length_cons, List.length_nil, Nat.sub_self, List.replicate_zero, List.append_nil, List.nil_append, List.cons_append, List.replicate_succ, Nat.reduceSub, Nat.reduceAdd, retS, retN, ret1, setS, sto, stoO, freeAt, free_dv, dv_some, dv_none, free_d, free_n, free_o, plain_dv, plain_dd, plain_n, dropS, seqS, ifS, raiS, nextS, brkS, cntS, unpS, tpG, itsOf, bindAll, optO, nmG, augS, chE, bind_ok, bind_er, out_ok, out_er, seq_nx, seq_rt, seq_er, seq_bk, seq_ct, ite_and, ite_or, ite_and2, ite_or2, ite_andB, ite_orB, cE, varE, shE, shr, bi2, un1, opE, unE, rd, List.getElem?_cons_zero, List.getElem?_cons_succ, List.set_cons_zero, List.set_cons_succ, leD, ltD, gtD, geD, cmpD, eqD_str, neD_str, eqD_int, neD_int, inD_sign, isD, isNone, ifB, caE, consA, nilA, ca1, rdAll, dAll, lenD, intF, tupF, lstF, Option.map_some, Option.map_none, Option.bind_some, addD, intD, subI, modI, divI, adI, negD, mulD, revND, revD, tupE, lstE, mtE, okTy, isStr, isLst, stripF, callE, callI, truT, tru1, tru, truD, blT, notT, andT, orT, ifE, notE, andE, orE, if_true, Bool.not_true, Bool.not_false, Bool.true_and, Bool.and_true, Bool.false_and, Bool.or_false, Bool.false_or, Bool.true_or, Bool.or_true, Bool.and_false, Bool.false_xor, Bool.true_xor, slE, noP, someP, sl1, slD, seqI, its1, optI, forS, turn, lcE, wipeS, restS, plainAt, List.getD_cons_zero, List.getD_cons_succ, List.all_cons, List.all_nil, muE, mu1, lstAt, dArgs, appF, popF, rvsF, extF, rng1I, rng2I, enI, zipI, zip2, starA, subS, decide_true, decide_false, Int.reduceLT, Int.reduceLE, Nat.reduceLT, Nat.reduceLeDiff, true_and, and_true, Bool.false_eq_true, if_false, ite_true, ite_false, reduceIte, reduceCtorEq, Option.some.injEq, List.length_range]
  exact ⟨_, rfl⟩
end K
set_option Elab.async false
set_option linter.all false
set_option maxRecDepth 100000
set_option maxHeartbeats 4000000
namespace K
open PySem PySem.Spec L2 Sv M
end K
set_option Elab.async false
set_option linter.all false
set_option maxRecDepth 100000
set_option maxHeartbeats 4000000
namespace K
open PySem PySem.Spec L2 Sv M
def bec (R : Rl) (t : Str) (i : Nat) : Str := if standsAt R t i = true then R.n else tx [t.cps.getD i 0]
def dueS (R : Rl) (t : Str) : Str := if t.length < 1 + R.r.length then "" else bec R t (t.length - 1 - R.r.length)
def suf (kept : Nat) (t : Str) : Str := tx (t.cps.toList.drop (t.length - kept))
def wls (k : Int) (n : Nat) : List Str := (List.range (n + 1)).flatMap (wl k)
def num : List Str → Nat → List (Key × D) → List (Key × D)
  | [], _, acc => acc
  | w :: r, j, acc => num r (j + 1) (putD acc (.inr w) (.int ((j : Nat) : Int)))
end K
set_option Elab.async false
set_option linter.all false
set_option maxRecDepth 100000
set_option maxHeartbeats 4000000
namespace M
open PySem PySem.Spec L2 Sv
end M
set_option Elab.async false
set_option linter.all false
set_option maxRecDepth 100000
set_option maxHeartbeats 4000000
namespace M
open PySem PySem.Spec L2 Sv
def jw (y : Str) : List Str → Str
  | [] => ""
  | p :: r => tx (p.cps.toList ++ (r.map fun q => y.cps.toList ++ q.cps.toList).flatten)
def newT (n : Str) : Str := if n = "" then "-" else n
def toks (R : Rl) : List Str := ([R.c, ">", newT R.n, "/"] : List Str) ++ R.l ++ [("_" : Str)] ++ R.r
end M
set_option Elab.async false
set_option linter.all false
set_option maxRecDepth 100000
set_option maxHeartbeats 4000000
namespace K
open PySem PySem.Spec L2 Sv M
def lastS (R : Rl) (w : Str) : Str := jw "" ((parts R w).drop (w.length - R.r.length))
def numD (kv : List (Key × D)) (t : Str) : D := (getK kv (.inr t)).getD .none
def entD (R : Rl) (kv : List (Key × D)) (w : Str) (c : Nat) : D := .tuple [.str (dueS R (w ++ tx [c])), numD kv (suf (R.l.length + R.r.length) (w ++ tx [c]))]
def rowD (k : Int) (R : Rl) (kv : List (Key × D)) (w : Str) : D := .tuple [.str (lastS R w), .tuple ((letters k).cps.toList.map (entD R kv w))]
structure Fine (R : Rl) : Prop where
  n : R.n.length ≤ 1000
  l : R.l.length ≤ 2
  r : R.r.length ≤ 2
end K
set_option Elab.async false
set_option linter.all false
set_option maxRecDepth 100000
set_option maxHeartbeats 4000000
namespace K
open PySem PySem.Spec L2 Sv M
theorem wl_let {k : Int} (a : 2 ≤ k) (b : k ≤ 6) : ∀ {n : Nat} {w : Str}, w ∈ wl k n → ∀ c ∈ w.cps.toList, LetK k c
  | 0, w, h, c, m => by
    rw [List.mem_singleton.mp h] at m
    cases m
  | n + 1, w, h, c, m => by
    obtain ⟨v, hv, hw⟩ := List.mem_flatMap.mp h
    obtain ⟨d, hd, rfl⟩ := List.mem_map.mp hw
    have e : (v ++ tx [d] : Str).cps.toList = v.cps.toList ++ [d] := by
      conv => lhs; rw [tx_of v, tx_add, tx_list]
    rw [e] at m
    rcases List.mem_append.mp m with m | m
    · exact wl_let a b hv c m
    · rw [List.mem_singleton.mp m]
      exact (mem_letters a b d).mp hd
end K
set_option Elab.async false
set_option linter.all false
set_option maxRecDepth 100000
set_option maxHeartbeats 4000000
namespace K
open PySem PySem.Spec L2 Sv M
def ext (k : Int) (w : Str) : List Str := (letters k).cps.toList.map fun c => w ++ tx [c]
end K
set_option Elab.async false
set_option linter.all false
set_option maxRecDepth 100000
set_option maxHeartbeats 4000000
namespace K
open PySem PySem.Spec L2 Sv M
noncomputable def b_in_order : S → Out := (retS (slenE (ssetE (shE (varE 0)))))
noncomputable def F_in_order : S → ER Vl := fin 1 b_in_order
end K
set_option Elab.async false
set_option linter.all false
set_option maxRecDepth 100000
set_option maxHeartbeats 4000000
namespace K
open PySem PySem.Spec L2 Sv M
def oL (m : Mch) (u : List Nat) : List Nat := (m.out (tx u)).cps.toList
def aN (m : Mch) (u : List Nat) : Nat := (m.at (tx u)).toNat
theorem str_list {a b : Str} : a = b ↔ a.cps.toList = b.cps.toList := by
  constructor
  · intro q; rw [q]
  · intro q
    rw [tx_of a, tx_of b, q]
section
variable (m p : Mch)
structure J (e : Ent) (u : List Nat) : Prop where
  s : e.s = aN m u
  t : e.t = aN p u
  l : ∀ x y, e.l = some (x, y) → ∃ P, oL m u = P ++ x ∧ oL p u = P ++ y
  n : e.l = none → m.form (tx u) ≠ p.form (tx u)
end
variable {m p : Mch}
section
variable {N : Nat} (h : Sides N m p)
include h
end
end K
set_option Elab.async false
set_option linter.all false
set_option maxRecDepth 100000
set_option maxHeartbeats 4000000
namespace K
open PySem PySem.Spec L2 Sv M
section
variable {N : Nat} {m : Mch} (hm : MchB N 6 m)
include hm
end
section
variable {N : Nat} {m : Mch} (hm : MchB N 6 m)
include hm
end
end K
set_option Elab.async false
set_option linter.all false
set_option maxRecDepth 100000
set_option maxHeartbeats 4000000
namespace K
open PySem PySem.Spec L2 Sv M
section
variable {N : Nat} {m : Mch} (hm : MchB N 6 m)
include hm
end
end K
set_option Elab.async false
set_option linter.all false
set_option maxRecDepth 100000
set_option maxHeartbeats 4000000
namespace K
open PySem PySem.Spec L2 Sv M
section
variable {N : Nat} {m : Mch} (hm : MchB N 2 m)
include hm
end
end K
set_option Elab.async false
set_option linter.all false
set_option maxRecDepth 100000
set_option maxHeartbeats 4000000
namespace K
open PySem PySem.Spec L2 Sv M
section
variable {N : Nat} {m : Mch} (hm : MchB N 6 m) (hN : N ≤ 60)
include hm hN
end
end K
set_option Elab.async false
set_option linter.all false
set_option maxRecDepth 100000
set_option maxHeartbeats 4000000
namespace M
open PySem PySem.Spec PyProof.Rows L2 Sv
variable [Wd]
structure KeyN (K : PySem.W.Frag) (mg : Str → Option Value) (x y : Str) (st : Stmt) : Prop where
  ex : ∃ (f : Addr) (fd : FuncData), Fun K x x st f fd ∧ mg x = some (.ref f) ∧ Binds K fd [y] []
def wkD (x : Str) : D := .tuple [.int ((x.length : Nat) : Int), .str x]
section
variable {P : Program} {w : World} {K : PySem.W.Frag} {mg : Str → Option Value} {base : Heap} {x y : Str} {st : Stmt} {f : Addr} {fd : FuncData} {A : Around} {t : Shared} {p1 p2 p3 p4 p5 p6 : Pos} {v : Str} {tk : Tok}
theorem key_run {lc} (F : Fun K x x st f fd) (hb : Binds K fd [y] []) (S : FnScope [y] [y] (defScope st))
    (hbd : defBody st = [.Return (some (.Tuple [.Call (.Name "len" p1) [.Name y p2] [] p3, .Name y p4] lc p5)) p6])
    (hl : (defScope st).names.lookup y = some .local) (hy : (y == ("__debug__" : Str)) = false)
    (hg : ∀ n f c, (envOfC x (defScope st) n f c).kindOf "len" = some .globalImplicit) (hm : mg "len" = none) (M : Mod K mg base)
    (hd : A.depth < recursionLimit) (kp : ∀ b o, base.get? b = some o → t.heap.get? b = some o) (hv : v.length ≤ sizeLine) :
    wpAny (model P w) A (call (.ref f) [.str v tk]) (PySem.W.KeyPure (wkD v) t) (fun _ _ => False) t := by
  obtain ⟨oc, od, kV, doc, pm, an, cdv, ct, osl, rfl, lk, hcd⟩ := F.ex
  have KX : K.In t.heap := M.kin.keeps kp
  have lim : t.heap.NoLimit := M.nolimit.keeps kp
  have hkind : ∀ z ∈ [y].zip [Value.str v tk], (defScope st).names.lookup z.1 = some .local ∨ ((defScope st).names.lookup z.1 = some .cell ∧ ((cellsFrom (t.heap.objs.size + 1) (defScope st).names []).lookup z.1).isSome = true) := fun z hz => by
    have : z = (y, Value.str v tk) := List.mem_singleton.mp hz
    subst this
    exact .inl hl
  refine wpAny_call ?_
  refine codeAny_call_function hd (KX _ _ lk) rfl S.co S.gen rfl (PySem.W.codeRec_of KX hcd) (hb t [.str v tk] KX rfl _ _ _ _ ?_)
  refine wpAny_newFunctionEnv_cells S.kind hkind fun env he s1 z => ?_
  subst he
  refine ⟨lim.keeps z.toInCall.keep, codeAny_func ?_⟩
  have z := z.toInCall
  have ns := z.ns
  obtain ⟨h1, tk1, e1, k1⟩ := z.done
  subst e1
  have kb : ∀ b o, base.get? b = some o → h1.get? b = some o := fun b o q => k1 b o (kp b o q)
  rw [hbd]
  have hvar := bindL_get (kindOf := (envOfC x (defScope st) t.heap.objs.size f cdv).kindOf) (m := fun _ => none) (P := [y]) (vs := [Value.str v tk]) (i := 0) (by simp) rfl rfl hl
  have hmul : ¬ (v.length : Int) ≥ 2 ^ 63 := by rw [sizeLine_eq] at hv; omega
  obtain ⟨mb, b1, b2⟩ := M.blt
  refine wpAny_execs_cons (wpAny_Return_some (wpAny_Tuple_spliced ?_))
  refine Calls.spliced_cons ?_
  refine wpAny_Call_Name_kw (Calls.Name_function_global S.kind (hg _ _ _) (Calls.loadGlobal_builtin (M.glob.keeps kb) hm (b1.keeps kb) ((b2 _ (by decide)).trans boot_len) ?_) (by decide))
  refine PyProof.Rows.callWith_builtin1 (Calls.spliced_cons (wpAny_Name (wpAny_loadName_local S.kind hl ns hvar (Calls.spliced_nil (len_str hmul ?_))) hy)) rfl rfl
  refine Calls.spliced_cons (wpAny_Name (wpAny_loadName_local S.kind hl ns hvar (Calls.spliced_nil ⟨by show 2 ≤ sizeLine; decide, ?_⟩)) hy)
  refine ⟨_, _, rfl, fun b o q => Heap.get?_push_of_some _ (k1 b o q), ?_⟩
  exact .tuple (Heap.get?_push_size _ rfl) rfl rfl (.cons (.int _ _) (.cons (.str _ _) .nil))
end
def sortKW (xs : List Str) : List Str := xs.mergeSort (PySem.W.dataLe false wkD)
def tSortKey (K : PySem.W.Frag) (t : TA) : TE := fun σ H Q => t σ H fun vs H1 => ∃ (l : Addr) (xs : List Str), vs = [V.ref l] ∧ SqL K H1 l (xs.map V.str) ∧ (∀ x ∈ xs, x.length ≤ sizeLine) ∧ ∀ p, H1 p = none → Q (.ref p) (upd H1 p (.lst ((sortKW xs).map V.str)))
section
variable {X : Cx} {p p2 pos kpos p1 p3 p4 p5 p6 p7 : Pos} {e : Expr} {t : TA} {x y : Str} {st : Stmt}
theorem pe_sortKey {lc} (F : KeyN X.K X.mg x y st) (S : FnScope [y] [y] (defScope st)) (hbd : defBody st = [.Return (some (.Tuple [.Call (.Name "len" p1) [.Name y p7] [] p3, .Name y p4] lc p5)) p6])
    (hl : (defScope st).names.lookup y = some .local) (hy : (y == ("__debug__" : Str)) = false) (hgl : ∀ n f c, (envOfC x (defScope st) n f c).kindOf "len" = some .globalImplicit) (hx : (x == ("__debug__" : Str)) = false)
    (hr : Room 2 X.A) (hg : Gl X "sorted") (hm : X.mg "sorted" = none) (hg2 : Gl X x) (hm2 : X.mg "len" = none) (ha : PA X [e] t)
    (he : backTo pos (starEach [e] X.env) = (false, eval e X.env) :: backTo pos (starEach [] X.env) := by rfl) (hpl : (backTo pos (starEach [e] X.env)).any (·.1) = false := by rfl)
    (hall : (backToKw pos (keywordEach [⟨some "key", .Name x p2, kpos⟩] X.env)).all (·.1.isSome) = true := by rfl) (hnone : (backToKw pos (keywordEach [⟨some "key", .Name x p2, kpos⟩] X.env)).any (·.1.isNone) = false := by rfl)
    (hks : (backToKw pos (keywordEach [⟨some "key", .Name x p2, kpos⟩] X.env)).filterMap (·.1) = [Str.ofString "key"] := by rfl) :
    PE X (.Call (.Name "sorted" p) [e] [⟨some "key", .Name x p2, kpos⟩] pos) (tSortKey X.K t) := by
  obtain ⟨f, fd, Ff, hf, hb⟩ := F.ex
  refine ⟨fun pins s σ H Q I h => ?_⟩
  refine wpAny_Call_Name_kw (ld_blt I hg hm boot_sorted ?_ (by decide) (by decide))
  refine PyProof.Rows.callWith_kw (thn (ha.run pos pins s σ H _ I h) fun us s1 ⟨vs, H1, I1, r1, q1⟩ => ?_) he hpl hall hnone
  show wpAny _ _ (evalAll ((do let v ← eval (.Name x p2) X.env; standAt pos; pure v) :: [])) _ _ s1
  refine wpAny_evalAll_cons (wpAny_bind (ld_glob I1 hg2 hf (wpAny_bind (wpAny_standAt (wpAny_pure (wpAny_evalAll_nil ?_)))) hx))
  rw [hks]
  obtain ⟨l, xs, rfl, hls, hlx, q⟩ := q1
  rw [Vals.ref1 r1]
  obtain ⟨its, rv, pl, hz⟩ := I1.list hls
  have ll : (xs.map V.str).length = its.length := rv.length
  rw [List.length_map] at ll
  have hu := hr.un
  have hdp := hr.dp
  show wpAny _ _ (call (.builtin "sorted") [.ref l] [(Str.ofString "key", .ref f)]) _ _ s1
  refine PySem.W.sorted_key_data (b := false) wkD pl.isList (texts_each rv) (PySem.W.AllAlike.of fun _ _ => by simp [PySem.W.alike, PySem.W.alikeAll, wkD]) (PySem.W.Sortable.tuples fun _ => ⟨_, _, rfl⟩) (by rw [ll]; rw [← rv.length]; exact hz) (fun x _ => ?_) (ksk_s1 _ _) (fun _ => ksk_l1 _ _) (fun _ => ksk_t1 _ _)
    (fun v z ⟨t, q⟩ mx h tk kp => ?_) fun out c h' tk kp fr hD lo eo => ?_
  · have hd : (wkD x).depth = 1 := by simp [wkD, PyData.depth, PyData.depthAll]
    omega
  · rw [q]
    exact key_run Ff hb S hbd hl hy hgl hm2 I1.mod (by show X.A.depth < _; omega) (fun b o q => kp b o (I1.bk b o q)) (hlx z mx)
  · have eo : PySem.W.EachIs IsText out (sortKW xs) := eo
    have len : ((sortKW xs).map V.str).length ≤ sizeLine := by
      rw [List.length_map] at hz ⊢
      show (xs.mergeSort _).length ≤ _
      rw [(List.mergeSort_perm xs _).length_eq]
      exact hz
    exact ⟨.ref _, upd H1 (s1.heap.objs.size + 1) (.lst ((sortKW xs).map V.str)), I1.laid (t' := tk) kp (Nat.le_succ _) ⟨len, out, c, each_texts eo, hD⟩, rfl, q _ (I1.hok.fresh (Nat.le_succ _))⟩
end
def skeyE (fa : S → ER Vl) : S → ER Vl := fun s => (fa s).bind fun a s1 => match rd s1 a with
  | some (.list ds) => (match strsOf ds with
    | some xs => .ok (.o true (.L ((sortKW xs).map .str))) s1
    | none => .no)
  | _ => .no
section
variable {X : Cx} {K : PySem.W.Frag} {xi : XI} {W : WX} {e : Expr} {fa : S → ER Vl} {p p2 pos kpos p1 p3 p4 p5 p6 p7 : Pos} {x y : Str} {st : Stmt}
theorem re_skey {lc} (F : KeyN X.K X.mg x y st) (S : FnScope [y] [y] (defScope st)) (hbd : defBody st = [.Return (some (.Tuple [.Call (.Name "len" p1) [.Name y p7] [] p3, .Name y p4] lc p5)) p6])
    (hl : (defScope st).names.lookup y = some .local) (hy : (y == ("__debug__" : Str)) = false) (hgl : ∀ n f c, (envOfC x (defScope st) n f c).kindOf "len" = some .globalImplicit) (hx : (x == ("__debug__" : Str)) = false)
    (hr : Room 2 X.A) (hg : Gl X "sorted") (hm : X.mg "sorted" = none) (hg2 : Gl X x) (hm2 : X.mg "len" = none) (ha : PE X e (tE K xi W fa)) (hK : X.K = K := by rfl)
    (he0 : starEach [e] X.env = (false, eval e X.env) :: starEach [] X.env := by rfl)
    (he : backTo pos (starEach [e] X.env) = (false, eval e X.env) :: backTo pos (starEach [] X.env) := by rfl) (hpl : (backTo pos (starEach [e] X.env)).any (·.1) = false := by rfl)
    (hall : (backToKw pos (keywordEach [⟨some "key", .Name x p2, kpos⟩] X.env)).all (·.1.isSome) = true := by rfl) (hnone : (backToKw pos (keywordEach [⟨some "key", .Name x p2, kpos⟩] X.env)).any (·.1.isNone) = false := by rfl)
    (hks : (backToKw pos (keywordEach [⟨some "key", .Name x p2, kpos⟩] X.env)).filterMap (·.1) = [Str.ofString "key"] := by rfl) :
    PE X (.Call (.Name "sorted" p) [e] [⟨some "key", .Name x p2, kpos⟩] pos) (tE K xi W (skeyE fa)) := by
  subst hK
  refine PE.mono (pe_sortKey F S hbd hl hy hgl hx hr hg hm hg2 hm2 (pa_cons ha pa_nil (hs := he0)) he hpl hall hnone hks) fun σ H Q h => ?_
  obtain ⟨G, s, R, h⟩ := h
  refine ⟨G, s, R, Po.bindU .refl h fun va s1 _ v G1 H1 t1 R1 ra h1 => ?_⟩
  cases er : rd s1 va with
  | none => rw [er] at h1; exact h1.elim
  | some d =>
    rw [er] at h1
    have r := rd_ok R1 ra er
    cases d with
    | list ds =>
      cases es : strsOf ds with
      | none => simp only [es] at h1; exact h1.elim
      | some xs =>
        simp only [es] at h1
        cases r with
        | @lst a vs _ w1 w2 =>
          obtain ⟨rfl, rfl, lens⟩ := strsOf_all es w2
          refine ⟨a, xs, rfl, .inl (.inl w1), lens, fun q hq => ?_⟩
          refine Ext.fin (.lst hq (all_strs fun y my => ?_)) R1 (Po.shift t1 backs_V h1)
          exact lens y ((List.mergeSort_perm xs _).mem_iff.mp my)
    | _ => exact h1.elim
end
end M
set_option Elab.async false
set_option linter.all false
set_option maxRecDepth 100000
set_option maxHeartbeats 4000000
namespace K
open PySem PySem.Spec L2 Sv M
def tabY : XTab := [("NotWord", [("ShiftError", true), ("NotWord", true), ("BadNumber", false)]), ("BadNumber", [("ShiftError", true), ("NotWord", false), ("BadNumber", true)])]
noncomputable def b_is_before : S → Out := (seqS (dropS (callE 2 F_check_word (consA (shE (varE 0)) (consA (shE (varE 1)) nilA))))
  (seqS (dropS (callE 2 F_check_word (consA (shE (varE 0)) (consA (shE (varE 2)) nilA))))
  (retS (opE ltTD (tupE (consA (caE lenD (consA (varE 1) nilA)) (consA (shE (varE 1)) nilA))) (tupE (consA (caE lenD (consA (varE 2) nilA)) (consA (shE (varE 2)) nilA)))))))
noncomputable def F_is_before : S → ER Vl := fin 3 b_is_before
noncomputable def b_common_1 : S → Out := (seqS (ifS (blT (opE neD (varE 3) (varE 4)))
  brkS
  nextS)
  (augS 2 (intD adI) (cE (.int 1))))
noncomputable def b_common : S → Out := (seqS (setS 2 (cE (.int 0)))
  (seqS (forS (zipI (consA (shE (varE 0)) (consA (shE (varE 1)) nilA))) (tpG [(nmG 3), (nmG 4)]) b_common_1)
  (retS (slE (varE 0) noP (someP (varE 2))))))
noncomputable def F_common : S → ER Vl := fin 5 b_common
noncomputable def b_law_string : S → Out := (seqS (setS 3 (opE addD (slE (cE (.str "abcdef")) noP (someP (varE 1))) (opE ixD (lstE (consA (cE (.str "")) (consA (cE (.str "abcdefgA# -")) nilA))) (caE intF (consA (opE eqD (opE (intD modI) (caE intF (consA (callE 1 F_law_next (consA (varE 0) nilA)) nilA)) (cE (.int 6))) (cE (.int 1))) nilA)))))
  (retS (mtE isStr joinF (cE (.str "")) (consA (lcE (rng1I (consA (opE (intD modI) (caE intF (consA (callE 1 F_law_next (consA (varE 0) nilA)) nilA)) (opE addD (varE 2) (cE (.int 1)))) nilA)) (nmG 4) yesT (opE ixD (varE 3) (opE (intD modI) (caE intF (consA (callE 1 F_law_next (consA (varE 0) nilA)) nilA)) (caE lenD (consA (varE 3) nilA)))) [4]) nilA))))
noncomputable def F_law_string : S → ER Vl := fin 5 b_law_string
noncomputable def b_law_told : S → Out := (tryS (kmOf tabY "ShiftError") (some 4)
  (seqS (ifS (blT (opE eqD (varE 0) (cE (.int 0))))
  (retS (tupE (consA (cE (.str "told")) (consA (shE (callE 1 F_letters_of (consA (shE (varE 1)) nilA))) nilA))))
  nextS)
  (seqS (ifS (blT (opE eqD (varE 0) (cE (.int 1))))
  (retS (tupE (consA (cE (.str "told")) (consA (shE (callE 2 F_is_word (consA (shE (varE 1)) (consA (shE (varE 2)) nilA)))) nilA))))
  nextS)
  (seqS (ifS (blT (opE eqD (varE 0) (cE (.int 2))))
  (retS (tupE (consA (cE (.str "told")) (consA (shE (callE 2 F_check_word (consA (shE (varE 1)) (consA (shE (varE 2)) nilA)))) nilA))))
  nextS)
  (seqS (ifS (blT (opE eqD (varE 0) (cE (.int 3))))
  (retS (tupE (consA (cE (.str "told")) (consA (shE (callE 3 F_is_before (consA (shE (varE 1)) (consA (shE (varE 2)) (consA (shE (varE 3)) nilA))))) nilA))))
  nextS)
  (retS (tupE (consA (cE (.str "told")) (consA (shE (callE 2 F_words_of_length (consA (shE (varE 1)) (consA (shE (varE 2)) nilA)))) nilA))))))))
  (retS (tupE (consA (cE (.str "refused")) (consA (shE (lstE (consA (caE intF (consA (isxE 4 (kmOf tabY "BadNumber")) nilA)) (consA (caE intF (consA (isxE 4 (kmOf tabY "NotWord")) nilA)) nilA)))) nilA)))))
noncomputable def F_law_told : S → ER Vl := fin 5 b_law_told
noncomputable def b_law_is_word : S → Out := (retS (andE (opE ltD (caE lenD (consA (varE 1) nilA)) (cE (.int 61))) (caE allF (consA (lcE (seqI (shE (varE 1))) (nmG 2) yesT (opE (inD false) (varE 2) (slE (cE (.str "abcdef")) noP (someP (varE 0)))) [2]) nilA))))
noncomputable def F_law_is_word : S → ER Vl := fin 3 b_law_is_word
noncomputable def b_law_size_place : S → Out := (retS (tupE (consA (caE lenD (consA (varE 0) nilA)) (consA (shE (varE 0)) nilA))))
noncomputable def F_law_size_place : S → ER Vl := fin 1 b_law_size_place
noncomputable def b_law_listed_1 : S → Out := (setS 4 (opE addD (varE 4) (lcE (seqI (shE (slE (cE (.str "abcdef")) noP (someP (varE 0))))) (nmG 6) yesT (shE (opE addD (varE 5) (varE 6))) [6])))
noncomputable def b_law_listed_2 : S → Out := (seqS (setS 4 (lstE nilA))
  (seqS (forS (seqI (shE (varE 2))) (nmG 5) b_law_listed_1)
  (setS 2 (shE (varE 4)))))
noncomputable def b_law_listed : S → Out := (seqS (setS 2 (lstE (consA (cE (.str "")) nilA)))
  (seqS (forS (rng1I (consA (varE 1) nilA)) (nmG 3) b_law_listed_2)
  (retS (varE 2))))
noncomputable def F_law_listed : S → ER Vl := fin 7 b_law_listed
noncomputable def b_law_1 : S → Out := (ifS (blT (opE neD (callE 4 F_law_told (consA (shE (varE 6)) (consA (shE (varE 5)) (consA (opE ixD (lstE (consA (shE (varE 3)) (consA (cE (.int 2)) nilA))) (caE intF (consA (opE eqD (varE 6) (cE (.int 4))) nilA))) (consA (shE (varE 4)) nilA))))) (tupE (consA (cE (.str "refused")) (consA (shE (lstE (consA (cE (.int 1)) (consA (cE (.int 0)) nilA)))) nilA)))))
  (retS (cE (.bool false)))
  nextS)
noncomputable def b_law_2 : S → Out := (ifS (blT (opE (inD true) (varE 11) (varE 8)))
  (dropS (muE dArgs appF 8 (consA (shE (varE 11)) nilA)))
  nextS)
noncomputable def b_law : S → Out := (seqS (setS 1 (callE 1 F_law_draws (consA (varE 0) nilA)))
  (seqS (dropS (fun s => mu1 rvsF 1 s []))
  (seqS (setS 2 (opE addD (cE (.int 2)) (opE (intD modI) (caE intF (consA (callE 1 F_law_next (consA (varE 1) nilA)) nilA)) (cE (.int 5)))))
  (seqS (setS 3 (callE 3 F_law_string (consA (varE 1) (consA (shE (varE 2)) (consA (cE (.int 6)) nilA)))))
  (seqS (setS 4 (opE ixD (lstE (consA (shE (callE 3 F_law_string (consA (varE 1) (consA (shE (varE 2)) (consA (cE (.int 6)) nilA))))) (consA (shE (opE addD (varE 3) (opE ixD (cE (.str "ab")) (opE (intD modI) (caE intF (consA (callE 1 F_law_next (consA (varE 1) nilA)) nilA)) (cE (.int 2)))))) (consA (shE (varE 3)) nilA)))) (opE (intD modI) (caE intF (consA (callE 1 F_law_next (consA (varE 1) nilA)) nilA)) (cE (.int 3)))))
  (seqS (ifS (blT (opE eqD (opE (intD modI) (caE intF (consA (callE 1 F_law_next (consA (varE 1) nilA)) nilA)) (cE (.int 8))) (cE (.int 1))))
  (setS 3 (opE addD (opE mulD (cE (.str "ab")) (cE (.int 30))) (slE (varE 3) noP (someP (cE (.int 1))))))
  nextS)
  (seqS (setS 5 (opE ixD (lstE (consA (cE (.int 7)) (consA (cE (.int 1)) (consA (cE (.int 0)) (consA (unE negD (cE (.int 1))) nilA))))) (opE (intD modI) (caE intF (consA (callE 1 F_law_next (consA (varE 1) nilA)) nilA)) (cE (.int 4)))))
  (seqS (forS (rng1I (consA (cE (.int 5)) nilA)) (nmG 6) b_law_1)
  (seqS (setS 7 (lstE (consA (shE (callE 2 F_law_is_word (consA (shE (varE 2)) (consA (shE (varE 3)) nilA)))) (consA (shE (callE 2 F_law_is_word (consA (shE (varE 2)) (consA (shE (varE 4)) nilA)))) nilA))))
  (seqS (setS 8 (opE ixD (lstE (consA (tupE (consA (cE (.str "refused")) (consA (shE (lstE (consA (cE (.int 0)) (consA (cE (.int 1)) nilA)))) nilA))) (consA (tupE (consA (cE (.str "told")) (consA (cE .none) nilA))) nilA))) (caE intF (consA (opE ixD (varE 7) (cE (.int 0))) nilA))))
  (seqS (ifS (orT (blT (opE neD (callE 4 F_law_told (consA (cE (.int 0)) (consA (shE (varE 2)) (consA (shE (varE 3)) (consA (shE (varE 4)) nilA))))) (tupE (consA (cE (.str "told")) (consA (shE (slE (cE (.str "abcdef")) noP (someP (varE 2)))) nilA))))) (blT (opE neD (caE reprF (consA (callE 4 F_law_told (consA (cE (.int 2)) (consA (shE (varE 2)) (consA (shE (varE 3)) (consA (shE (varE 4)) nilA))))) nilA)) (caE reprF (consA (varE 8) nilA)))))
  (retS (cE (.bool false)))
  nextS)
  (seqS (ifS (blT (opE neD (caE reprF (consA (callE 4 F_law_told (consA (cE (.int 1)) (consA (shE (varE 2)) (consA (shE (varE 3)) (consA (shE (varE 4)) nilA))))) nilA)) (caE reprF (consA (tupE (consA (cE (.str "told")) (consA (opE ixD (varE 7) (cE (.int 0))) nilA))) nilA))))
  (retS (cE (.bool false)))
  nextS)
  (seqS (setS 8 (tupE (consA (cE (.str "refused")) (consA (shE (lstE (consA (cE (.int 0)) (consA (cE (.int 1)) nilA)))) nilA))))
  (seqS (ifS (andT (truT (opE ixD (varE 7) (cE (.int 0)))) (truT (opE ixD (varE 7) (cE (.int 1)))))
  (setS 8 (tupE (consA (cE (.str "told")) (consA (opE ltTD (callE 1 F_law_size_place (consA (shE (varE 3)) nilA)) (callE 1 F_law_size_place (consA (shE (varE 4)) nilA))) nilA))))
  nextS)
  (seqS (ifS (blT (opE neD (caE reprF (consA (callE 4 F_law_told (consA (cE (.int 3)) (consA (shE (varE 2)) (consA (shE (varE 3)) (consA (shE (varE 4)) nilA))))) nilA)) (caE reprF (consA (varE 8) nilA))))
  (retS (cE (.bool false)))
  nextS)
  (seqS (setS 9 (opE (intD modI) (caE intF (consA (callE 1 F_law_next (consA (varE 1) nilA)) nilA)) (cE (.int 4))))
  (seqS (ifS (blT (opE neD (caE reprF (consA (callE 4 F_law_told (consA (cE (.int 4)) (consA (shE (varE 2)) (consA (shE (varE 9)) (consA (cE (.str "")) nilA))))) nilA)) (caE reprF (consA (tupE (consA (cE (.str "told")) (consA (shE (callE 2 F_law_listed (consA (shE (varE 2)) (consA (shE (varE 9)) nilA)))) nilA))) nilA))))
  (retS (cE (.bool false)))
  nextS)
  (seqS (ifS (orT (blT (opE neD (callE 4 F_law_told (consA (cE (.int 4)) (consA (shE (varE 2)) (consA (unE negD (cE (.int 1))) (consA (cE (.str "")) nilA))))) (tupE (consA (cE (.str "refused")) (consA (shE (lstE (consA (cE (.int 1)) (consA (cE (.int 0)) nilA)))) nilA))))) (blT (opE neD (callE 4 F_law_told (consA (cE (.int 4)) (consA (shE (varE 2)) (consA (cE (.int 13)) (consA (cE (.str "")) nilA))))) (tupE (consA (cE (.str "refused")) (consA (shE (lstE (consA (cE (.int 1)) (consA (cE (.int 0)) nilA)))) nilA))))))
  (retS (cE (.bool false)))
  nextS)
  (seqS (setS 10 (lstE (consA (shE (varE 3)) (consA (shE (varE 4)) (consA (shE (slE (varE 3) noP (someP (cE (.int 2))))) (consA (shE (unE revND (varE 4))) (consA (shE (varE 3)) (consA (cE (.str "zz")) nilA))))))))
  (seqS (setS 8 (lstE nilA))
  (seqS (forS (seqI (shE (skeyE (varE 10)))) (nmG 11) b_law_2)
  (seqS (ifS (blT (opE neD (caE reprF (consA (callE 1 F_in_order (consA (shE (caE lstF (consA (varE 10) nilA))) nilA)) nilA)) (caE reprF (consA (varE 8) nilA))))
  (retS (cE (.bool false)))
  nextS)
  (seqS (setS 12 (caE lenD (consA (lcE (rng1I (consA (caE minF (consA (caE lenD (consA (varE 3) nilA)) (consA (caE lenD (consA (varE 4) nilA)) nilA))) nilA)) (nmG 13) (blT (opE eqD (slE (varE 3) noP (someP (opE addD (varE 13) (cE (.int 1))))) (slE (varE 4) noP (someP (opE addD (varE 13) (cE (.int 1))))))) (shE (varE 13)) [13]) nilA)))
  (retS (opE eqD (callE 2 F_common (consA (shE (varE 3)) (consA (shE (varE 4)) nilA))) (slE (varE 3) noP (someP (varE 12))))))))))))))))))))))))))))
noncomputable def F_law : S → ER Vl := fin 14 b_law
end K
set_option Elab.async false
set_option linter.all false
set_option maxRecDepth 100000
set_option maxHeartbeats 4000000
namespace K
open PySem PySem.Spec L2 Sv M
def Txt (m : Int) (z : Str) : Prop := ((z.length : Nat) : Int) ≤ m ∧ ∀ c ∈ z.cps.toList, c < 1000
theorem law_string6_a {ds : List D} (hd : Dr ds) {k m : Int} (k2 : 2 ≤ k) (k6 : k ≤ 6) (m0 : 0 ≤ m) (m1 : m ≤ 1000) :
    ∃ z ds', At 3 F_law_string [.d (.int k), .d (.int m)] ds ds' (.d (.str z)) ∧ Txt m z ∧ Dr ds' := by
  obtain ⟨n0, ds0, e0, a0, b0, d0⟩ := law_next_c hd (s := [some (.o false (.L ds)), some (.d (.int k)), some (.d (.int m)), none, none]) (i := 0) (f := false) rfl
  have le : cutS "abcdef" none (some k) = letters k := rfl
  obtain ⟨tl, ht, hl0, hs1, hs2, hs3⟩ : ∃ tl : Str, ixD (.list [.str "", .str "abcdefgA# -"]) (.int (if decide (n0 % 6 = 1) = true then 1 else 0)) = some (.d (.str tl)) ∧ (letters k).length + tl.length ≤ 16777216 ∧ 0 < (letters k ++ tl : Str).length ∧ (letters k ++ tl : Str).length ≤ 20 ∧ ∀ c ∈ (letters k ++ tl : Str).cps.toList, c < 1000 := by
    have kk : k = 2 ∨ k = 3 ∨ k = 4 ∨ k = 5 ∨ k = 6 := by omega
    cases decide (n0 % 6 = 1)
    · refine ⟨"", rfl, ?_⟩
      rcases kk with rfl | rfl | rfl | rfl | rfl <;> exact ⟨by decide +kernel, by decide +kernel, by decide +kernel, by decide +kernel⟩
    · refine ⟨"abcdefgA# -", rfl, ?_⟩
      rcases kk with rfl | rfl | rfl | rfl | rfl <;> exact ⟨by decide +kernel, by decide +kernel, by decide +kernel, by decide +kernel⟩
  obtain ⟨sg, hsg⟩ : ∃ sg : Str, (letters k ++ tl : Str) = sg := ⟨_, rfl⟩
  rw [hsg] at hs1 hs2 hs3
  obtain ⟨n1, ds1, e1, a1, b1, d1⟩ := law_next_c d0 (s := [some (.o false (.L ds0)), some (.d (.int k)), some (.d (.int m)), some (.d (.str sg)), none]) (i := 0) (f := false) rfl
  have hm : (0 : Int) < m + 1 := by omega
  have hl : (0 : Int) < ((sg.length : Nat) : Int) := by omega
  have c0 := mod_in (n := n1) hm
  obtain ⟨ys, s', e2, ⟨ds2, d2, rfl⟩, l1, p1⟩ := lcL_s (g := nmG 4) (vs := [4]) (i := fun j : Nat => .int ((j : Nat) : Int)) (xs := List.range (n1 % (m + 1)).toNat) (acc := [])
    (e := opE ixD (varE 3) (opE (intD modI) (caE intF (consA (callE 1 F_law_next (consA (varE 0) nilA)) nilA)) (caE lenD (consA (varE 3) nilA))))
    (s := [some (.o false (.L ds1)), some (.d (.int k)), some (.d (.int m)), some (.d (.str sg)), none]) (St := fun s => ∃ ds, Dr ds ∧ s = [some (.o false (.L ds)), some (.d (.int k)), some (.d (.int m)), some (.d (.str sg)), none]) (Pr := fun x => ∃ c, x = .str (tx [c]) ∧ c < 1000)
    (by rw [List.length_range]; show 0 + _ ≤ _; omega) ⟨ds1, d1, rfl⟩ (by
      rintro j _ s ⟨ds2, d2, rfl⟩
      obtain ⟨n3, ds3, e3, a3, b3, d3⟩ := law_next_c d2 (s := [some (.o false (.L ds2)), some (.d (.int k)), some (.d (.int m)), some (.d (.str sg)), some (.d (.int ((j : Nat) : Int)))]) (i := 0) (f := false) rfl
      have c3 := mod_in (n := n3) hl
      refine ⟨_, .str (tx [sg.cps.getD (n3 % ((sg.length : Nat) : Int)).toNat 0]), [some (.o false (.L ds3)), some (.d (.int k)), some (.d (.int m)), some (.d (.str sg)), some (.d (.int ((j : Nat) : Int)))], rfl, ?_, ⟨ds3, d3, rfl⟩, _, rfl, ?_⟩
      · simp only [Gv, Gio, ins, List.map_cons, List.map_nil, List.length_cons, List.length_nil, Nat.sub_self, List.replicate_zero, List.append_nil, List.nil_append, List.cons_append, List.replicate_succ, Nat.reduceSub, Nat.reduceAdd, retS, retN, ret1, setS, sto, stoO, freeAt, free_dv, dv_some, dv_none, free_d, free_n, free_o, plain_dv, plain_dd, plain_n, dropS, seqS, ifS, raiS, nextS, brkS, cntS, unpS, tpG, itsOf, bindAll, optO, nmG, augS, chE, bind_ok, bind_er, out_ok, out_er, seq_nx, seq_rt, seq_er, seq_bk, seq_ct, ite_and, ite_or, ite_and2, ite_or2, ite_andB, ite_orB, cE, varE, shE, shr, bi2, un1, opE, unE, rd, List.getElem?_cons_zero, List.getElem?_cons_succ, List.set_cons_zero, List.set_cons_succ, leD, ltD, gtD, geD, cmpD, eqD_str, neD_str, eqD_int, neD_int, inD_sign, isD, isNone, ifB, caE, consA, nilA, ca1, rdAll, dAll, lenD, intF, tupF, lstF, Option.map_some, Option.map_none, Option.bind_some, addD, intD, subI, modI, divI, adI, negD, mulD, revND, revD, tupE, lstE, mtE, okTy, isStr, isLst, stripF, callE, callI, truT, tru1, tru, truD, blT, notT, andT, orT, ifE, notE, andE, orE, if_true, Bool.not_true, Bool.not_false, Bool.true_and, Bool.and_true, Bool.false_and, Bool.or_false, Bool.false_or, Bool.true_or, Bool.or_true, Bool.and_false, Bool.false_xor, Bool.true_xor, slE, noP, someP, sl1, slD, seqI, its1, optI, forS, turn, lcE, wipeS, restS, plainAt, List.getD_cons_zero, List.getD_cons_succ, List.all_cons, List.all_nil, muE, mu1, lstAt, dArgs, appF, popF, rvsF, extF, rng1I, rng2I, enI, zipI, zip2, starA, subS, decide_true, decide_false, Int.reduceLT, Int.reduceLE, Nat.reduceLT, Nat.reduceLeDiff, true_and, and_true, Bool.false_eq_true, if_false, ite_true, ite_false, reduceIte, reduceCtorEq, Option.some.injEq, e3, mod_pos hl, ixD_str c3.1 c3.2]
      · refine hs3 _ ?_
        have hi : (n3 % ((sg.length : Nat) : Int)).toNat < sg.cps.size := by have : sg.cps.size = sg.length := rfl
                                                                             omega
        rw [Array.getD_eq_getD_getElem?, Array.getElem?_eq_getElem hi]
        exact Array.getElem_mem_toList hi)
  obtain ⟨cs, rfl, hc⟩ := signs_all p1
  rw [List.length_map, List.length_range] at l1
  refine ⟨tx cs, ds2, at_rt (ds := [.int k, .int m]) rfl ?_, ⟨by rw [tx_len]; omega, fun c mc => hc c (by simpa using mc)⟩, d2⟩
  have hsm : smI (n1 % (m + 1)) = true := smI_of (by omega) (by omega)
  have p6 : (0 : Int) < 6 := by decide
  have z2 : (2 : Nat) ≤ 16777216 := by decide
  simp only [b_law_string, Gv, Gio, ins, List.map_cons, List.map_nil, List.length_cons, List.length_nil, Nat.sub_self, List.replicate_zero, List.append_nil, List.nil_append, List.cons_append, List.replicate_succ, Nat.reduceSub, Nat.reduceAdd, retS, retN, ret1, setS, sto, stoO, freeAt, free_dv, dv_some, dv_none, free_d, free_n, free_o, plain_dv, plain_dd, plain_n, dropS, seqS, ifS, raiS, nextS, brkS, cntS, unpS, tpG, itsOf, bindAll, optO, nmG, augS, chE, bind_ok, bind_er, out_ok, out_er, seq_nx, seq_rt, seq_er, seq_bk, seq_ct, ite_and, ite_or, ite_and2, ite_or2, ite_andB, ite_orB, cE, varE, shE, shr, bi2, un1, opE, unE, rd, List.getElem?_cons_zero, List.getElem?_cons_succ, List.set_cons_zero, List.set_cons_succ, leD, ltD, gtD, geD, cmpD, eqD_str, neD_str, eqD_int, neD_int, inD_sign, isD, isNone, ifB, caE, consA, nilA, ca1, rdAll, dAll, lenD, intF, tupF, lstF, Option.map_some, Option.map_none, Option.bind_some, addD, intD, subI, modI, divI, adI, negD, mulD, revND, revD, tupE, lstE, mtE, okTy, isStr, isLst, stripF, callE, callI, truT, tru1, tru, truD, blT, notT, andT, orT, ifE, notE, andE, orE, if_true, Bool.not_true, Bool.not_false, Bool.true_and, Bool.and_true, Bool.false_and, Bool.or_false, Bool.false_or, Bool.true_or, Bool.or_true, Bool.and_false, Bool.false_xor, Bool.true_xor, slE, noP, someP, sl1, slD, seqI, its1, optI, forS, turn, lcE, wipeS, restS, plainAt, List.getD_cons_zero, List.getD_cons_succ, List.all_cons, List.all_nil, muE, mu1, lstAt, dArgs, appF, popF, rvsF, extF, rng1I, rng2I, enI, zipI, zip2, starA, subS, decide_true, decide_false, Int.reduceLT, Int.reduceLE, Nat.reduceLT, Nat.reduceLeDiff, true_and, and_true, Bool.false_eq_true, if_false, ite_true, ite_false, reduceIte, reduceCtorEq, Option.some.injEq, le, e0, mod_pos p6, z2, ht, hl0, hsg, e1, mod_pos hm, hsm, rng_zero]
  rw [e2]
  simp only [Gv, Gio, ins, List.map_cons, List.map_nil, List.length_cons, List.length_nil, Nat.sub_self, List.replicate_zero, List.append_nil, List.nil_append, List.cons_append, List.replicate_succ, Nat.reduceSub, Nat.reduceAdd, retS, retN, ret1, setS, sto, stoO, freeAt, free_dv, dv_some, dv_none, free_d, free_n, free_o, plain_dv, plain_dd, plain_n, dropS, seqS, ifS, raiS, nextS, brkS, cntS, unpS, tpG, itsOf, bindAll, optO, nmG, augS, chE, bind_ok, bind_er, out_ok, out_er, seq_nx, seq_rt, seq_er, seq_bk, seq_ct, ite_and, ite_or, ite_and2, ite_or2, ite_andB, ite_orB, cE, varE, shE, shr, bi2, un1, opE, unE, rd, List.getElem?_cons_zero, List.getElem?_cons_succ, List.set_cons_zero, List.set_cons_succ, leD, ltD, gtD, geD, cmpD, eqD_str, neD_str, eqD_int, neD_int, inD_sign, isD, isNone, ifB, caE, consA, nilA, ca1, rdAll, dAll, lenD, intF, tupF, lstF, Option.map_some, Option.map_none, Option.bind_some, addD, intD, subI, modI, divI, adI, negD, mulD, revND, revD, tupE, lstE, mtE, okTy, isStr, isLst, stripF, callE, callI, truT, tru1, tru, truD, blT, notT, andT, orT, ifE, notE, andE, orE, if_true, Bool.not_true, Bool.not_false, Bool.true_and, Bool.and_true, Bool.false_and, Bool.or_false, Bool.false_or, Bool.true_or, Bool.or_true, Bool.and_false, Bool.false_xor, Bool.true_xor, slE, noP, someP, sl1, slD, seqI, its1, optI, forS, turn, lcE, wipeS, restS, plainAt, List.getD_cons_zero, List.getD_cons_succ, List.all_cons, List.all_nil, muE, mu1, lstAt, dArgs, appF, popF, rvsF, extF, rng1I, rng2I, enI, zipI, zip2, starA, subS, decide_true, decide_false, Int.reduceLT, Int.reduceLE, Nat.reduceLT, Nat.reduceLeDiff, true_and, and_true, Bool.false_eq_true, if_false, ite_true, ite_false, reduceIte, reduceCtorEq, Option.some.injEq]
  rw [joinF_signs (by omega)]
  simp only [Gv, Gio, ins, List.map_cons, List.map_nil, List.length_cons, List.length_nil, Nat.sub_self, List.replicate_zero, List.append_nil, List.nil_append, List.cons_append, List.replicate_succ, Nat.reduceSub, Nat.reduceAdd, retS, retN, ret1, setS, sto, stoO, freeAt, free_dv, dv_some, dv_none, free_d, free_n, free_o, plain_dv, plain_dd, plain_n, dropS, seqS, ifS, raiS, nextS, brkS, cntS, unpS, tpG, itsOf, bindAll, optO, nmG, augS, chE, bind_ok, bind_er, out_ok, out_er, seq_nx, seq_rt, seq_er, seq_bk, seq_ct, ite_and, ite_or, ite_and2, ite_or2, ite_andB, ite_orB, cE, varE, shE, shr, bi2, un1, opE, unE, rd, List.getElem?_cons_zero, List.getElem?_cons_succ, List.set_cons_zero, List.set_cons_succ, leD, ltD, gtD, geD, cmpD, eqD_str, neD_str, eqD_int, neD_int, inD_sign, isD, isNone, ifB, caE, consA, nilA, ca1, rdAll, dAll, lenD, intF, tupF, lstF, Option.map_some, Option.map_none, Option.bind_some, addD, intD, subI, modI, divI, adI, negD, mulD, revND, revD, tupE, lstE, mtE, okTy, isStr, isLst, stripF, callE, callI, truT, tru1, tru, truD, blT, notT, andT, orT, ifE, notE, andE, orE, if_true, Bool.not_true, Bool.not_false, Bool.true_and, Bool.and_true, Bool.false_and, Bool.or_false, Bool.false_or, Bool.true_or, Bool.or_true, Bool.and_false, Bool.false_xor, Bool.true_xor, slE, noP, someP, sl1, slD, seqI, its1, optI, forS, turn, lcE, wipeS, restS, plainAt, List.getD_cons_zero, List.getD_cons_succ, List.all_cons, List.all_nil, muE, mu1, lstAt, dArgs, appF, popF, rvsF, extF, rng1I, rng2I, enI, zipI, zip2, starA, subS, decide_true, decide_false, Int.reduceLT, Int.reduceLE, Nat.reduceLT, Nat.reduceLeDiff, true_and, and_true, Bool.false_eq_true, if_false, ite_true, ite_false, reduceIte, reduceCtorEq, Option.some.injEq]
  exact ⟨_, rfl, rfl⟩
theorem law_is_word_c {k : Int} (w : Str) (hw : w.length ≤ 1000) (s : S) : call1 2 F_law_is_word [.d (.int k), .d (.str w)] s = .ok (.d (.bool (isWord k w))) s := by
  refine call_rt (ds := [.int k, .str w]) rfl ?_
  have le : cutS "abcdef" none (some k) = letters k := rfl
  have lw : w.cps.toList.length = w.length := Array.length_toList
  have lc : lcL (nmG 2) yesT (opE (inD false) (varE 2) (slE (cE (.str "abcdef")) noP (someP (varE 0)))) [2] (w.cps.toList.map fun c => .str (tx [c])) [] [some (.d (.int k)), some (.d (.str w)), none] =
      .ok (.o true (.L ([] ++ w.cps.toList.map fun c => .bool (decide (c ∈ (letters k).cps.toList))))) [some (.d (.int k)), some (.d (.str w)), none] := by
    refine lcL_m (i := fun c : Nat => PyData.str (tx [c])) (f := fun c => .bool (decide (c ∈ (letters k).cps.toList))) (by show 0 + _ ≤ _; omega) fun c _ => ⟨_, rfl, rfl, ?_⟩
    simp only [Gv, Gio, ins, List.map_cons, List.map_nil, List.length_cons, List.length_nil, Nat.sub_self, List.replicate_zero, List.append_nil, List.nil_append, List.cons_append, List.replicate_succ, Nat.reduceSub, Nat.reduceAdd, retS, retN, ret1, setS, sto, stoO, freeAt, free_dv, dv_some, dv_none, free_d, free_n, free_o, plain_dv, plain_dd, plain_n, dropS, seqS, ifS, raiS, nextS, brkS, cntS, unpS, tpG, itsOf, bindAll, optO, nmG, augS, chE, bind_ok, bind_er, out_ok, out_er, seq_nx, seq_rt, seq_er, seq_bk, seq_ct, ite_and, ite_or, ite_and2, ite_or2, ite_andB, ite_orB, cE, varE, shE, shr, bi2, un1, opE, unE, rd, List.getElem?_cons_zero, List.getElem?_cons_succ, List.set_cons_zero, List.set_cons_succ, leD, ltD, gtD, geD, cmpD, eqD_str, neD_str, eqD_int, neD_int, inD_sign, isD, isNone, ifB, caE, consA, nilA, ca1, rdAll, dAll, lenD, intF, tupF, lstF, Option.map_some, Option.map_none, Option.bind_some, addD, intD, subI, modI, divI, adI, negD, mulD, revND, revD, tupE, lstE, mtE, okTy, isStr, isLst, stripF, callE, callI, truT, tru1, tru, truD, blT, notT, andT, orT, ifE, notE, andE, orE, if_true, Bool.not_true, Bool.not_false, Bool.true_and, Bool.and_true, Bool.false_and, Bool.or_false, Bool.false_or, Bool.true_or, Bool.or_true, Bool.and_false, Bool.false_xor, Bool.true_xor, slE, noP, someP, sl1, slD, seqI, its1, optI, forS, turn, lcE, wipeS, restS, plainAt, List.getD_cons_zero, List.getD_cons_succ, List.all_cons, List.all_nil, muE, mu1, lstAt, dArgs, appF, popF, rvsF, extF, rng1I, rng2I, enI, zipI, zip2, starA, subS, decide_true, decide_false, Int.reduceLT, Int.reduceLE, Nat.reduceLT, Nat.reduceLeDiff, true_and, and_true, Bool.false_eq_true, if_false, ite_true, ite_false, reduceIte, reduceCtorEq, Option.some.injEq, le]
  rw [List.nil_append] at lc
  have af : allF [.list (w.cps.toList.map fun c => .bool (decide (c ∈ (letters k).cps.toList)))] = some (.d (.bool (w.cps.toList.all fun c => decide (c ∈ (letters k).cps.toList)))) := allF_map _ fun c => decide (c ∈ (letters k).cps.toList)
  have e : isWord k w = (decide (((w.length : Nat) : Int) < 61) && w.cps.toList.all fun c => decide (c ∈ (letters k).cps.toList)) := by
    unfold isWord
    rw [strip_iff]
    have : decide (((w.length : Nat) : Int) ≤ 60) = decide (((w.length : Nat) : Int) < 61) := decide_eq_decide.mpr (by omega)
    rw [this]
  rw [e]
  obtain ⟨b, hb⟩ : ∃ b, b = w.cps.toList.all fun c => decide (c ∈ (letters k).cps.toList) := ⟨_, rfl⟩
  rw [← hb] at af ⊢
  obtain ⟨C, hC⟩ : ∃ C, C = w.cps.toList.map fun c => PyData.bool (decide (c ∈ (letters k).cps.toList)) := ⟨_, rfl⟩
  rw [← hC] at lc af
  have its := items_str w
  obtain ⟨I, hI⟩ : ∃ I, I = w.cps.toList.map fun c => PyData.str (tx [c]) := ⟨_, rfl⟩
  rw [← hI] at lc its
  cases q : decide (((w.length : Nat) : Int) < 61)
  · simp only [b_law_is_word, Gv, Gio, ins, List.map_cons, List.map_nil, List.length_cons, List.length_nil, Nat.sub_self, List.replicate_zero, List.append_nil, List.nil_append, List.cons_append, List.replicate_succ, Nat.reduceSub, Nat.reduceAdd, retS, retN, ret1, setS, sto, stoO, freeAt, free_dv, dv_some, dv_none, free_d, free_n, free_o, plain_dv, plain_dd, plain_n, dropS, seqS, ifS, raiS, nextS, brkS, cntS, unpS, tpG, itsOf, bindAll, optO, nmG, augS, chE, bind_ok, bind_er, out_ok, out_er, seq_nx, seq_rt, seq_er, seq_bk, seq_ct, ite_and, ite_or, ite_and2, ite_or2, ite_andB, ite_orB, cE, varE, shE, shr, bi2, un1, opE, unE, rd, List.getElem?_cons_zero, List.getElem?_cons_succ, List.set_cons_zero, List.set_cons_succ, leD, ltD, gtD, geD, cmpD, eqD_str, neD_str, eqD_int, neD_int, inD_sign, isD, isNone, ifB, caE, consA, nilA, ca1, rdAll, dAll, lenD, intF, tupF, lstF, Option.map_some, Option.map_none, Option.bind_some, addD, intD, subI, modI, divI, adI, negD, mulD, revND, revD, tupE, lstE, mtE, okTy, isStr, isLst, stripF, callE, callI, truT, tru1, tru, truD, blT, notT, andT, orT, ifE, notE, andE, orE, if_true, Bool.not_true, Bool.not_false, Bool.true_and, Bool.and_true, Bool.false_and, Bool.or_false, Bool.false_or, Bool.true_or, Bool.or_true, Bool.and_false, Bool.false_xor, Bool.true_xor, slE, noP, someP, sl1, slD, seqI, its1, optI, forS, turn, lcE, wipeS, restS, plainAt, List.getD_cons_zero, List.getD_cons_succ, List.all_cons, List.all_nil, muE, mu1, lstAt, dArgs, appF, popF, rvsF, extF, rng1I, rng2I, enI, zipI, zip2, starA, subS, decide_true, decide_false, Int.reduceLT, Int.reduceLE, Nat.reduceLT, Nat.reduceLeDiff, true_and, and_true, Bool.false_eq_true, if_false, ite_true, ite_false, reduceIte, reduceCtorEq, Option.some.injEq, q]
    exact ⟨_, rfl⟩
  · simp only [b_law_is_word, Gv, Gio, ins, List.map_cons, List.map_nil, List.length_cons, List.length_nil, Nat.sub_self, List.replicate_zero, List.append_nil, List.nil_append, List.cons_append, List.replicate_succ, Nat.reduceSub, Nat.reduceAdd, retS, retN, ret1, setS, sto, stoO, freeAt, free_dv, dv_some, dv_none, free_d, free_n, free_o, plain_dv, plain_dd, plain_n, dropS, seqS, ifS, raiS, nextS, brkS, cntS, unpS, tpG, itsOf, bindAll, optO, nmG, augS, chE, bind_ok, bind_er, out_ok, out_er, seq_nx, seq_rt, seq_er, seq_bk, seq_ct, ite_and, ite_or, ite_and2, ite_or2, ite_andB, ite_orB, cE, varE, shE, shr, bi2, un1, opE, unE, rd, List.getElem?_cons_zero, List.getElem?_cons_succ, List.set_cons_zero, List.set_cons_succ, leD, ltD, gtD, geD, cmpD, eqD_str, neD_str, eqD_int, neD_int, inD_sign, isD, isNone, ifB, caE, consA, nilA, ca1, rdAll, dAll, lenD, intF, tupF, lstF, Option.map_some, Option.map_none, Option.bind_some, addD, intD, subI, modI, divI, adI, negD, mulD, revND, revD, tupE, lstE, mtE, okTy, isStr, isLst, stripF, callE, callI, truT, tru1, tru, truD, blT, notT, andT, orT, ifE, notE, andE, orE, if_true, Bool.not_true, Bool.not_false, Bool.true_and, Bool.and_true, Bool.false_and, Bool.or_false, Bool.false_or, Bool.true_or, Bool.or_true, Bool.and_false, Bool.false_xor, Bool.true_xor, slE, noP, someP, sl1, slD, seqI, its1, optI, forS, turn, lcE, wipeS, restS, plainAt, List.getD_cons_zero, List.getD_cons_succ, List.all_cons, List.all_nil, muE, mu1, lstAt, dArgs, appF, popF, rvsF, extF, rng1I, rng2I, enI, zipI, zip2, starA, subS, decide_true, decide_false, Int.reduceLT, Int.reduceLE, Nat.reduceLT, Nat.reduceLeDiff, true_and, and_true, Bool.false_eq_true, if_false, ite_true, ite_false, reduceIte, reduceCtorEq, Option.some.injEq, q, its, lc, plain_n, af]
    exact ⟨_, rfl⟩
theorem law_size_place_c (w : Str) (s : S) : call1 1 F_law_size_place [.d (.str w)] s = .ok (.d (.tuple [.int ((w.length : Nat) : Int), .str w])) s := by
  refine call_rt (ds := [.str w]) rfl ?_
  have z2 : (2 : Nat) ≤ 16777216 := by decide
  simp only [b_law_size_place, Gv, Gio, ins, List.map_cons, List.map_nil, List.length_cons, List.length_nil, Nat.sub_self, List.replicate_zero, List.append_nil, List.nil_append, List.cons_append, List.replicate_succ, Nat.reduceSub, Nat.reduceAdd, retS, retN, ret1, setS, sto, stoO, freeAt, free_dv, dv_some, dv_none, free_d, free_n, free_o, plain_dv, plain_dd, plain_n, dropS, seqS, ifS, raiS, nextS, brkS, cntS, unpS, tpG, itsOf, bindAll, optO, nmG, augS, chE, bind_ok, bind_er, out_ok, out_er, seq_nx, seq_rt, seq_er, seq_bk, seq_ct, ite_and, ite_or, ite_and2, ite_or2, ite_andB, ite_orB, cE, varE, shE, shr, bi2, un1, opE, unE, rd, List.getElem?_cons_zero, List.getElem?_cons_succ, List.set_cons_zero, List.set_cons_succ, leD, ltD, gtD, geD, cmpD, eqD_str, neD_str, eqD_int, neD_int, inD_sign, isD, isNone, ifB, caE, consA, nilA, ca1, rdAll, dAll, lenD, intF, tupF, lstF, Option.map_some, Option.map_none, Option.bind_some, addD, intD, subI, modI, divI, adI, negD, mulD, revND, revD, tupE, lstE, mtE, okTy, isStr, isLst, stripF, callE, callI, truT, tru1, tru, truD, blT, notT, andT, orT, ifE, notE, andE, orE, if_true, Bool.not_true, Bool.not_false, Bool.true_and, Bool.and_true, Bool.false_and, Bool.or_false, Bool.false_or, Bool.true_or, Bool.or_true, Bool.and_false, Bool.false_xor, Bool.true_xor, slE, noP, someP, sl1, slD, seqI, its1, optI, forS, turn, lcE, wipeS, restS, plainAt, List.getD_cons_zero, List.getD_cons_succ, List.all_cons, List.all_nil, muE, mu1, lstAt, dArgs, appF, popF, rvsF, extF, rng1I, rng2I, enI, zipI, zip2, starA, subS, decide_true, decide_false, Int.reduceLT, Int.reduceLE, Nat.reduceLT, Nat.reduceLeDiff, true_and, and_true, Bool.false_eq_true, if_false, ite_true, ite_false, reduceIte, reduceCtorEq, Option.some.injEq, z2]
  exact ⟨_, rfl⟩
theorem listed_loop {k : Int} (a : 2 ≤ k) (b : k ≤ 6) {x1 x2 x3 : Option Vl} : ∀ (ws acc : List Str) (x : Option D), (∀ w ∈ ws, w.length ≤ 10) → acc.length + ws.length * 6 ≤ 100000 →
    ∃ x', forL (nmG 5) b_law_listed_1 (ws.map .str) [some (.d (.int k)), x1, x2, x3, some (.o true (.L (acc.map .str))), dv x, none] = .nx [some (.d (.int k)), x1, x2, x3, some (.o true (.L ((acc ++ ws.flatMap (ext k)).map .str))), dv x', none]
  | [], acc, x, _, _ => ⟨x, by rw [List.flatMap_nil, List.append_nil]; rfl⟩
  | w :: ws, acc, x, hw, hl => by
    rw [List.length_cons] at hl
    have l6 : (letters k).cps.toList.length ≤ 6 := by rw [Array.length_toList]; exact letters_len k
    have le : (ext k w).length ≤ 6 := by unfold ext; rw [List.length_map]; exact l6
    obtain ⟨x', e⟩ := listed_loop a b (x1 := x1) (x2 := x2) (x3 := x3) ws (acc ++ ext k w) (some (.str w)) (fun v m => hw v (List.mem_cons_of_mem _ m)) (by rw [List.length_append]; omega)
    have w10 := hw w List.mem_cons_self
    refine ⟨x', ?_⟩
    have el : cutS "abcdef" none (some k) = letters k := rfl
    have its := items_str (letters k)
    have lc := lcL_m (i := fun c : Nat => PyData.str (tx [c])) (f := fun c : Nat => .str (w ++ tx [c])) (g := nmG 6) (vs := [6]) (xs := (letters k).cps.toList) (acc := []) (e := shE (opE addD (varE 5) (varE 6)))
      (s := [some (.d (.int k)), x1, x2, x3, some (.o true (.L (acc.map .str))), some (.d (.str w)), none]) (by show 0 + _ ≤ _; omega) (fun c mc => by
        have z : w.length + (tx [c]).length ≤ 16777216 := by show w.length + 1 ≤ _; omega
        exact ⟨_, rfl, rfl, by simp only [Gv, Gio, ins, List.map_cons, List.map_nil, List.length_cons, List.length_nil, Nat.sub_self, List.replicate_zero, List.append_nil, List.nil_append, List.cons_append, List.replicate_succ, Nat.reduceSub, Nat.reduceAdd, retS, retN, ret1, setS, sto, stoO, freeAt, free_dv, dv_some, dv_none, free_d, free_n, free_o, plain_dv, plain_dd, plain_n, dropS, seqS, ifS, raiS, nextS, brkS, cntS, unpS, tpG, itsOf, bindAll, optO, nmG, augS, chE, bind_ok, bind_er, out_ok, out_er, seq_nx, seq_rt, seq_er, seq_bk, seq_ct, ite_and, ite_or, ite_and2, ite_or2, ite_andB, ite_orB, cE, varE, shE, shr, bi2, un1, opE, unE, rd, List.getElem?_cons_zero, List.getElem?_cons_succ, List.set_cons_zero, List.set_cons_succ, leD, ltD, gtD, geD, cmpD, eqD_str, neD_str, eqD_int, neD_int, inD_sign, isD, isNone, ifB, caE, consA, nilA, ca1, rdAll, dAll, lenD, intF, tupF, lstF, Option.map_some, Option.map_none, Option.bind_some, addD, intD, subI, modI, divI, adI, negD, mulD, revND, revD, tupE, lstE, mtE, okTy, isStr, isLst, stripF, callE, callI, truT, tru1, tru, truD, blT, notT, andT, orT, ifE, notE, andE, orE, if_true, Bool.not_true, Bool.not_false, Bool.true_and, Bool.and_true, Bool.false_and, Bool.or_false, Bool.false_or, Bool.true_or, Bool.or_true, Bool.and_false, Bool.false_xor, Bool.true_xor, slE, noP, someP, sl1, slD, seqI, its1, optI, forS, turn, lcE, wipeS, restS, plainAt, List.getD_cons_zero, List.getD_cons_succ, List.all_cons, List.all_nil, muE, mu1, lstAt, dArgs, appF, popF, rvsF, extF, rng1I, rng2I, enI, zipI, zip2, starA, subS, decide_true, decide_false, Int.reduceLT, Int.reduceLE, Nat.reduceLT, Nat.reduceLeDiff, true_and, and_true, Bool.false_eq_true, if_false, ite_true, ite_false, reduceIte, reduceCtorEq, Option.some.injEq, z]⟩)
    have ef : (letters k).cps.toList.map (fun c : Nat => PyData.str (w ++ tx [c])) = (ext k w).map .str := by
      unfold ext
      rw [List.map_map]
      rfl
    rw [List.nil_append, ef] at lc
    have z : acc.length + (ext k w).length ≤ 16777216 := by omega
    obtain ⟨I, hI⟩ : ∃ I, I = (letters k).cps.toList.map fun c => PyData.str (tx [c]) := ⟨_, rfl⟩
    rw [← hI] at lc its
    have ht : turn (nmG 5) b_law_listed_1 (.str w) [some (.d (.int k)), x1, x2, x3, some (.o true (.L (acc.map .str))), dv x, none] = .nx [some (.d (.int k)), x1, x2, x3, some (.o true (.L ((acc ++ ext k w).map .str))), some (.d (.str w)), none] := by
      rw [List.map_append]
      simp only [b_law_listed_1, Gv, Gio, ins, List.map_cons, List.map_nil, List.length_cons, List.length_nil, Nat.sub_self, List.replicate_zero, List.append_nil, List.nil_append, List.cons_append, List.replicate_succ, Nat.reduceSub, Nat.reduceAdd, retS, retN, ret1, setS, sto, stoO, freeAt, free_dv, dv_some, dv_none, free_d, free_n, free_o, plain_dv, plain_dd, plain_n, dropS, seqS, ifS, raiS, nextS, brkS, cntS, unpS, tpG, itsOf, bindAll, optO, nmG, augS, chE, bind_ok, bind_er, out_ok, out_er, seq_nx, seq_rt, seq_er, seq_bk, seq_ct, ite_and, ite_or, ite_and2, ite_or2, ite_andB, ite_orB, cE, varE, shE, shr, bi2, un1, opE, unE, rd, List.getElem?_cons_zero, List.getElem?_cons_succ, List.set_cons_zero, List.set_cons_succ, leD, ltD, gtD, geD, cmpD, eqD_str, neD_str, eqD_int, neD_int, inD_sign, isD, isNone, ifB, caE, consA, nilA, ca1, rdAll, dAll, lenD, intF, tupF, lstF, Option.map_some, Option.map_none, Option.bind_some, addD, intD, subI, modI, divI, adI, negD, mulD, revND, revD, tupE, lstE, mtE, okTy, isStr, isLst, stripF, callE, callI, truT, tru1, tru, truD, blT, notT, andT, orT, ifE, notE, andE, orE, if_true, Bool.not_true, Bool.not_false, Bool.true_and, Bool.and_true, Bool.false_and, Bool.or_false, Bool.false_or, Bool.true_or, Bool.or_true, Bool.and_false, Bool.false_xor, Bool.true_xor, slE, noP, someP, sl1, slD, seqI, its1, optI, forS, turn, lcE, wipeS, restS, plainAt, List.getD_cons_zero, List.getD_cons_succ, List.all_cons, List.all_nil, muE, mu1, lstAt, dArgs, appF, popF, rvsF, extF, rng1I, rng2I, enI, zipI, zip2, starA, subS, decide_true, decide_false, Int.reduceLT, Int.reduceLE, Nat.reduceLT, Nat.reduceLeDiff, true_and, and_true, Bool.false_eq_true, if_false, ite_true, ite_false, reduceIte, reduceCtorEq, Option.some.injEq, el, its]
      rw [lc]
      simp only [Gv, Gio, ins, List.map_cons, List.map_nil, List.length_cons, List.length_nil, Nat.sub_self, List.replicate_zero, List.append_nil, List.nil_append, List.cons_append, List.replicate_succ, Nat.reduceSub, Nat.reduceAdd, retS, retN, ret1, setS, sto, stoO, freeAt, free_dv, dv_some, dv_none, free_d, free_n, free_o, plain_dv, plain_dd, plain_n, dropS, seqS, ifS, raiS, nextS, brkS, cntS, unpS, tpG, itsOf, bindAll, optO, nmG, augS, chE, bind_ok, bind_er, out_ok, out_er, seq_nx, seq_rt, seq_er, seq_bk, seq_ct, ite_and, ite_or, ite_and2, ite_or2, ite_andB, ite_orB, cE, varE, shE, shr, bi2, un1, opE, unE, rd, List.getElem?_cons_zero, List.getElem?_cons_succ, List.set_cons_zero, List.set_cons_succ, leD, ltD, gtD, geD, cmpD, eqD_str, neD_str, eqD_int, neD_int, inD_sign, isD, isNone, ifB, caE, consA, nilA, ca1, rdAll, dAll, lenD, intF, tupF, lstF, Option.map_some, Option.map_none, Option.bind_some, addD, intD, subI, modI, divI, adI, negD, mulD, revND, revD, tupE, lstE, mtE, okTy, isStr, isLst, stripF, callE, callI, truT, tru1, tru, truD, blT, notT, andT, orT, ifE, notE, andE, orE, if_true, Bool.not_true, Bool.not_false, Bool.true_and, Bool.and_true, Bool.false_and, Bool.or_false, Bool.false_or, Bool.true_or, Bool.or_true, Bool.and_false, Bool.false_xor, Bool.true_xor, slE, noP, someP, sl1, slD, seqI, its1, optI, forS, turn, lcE, wipeS, restS, plainAt, List.getD_cons_zero, List.getD_cons_succ, List.all_cons, List.all_nil, muE, mu1, lstAt, dArgs, appF, popF, rvsF, extF, rng1I, rng2I, enI, zipI, zip2, starA, subS, decide_true, decide_false, Int.reduceLT, Int.reduceLE, Nat.reduceLT, Nat.reduceLeDiff, true_and, and_true, Bool.false_eq_true, if_false, ite_true, ite_false, reduceIte, reduceCtorEq, Option.some.injEq, List.length_map, z]
    rw [List.map_cons, forL_cons, ht]
    show forL (nmG 5) b_law_listed_1 (ws.map .str) [some (.d (.int k)), x1, x2, x3, some (.o true (.L ((acc ++ ext k w).map .str))), dv (some (.str w)), none] = _
    rw [e, List.flatMap_cons, List.append_assoc]
theorem law_listed_c {k : Int} (a : 2 ≤ k) (b : k ≤ 6) {n : Nat} (hn : n ≤ 3) : ∃ r : Vl, (r = .o true (.L ((wl k n).map .str)) ∨ r = .d (.list ((wl k n).map .str))) ∧ ∀ s, call1 2 F_law_listed [.d (.int k), .d (.int ((n : Nat) : Int))] s = .ok r s := by
  have z1 : (1 : Nat) ≤ 16777216 := by decide
  have z0 : (0 : Nat) ≤ 16777216 := by decide
  obtain ⟨s', e1, r, x, y, z, rfl, hr⟩ := forL_n (g := nmG 3) (b := b_law_listed_2) (i := fun j : Nat => .int ((j : Nat) : Int)) (xs := List.range n)
    (s := [some (.d (.int k)), some (.d (.int ((n : Nat) : Int))), some (.o true (.L [.str ""])), none, none, none, none])
    (St := fun m s => ∃ (r : Vl) (x : Option D) (y : Option Vl) (z : Option D), s = [some (.d (.int k)), some (.d (.int ((n : Nat) : Int))), some r, dv x, y, dv z, none] ∧ ((m = 0 ∧ r = .o true (.L [.str ""]) ∧ y = none) ∨ (0 < m ∧ r = .d (.list ((wl k m).map .str)) ∧ y = some (.d (.list ((wl k m).map .str))))))
    ⟨_, none, none, none, rfl, .inl ⟨rfl, rfl, rfl⟩⟩ (by
      rintro m j em s ⟨r, x, y, z, rfl, hr⟩
      have hm : m < n := by
        have := (List.getElem?_eq_some_iff.mp em).1
        rw [List.length_range] at this
        exact this
      have p1 : 6 ^ (m + 1) ≤ 6 ^ 4 := Nat.pow_le_pow_right (by decide) (by omega)
      have p1 : 6 ^ (m + 1) ≤ 1296 := p1
      have w1 := wl_size k (m + 1)
      have p0 : 6 ^ m ≤ 6 ^ 4 := Nat.pow_le_pow_right (by decide) (by omega)
      have p0 : 6 ^ m ≤ 1296 := p0
      have w0 := wl_size k m
      have hi : itemsD (.list ((wl k m).map PyData.str)) = some ((wl k m).map PyData.str) := rfl
      obtain ⟨x', rl⟩ := listed_loop a b (x1 := some (.d (.int ((n : Nat) : Int)))) (x2 := some (.d (.list ((wl k m).map .str)))) (x3 := some (.d (.int ((j : Nat) : Int)))) (wl k m) [] z (fun w mw => by rw [wl_len mw]; omega) (by rw [List.length_nil]; omega)
      have rl : forL (nmG 5) b_law_listed_1 ((wl k m).map .str) [some (.d (.int k)), some (.d (.int ((n : Nat) : Int))), some (.d (.list ((wl k m).map .str))), some (.d (.int ((j : Nat) : Int))), some (.o true (.L [])), dv z, none] =
        .nx [some (.d (.int k)), some (.d (.int ((n : Nat) : Int))), some (.d (.list ((wl k m).map .str))), some (.d (.int ((j : Nat) : Int))), some (.o true (.L ((wl k (m + 1)).map .str))), dv x', none] := rl
      refine ⟨[some (.d (.int k)), some (.d (.int ((n : Nat) : Int))), some (.d (.list ((wl k (m + 1)).map .str))), some (.d (.int ((j : Nat) : Int))), some (.d (.list ((wl k (m + 1)).map .str))), dv x', none], .inl ?_, _, some (.int ((j : Nat) : Int)), _, x', rfl, .inr ⟨Nat.succ_pos _, rfl, rfl⟩⟩
      rcases hr with ⟨rfl, rfl, rfl⟩ | ⟨_, rfl, rfl⟩
      · have hi : itemsD (.list [PyData.str ""]) = some [PyData.str ""] := rfl
        have rl : forL (nmG 5) b_law_listed_1 [.str ""] [some (.d (.int k)), some (.d (.int ((n : Nat) : Int))), some (.d (.list [.str ""])), some (.d (.int ((j : Nat) : Int))), some (.o true (.L [])), dv z, none] = _ := rl
        simp only [b_law_listed_2, Gv, Gio, ins, List.map_cons, List.map_nil, List.length_cons, List.length_nil, Nat.sub_self, List.replicate_zero, List.append_nil, List.nil_append, List.cons_append, List.replicate_succ, Nat.reduceSub, Nat.reduceAdd, retS, retN, ret1, setS, sto, stoO, freeAt, free_dv, dv_some, dv_none, free_d, free_n, free_o, plain_dv, plain_dd, plain_n, dropS, seqS, ifS, raiS, nextS, brkS, cntS, unpS, tpG, itsOf, bindAll, optO, nmG, augS, chE, bind_ok, bind_er, out_ok, out_er, seq_nx, seq_rt, seq_er, seq_bk, seq_ct, ite_and, ite_or, ite_and2, ite_or2, ite_andB, ite_orB, cE, varE, shE, shr, bi2, un1, opE, unE, rd, List.getElem?_cons_zero, List.getElem?_cons_succ, List.set_cons_zero, List.set_cons_succ, leD, ltD, gtD, geD, cmpD, eqD_str, neD_str, eqD_int, neD_int, inD_sign, isD, isNone, ifB, caE, consA, nilA, ca1, rdAll, dAll, lenD, intF, tupF, lstF, Option.map_some, Option.map_none, Option.bind_some, addD, intD, subI, modI, divI, adI, negD, mulD, revND, revD, tupE, lstE, mtE, okTy, isStr, isLst, stripF, callE, callI, truT, tru1, tru, truD, blT, notT, andT, orT, ifE, notE, andE, orE, if_true, Bool.not_true, Bool.not_false, Bool.true_and, Bool.and_true, Bool.false_and, Bool.or_false, Bool.false_or, Bool.true_or, Bool.or_true, Bool.and_false, Bool.false_xor, Bool.true_xor, slE, noP, someP, sl1, slD, seqI, its1, optI, forS, turn, lcE, wipeS, restS, plainAt, List.getD_cons_zero, List.getD_cons_succ, List.all_cons, List.all_nil, muE, mu1, lstAt, dArgs, appF, popF, rvsF, extF, rng1I, rng2I, enI, zipI, zip2, starA, subS, decide_true, decide_false, Int.reduceLT, Int.reduceLE, Nat.reduceLT, Nat.reduceLeDiff, true_and, and_true, Bool.false_eq_true, if_false, ite_true, ite_false, reduceIte, reduceCtorEq, Option.some.injEq, z0, hi]
        rw [rl]
        simp only [Gv, Gio, ins, List.map_cons, List.map_nil, List.length_cons, List.length_nil, Nat.sub_self, List.replicate_zero, List.append_nil, List.nil_append, List.cons_append, List.replicate_succ, Nat.reduceSub, Nat.reduceAdd, retS, retN, ret1, setS, sto, stoO, freeAt, free_dv, dv_some, dv_none, free_d, free_n, free_o, plain_dv, plain_dd, plain_n, dropS, seqS, ifS, raiS, nextS, brkS, cntS, unpS, tpG, itsOf, bindAll, optO, nmG, augS, chE, bind_ok, bind_er, out_ok, out_er, seq_nx, seq_rt, seq_er, seq_bk, seq_ct, ite_and, ite_or, ite_and2, ite_or2, ite_andB, ite_orB, cE, varE, shE, shr, bi2, un1, opE, unE, rd, List.getElem?_cons_zero, List.getElem?_cons_succ, List.set_cons_zero, List.set_cons_succ, leD, ltD, gtD, geD, cmpD, eqD_str, neD_str, eqD_int, neD_int, inD_sign, isD, isNone, ifB, caE, consA, nilA, ca1, rdAll, dAll, lenD, intF, tupF, lstF, Option.map_some, Option.map_none, Option.bind_some, addD, intD, subI, modI, divI, adI, negD, mulD, revND, revD, tupE, lstE, mtE, okTy, isStr, isLst, stripF, callE, callI, truT, tru1, tru, truD, blT, notT, andT, orT, ifE, notE, andE, orE, if_true, Bool.not_true, Bool.not_false, Bool.true_and, Bool.and_true, Bool.false_and, Bool.or_false, Bool.false_or, Bool.true_or, Bool.or_true, Bool.and_false, Bool.false_xor, Bool.true_xor, slE, noP, someP, sl1, slD, seqI, its1, optI, forS, turn, lcE, wipeS, restS, plainAt, List.getD_cons_zero, List.getD_cons_succ, List.all_cons, List.all_nil, muE, mu1, lstAt, dArgs, appF, popF, rvsF, extF, rng1I, rng2I, enI, zipI, zip2, starA, subS, decide_true, decide_false, Int.reduceLT, Int.reduceLE, Nat.reduceLT, Nat.reduceLeDiff, true_and, and_true, Bool.false_eq_true, if_false, ite_true, ite_false, reduceIte, reduceCtorEq, Option.some.injEq]
      · simp only [b_law_listed_2, Gv, Gio, ins, List.map_cons, List.map_nil, List.length_cons, List.length_nil, Nat.sub_self, List.replicate_zero, List.append_nil, List.nil_append, List.cons_append, List.replicate_succ, Nat.reduceSub, Nat.reduceAdd, retS, retN, ret1, setS, sto, stoO, freeAt, free_dv, dv_some, dv_none, free_d, free_n, free_o, plain_dv, plain_dd, plain_n, dropS, seqS, ifS, raiS, nextS, brkS, cntS, unpS, tpG, itsOf, bindAll, optO, nmG, augS, chE, bind_ok, bind_er, out_ok, out_er, seq_nx, seq_rt, seq_er, seq_bk, seq_ct, ite_and, ite_or, ite_and2, ite_or2, ite_andB, ite_orB, cE, varE, shE, shr, bi2, un1, opE, unE, rd, List.getElem?_cons_zero, List.getElem?_cons_succ, List.set_cons_zero, List.set_cons_succ, leD, ltD, gtD, geD, cmpD, eqD_str, neD_str, eqD_int, neD_int, inD_sign, isD, isNone, ifB, caE, consA, nilA, ca1, rdAll, dAll, lenD, intF, tupF, lstF, Option.map_some, Option.map_none, Option.bind_some, addD, intD, subI, modI, divI, adI, negD, mulD, revND, revD, tupE, lstE, mtE, okTy, isStr, isLst, stripF, callE, callI, truT, tru1, tru, truD, blT, notT, andT, orT, ifE, notE, andE, orE, if_true, Bool.not_true, Bool.not_false, Bool.true_and, Bool.and_true, Bool.false_and, Bool.or_false, Bool.false_or, Bool.true_or, Bool.or_true, Bool.and_false, Bool.false_xor, Bool.true_xor, slE, noP, someP, sl1, slD, seqI, its1, optI, forS, turn, lcE, wipeS, restS, plainAt, List.getD_cons_zero, List.getD_cons_succ, List.all_cons, List.all_nil, muE, mu1, lstAt, dArgs, appF, popF, rvsF, extF, rng1I, rng2I, enI, zipI, zip2, starA, subS, decide_true, decide_false, Int.reduceLT, Int.reduceLE, Nat.reduceLT, Nat.reduceLeDiff, true_and, and_true, Bool.false_eq_true, if_false, ite_true, ite_false, reduceIte, reduceCtorEq, Option.some.injEq, z0, hi]
        rw [rl]
        simp only [Gv, Gio, ins, List.map_cons, List.map_nil, List.length_cons, List.length_nil, Nat.sub_self, List.replicate_zero, List.append_nil, List.nil_append, List.cons_append, List.replicate_succ, Nat.reduceSub, Nat.reduceAdd, retS, retN, ret1, setS, sto, stoO, freeAt, free_dv, dv_some, dv_none, free_d, free_n, free_o, plain_dv, plain_dd, plain_n, dropS, seqS, ifS, raiS, nextS, brkS, cntS, unpS, tpG, itsOf, bindAll, optO, nmG, augS, chE, bind_ok, bind_er, out_ok, out_er, seq_nx, seq_rt, seq_er, seq_bk, seq_ct, ite_and, ite_or, ite_and2, ite_or2, ite_andB, ite_orB, cE, varE, shE, shr, bi2, un1, opE, unE, rd, List.getElem?_cons_zero, List.getElem?_cons_succ, List.set_cons_zero, List.set_cons_succ, leD, ltD, gtD, geD, cmpD, eqD_str, neD_str, eqD_int, neD_int, inD_sign, isD, isNone, ifB, caE, consA, nilA, ca1, rdAll, dAll, lenD, intF, tupF, lstF, Option.map_some, Option.map_none, Option.bind_some, addD, intD, subI, modI, divI, adI, negD, mulD, revND, revD, tupE, lstE, mtE, okTy, isStr, isLst, stripF, callE, callI, truT, tru1, tru, truD, blT, notT, andT, orT, ifE, notE, andE, orE, if_true, Bool.not_true, Bool.not_false, Bool.true_and, Bool.and_true, Bool.false_and, Bool.or_false, Bool.false_or, Bool.true_or, Bool.or_true, Bool.and_false, Bool.false_xor, Bool.true_xor, slE, noP, someP, sl1, slD, seqI, its1, optI, forS, turn, lcE, wipeS, restS, plainAt, List.getD_cons_zero, List.getD_cons_succ, List.all_cons, List.all_nil, muE, mu1, lstAt, dArgs, appF, popF, rvsF, extF, rng1I, rng2I, enI, zipI, zip2, starA, subS, decide_true, decide_false, Int.reduceLT, Int.reduceLE, Nat.reduceLT, Nat.reduceLeDiff, true_and, and_true, Bool.false_eq_true, if_false, ite_true, ite_false, reduceIte, reduceCtorEq, Option.some.injEq])
  have hsm : smI ((n : Nat) : Int) = true := smI_of (by omega) (by omega)
  have e1 : forL (nmG 3) b_law_listed_2 ((List.range n).map fun j : Nat => PyData.int ((j : Nat) : Int)) [some (.d (.int k)), some (.d (.int ((n : Nat) : Int))), some (.o true (.L [.str ""])), none, none, none, none] = _ := e1
  rw [List.length_range] at hr
  rcases hr with ⟨rfl, rfl, rfl⟩ | ⟨_, rfl, rfl⟩
  · refine ⟨_, .inl rfl, fun s => call_ob (ds := [.int k, .int ((0 : Nat) : Int)]) rfl ?_⟩
    simp only [b_law_listed, Gv, Gio, ins, List.map_cons, List.map_nil, List.length_cons, List.length_nil, Nat.sub_self, List.replicate_zero, List.append_nil, List.nil_append, List.cons_append, List.replicate_succ, Nat.reduceSub, Nat.reduceAdd, retS, retN, ret1, setS, sto, stoO, freeAt, free_dv, dv_some, dv_none, free_d, free_n, free_o, plain_dv, plain_dd, plain_n, dropS, seqS, ifS, raiS, nextS, brkS, cntS, unpS, tpG, itsOf, bindAll, optO, nmG, augS, chE, bind_ok, bind_er, out_ok, out_er, seq_nx, seq_rt, seq_er, seq_bk, seq_ct, ite_and, ite_or, ite_and2, ite_or2, ite_andB, ite_orB, cE, varE, shE, shr, bi2, un1, opE, unE, rd, List.getElem?_cons_zero, List.getElem?_cons_succ, List.set_cons_zero, List.set_cons_succ, leD, ltD, gtD, geD, cmpD, eqD_str, neD_str, eqD_int, neD_int, inD_sign, isD, isNone, ifB, caE, consA, nilA, ca1, rdAll, dAll, lenD, intF, tupF, lstF, Option.map_some, Option.map_none, Option.bind_some, addD, intD, subI, modI, divI, adI, negD, mulD, revND, revD, tupE, lstE, mtE, okTy, isStr, isLst, stripF, callE, callI, truT, tru1, tru, truD, blT, notT, andT, orT, ifE, notE, andE, orE, if_true, Bool.not_true, Bool.not_false, Bool.true_and, Bool.and_true, Bool.false_and, Bool.or_false, Bool.false_or, Bool.true_or, Bool.or_true, Bool.and_false, Bool.false_xor, Bool.true_xor, slE, noP, someP, sl1, slD, seqI, its1, optI, forS, turn, lcE, wipeS, restS, plainAt, List.getD_cons_zero, List.getD_cons_succ, List.all_cons, List.all_nil, muE, mu1, lstAt, dArgs, appF, popF, rvsF, extF, rng1I, rng2I, enI, zipI, zip2, starA, subS, decide_true, decide_false, Int.reduceLT, Int.reduceLE, Nat.reduceLT, Nat.reduceLeDiff, true_and, and_true, Bool.false_eq_true, if_false, ite_true, ite_false, reduceIte, reduceCtorEq, Option.some.injEq, z1, hsm, rng_zero, Int.toNat_natCast]
    rw [e1]
    simp only [Gv, Gio, ins, List.map_cons, List.map_nil, List.length_cons, List.length_nil, Nat.sub_self, List.replicate_zero, List.append_nil, List.nil_append, List.cons_append, List.replicate_succ, Nat.reduceSub, Nat.reduceAdd, retS, retN, ret1, setS, sto, stoO, freeAt, free_dv, dv_some, dv_none, free_d, free_n, free_o, plain_dv, plain_dd, plain_n, dropS, seqS, ifS, raiS, nextS, brkS, cntS, unpS, tpG, itsOf, bindAll, optO, nmG, augS, chE, bind_ok, bind_er, out_ok, out_er, seq_nx, seq_rt, seq_er, seq_bk, seq_ct, ite_and, ite_or, ite_and2, ite_or2, ite_andB, ite_orB, cE, varE, shE, shr, bi2, un1, opE, unE, rd, List.getElem?_cons_zero, List.getElem?_cons_succ, List.set_cons_zero, List.set_cons_succ, leD, ltD, gtD, geD, cmpD, eqD_str, neD_str, eqD_int, neD_int, inD_sign, isD, isNone, ifB, caE, consA, nilA, ca1, rdAll, dAll, lenD, intF, tupF, lstF, Option.map_some, Option.map_none, Option.bind_some, addD, intD, subI, modI, divI, adI, negD, mulD, revND, revD, tupE, lstE, mtE, okTy, isStr, isLst, stripF, callE, callI, truT, tru1, tru, truD, blT, notT, andT, orT, ifE, notE, andE, orE, if_true, Bool.not_true, Bool.not_false, Bool.true_and, Bool.and_true, Bool.false_and, Bool.or_false, Bool.false_or, Bool.true_or, Bool.or_true, Bool.and_false, Bool.false_xor, Bool.true_xor, slE, noP, someP, sl1, slD, seqI, its1, optI, forS, turn, lcE, wipeS, restS, plainAt, List.getD_cons_zero, List.getD_cons_succ, List.all_cons, List.all_nil, muE, mu1, lstAt, dArgs, appF, popF, rvsF, extF, rng1I, rng2I, enI, zipI, zip2, starA, subS, decide_true, decide_false, Int.reduceLT, Int.reduceLE, Nat.reduceLT, Nat.reduceLeDiff, true_and, and_true, Bool.false_eq_true, if_false, ite_true, ite_false, reduceIte, reduceCtorEq, Option.some.injEq]
    exact ⟨_, rfl⟩
  · refine ⟨_, .inr rfl, fun s => call_rt (ds := [.int k, .int ((n : Nat) : Int)]) rfl ?_⟩
    simp only [b_law_listed, Gv, Gio, ins, List.map_cons, List.map_nil, List.length_cons, List.length_nil, Nat.sub_self, List.replicate_zero, List.append_nil, List.nil_append, List.cons_append, List.replicate_succ, Nat.reduceSub, Nat.reduceAdd, retS, retN, ret1, setS, sto, stoO, freeAt, free_dv, dv_some, dv_none, free_d, free_n, free_o, plain_dv, plain_dd, plain_n, dropS, seqS, ifS, raiS, nextS, brkS, cntS, unpS, tpG, itsOf, bindAll, optO, nmG, augS, chE, bind_ok, bind_er, out_ok, out_er, seq_nx, seq_rt, seq_er, seq_bk, seq_ct, ite_and, ite_or, ite_and2, ite_or2, ite_andB, ite_orB, cE, varE, shE, shr, bi2, un1, opE, unE, rd, List.getElem?_cons_zero, List.getElem?_cons_succ, List.set_cons_zero, List.set_cons_succ, leD, ltD, gtD, geD, cmpD, eqD_str, neD_str, eqD_int, neD_int, inD_sign, isD, isNone, ifB, caE, consA, nilA, ca1, rdAll, dAll, lenD, intF, tupF, lstF, Option.map_some, Option.map_none, Option.bind_some, addD, intD, subI, modI, divI, adI, negD, mulD, revND, revD, tupE, lstE, mtE, okTy, isStr, isLst, stripF, callE, callI, truT, tru1, tru, truD, blT, notT, andT, orT, ifE, notE, andE, orE, if_true, Bool.not_true, Bool.not_false, Bool.true_and, Bool.and_true, Bool.false_and, Bool.or_false, Bool.false_or, Bool.true_or, Bool.or_true, Bool.and_false, Bool.false_xor, Bool.true_xor, slE, noP, someP, sl1, slD, seqI, its1, optI, forS, turn, lcE, wipeS, restS, plainAt, List.getD_cons_zero, List.getD_cons_succ, List.all_cons, List.all_nil, muE, mu1, lstAt, dArgs, appF, popF, rvsF, extF, rng1I, rng2I, enI, zipI, zip2, starA, subS, decide_true, decide_false, Int.reduceLT, Int.reduceLE, Nat.reduceLT, Nat.reduceLeDiff, true_and, and_true, Bool.false_eq_true, if_false, ite_true, ite_false, reduceIte, reduceCtorEq, Option.some.injEq, z1, hsm, rng_zero, Int.toNat_natCast]
    rw [e1]
    simp only [Gv, Gio, ins, List.map_cons, List.map_nil, List.length_cons, List.length_nil, Nat.sub_self, List.replicate_zero, List.append_nil, List.nil_append, List.cons_append, List.replicate_succ, Nat.reduceSub, Nat.reduceAdd, retS, retN, ret1, setS, sto, stoO, freeAt, free_dv, dv_some, dv_none, free_d, free_n, free_o, plain_dv, plain_dd, plain_n, dropS, seqS, ifS, raiS, nextS, brkS, cntS, unpS, tpG, itsOf, bindAll, optO, nmG, augS, chE, bind_ok, bind_er, out_ok, out_er, seq_nx, seq_rt, seq_er, seq_bk, seq_ct, ite_and, ite_or, ite_and2, ite_or2, ite_andB, ite_orB, cE, varE, shE, shr, bi2, un1, opE, unE, rd, List.getElem?_cons_zero, List.getElem?_cons_succ, List.set_cons_zero, List.set_cons_succ, leD, ltD, gtD, geD, cmpD, eqD_str, neD_str, eqD_int, neD_int, inD_sign, isD, isNone, ifB, caE, consA, nilA, ca1, rdAll, dAll, lenD, intF, tupF, lstF, Option.map_some, Option.map_none, Option.bind_some, addD, intD, subI, modI, divI, adI, negD, mulD, revND, revD, tupE, lstE, mtE, okTy, isStr, isLst, stripF, callE, callI, truT, tru1, tru, truD, blT, notT, andT, orT, ifE, notE, andE, orE, if_true, Bool.not_true, Bool.not_false, Bool.true_and, Bool.and_true, Bool.false_and, Bool.or_false, Bool.false_or, Bool.true_or, Bool.or_true, Bool.and_false, Bool.false_xor, Bool.true_xor, slE, noP, someP, sl1, slD, seqI, its1, optI, forS, turn, lcE, wipeS, restS, plainAt, List.getD_cons_zero, List.getD_cons_succ, List.all_cons, List.all_nil, muE, mu1, lstAt, dArgs, appF, popF, rvsF, extF, rng1I, rng2I, enI, zipI, zip2, starA, subS, decide_true, decide_false, Int.reduceLT, Int.reduceLE, Nat.reduceLT, Nat.reduceLeDiff, true_and, and_true, Bool.false_eq_true, if_false, ite_true, ite_false, reduceIte, reduceCtorEq, Option.some.injEq]
    exact ⟨_, rfl⟩
end K
set_option Elab.async false
set_option linter.all false
set_option maxRecDepth 100000
set_option maxHeartbeats 4000000
namespace K
open PySem PySem.Spec L2 Sv M
theorem two_in {α : Type} {a b : α} (ne : a ≠ b) : ∀ {l : List α}, a ∈ l → b ∈ l → [a, b].Sublist l ∨ [b, a].Sublist l
  | [], h, _ => nomatch h
  | x :: l, ha, hb => by
    rcases List.mem_cons.mp ha with rfl | ha'
    · rcases List.mem_cons.mp hb with e | hb'
      · exact absurd e.symm ne
      · exact .inl (.cons₂ _ (List.singleton_sublist.mpr hb'))
    · rcases List.mem_cons.mp hb with rfl | hb'
      · exact .inr (.cons₂ _ (List.singleton_sublist.mpr ha'))
      · rcases two_in ne ha' hb' with q | q
        · exact .inl (.cons _ q)
        · exact .inr (.cons _ q)
theorem two_not {α : Type} {a b : α} : ∀ {l : List α}, l.Nodup → [a, b].Sublist l → [b, a].Sublist l → False
  | [], _, h, _ => by cases h
  | x :: l, nd, h1, h2 => by
    rw [List.nodup_cons] at nd
    cases h1 with
    | cons _ h1 =>
      cases h2 with
      | cons _ h2 => exact two_not nd.2 h1 h2
      | cons_cons _ h2 => exact nd.1 (h1.subset (List.mem_cons_of_mem _ List.mem_cons_self))
    | cons_cons _ h1 =>
      cases h2 with
      | cons _ h2 => exact nd.1 (h2.subset (List.mem_cons_of_mem _ List.mem_cons_self))
      | cons_cons _ h2 => exact nd.1 (List.singleton_sublist.mp h1)
def ltW (a b : Str) : Prop := a.length < b.length ∨ (a.length = b.length ∧ a.cps.toList < b.cps.toList)
theorem ltW_asymm {a b : Str} (h : ltW a b) (g : ltW b a) : False := by
  rcases h with h | ⟨h, h2⟩
  · rcases g with g | ⟨g, _⟩ <;> omega
  · rcases g with g | ⟨_, g2⟩
    · omega
    · exact List.lt_irrefl _ (List.lt_trans h2 g2)
theorem lt_of_leS {a b : Str} (h : leS a b = true) (ne : a ≠ b) : a.cps.toList < b.cps.toList := by
  rcases Decidable.em (a.cps.toList < b.cps.toList) with w | w
  · exact w
  · exact absurd (str_list.mpr (List.le_antisymm (leS_iff.mp h) (List.not_lt.mp w))) ne
theorem leL_trans (a b c : Str) (h1 : leL a b = true) (h2 : leL b c = true) : leL a c = true := by
  unfold leL at *
  have h1 := of_decide_eq_true h1
  have h2 := of_decide_eq_true h2
  exact decide_eq_true (Int.le_trans h1 h2)
theorem leL_total (a b : Str) : (leL a b || leL b a) = true := by
  unfold leL
  rw [Bool.or_eq_true, decide_eq_true_iff, decide_eq_true_iff]
  omega
theorem leL_iff {a b : Str} : leL a b = true ↔ a.length ≤ b.length := by
  unfold leL
  rw [decide_eq_true_iff]
  omega
theorem sortLL_lt {L : List Str} (pw : L.Pairwise fun a b => leS a b = true) (nd : L.Nodup) : (sortLL L).Pairwise ltW := by
  have nd2 : (sortLL L).Nodup := (List.mergeSort_perm L leL).nodup_iff.mpr nd
  have pl : (sortLL L).Pairwise fun a b => leL a b = true := List.pairwise_mergeSort leL_trans leL_total L
  rw [List.pairwise_iff_forall_sublist]
  intro a b sub
  have le := leL_iff.mp (List.pairwise_iff_forall_sublist.mp pl sub)
  have ne : a ≠ b := fun e => by
    subst e
    have := nd2.sublist sub
    simp at this
  rcases Nat.lt_or_ge a.length b.length with q | q
  · exact .inl q
  refine .inr ⟨by omega, ?_⟩
  have ma : a ∈ L := (List.mergeSort_perm L leL).mem_iff.mp (sub.subset List.mem_cons_self)
  have mb : b ∈ L := (List.mergeSort_perm L leL).mem_iff.mp (sub.subset (List.mem_cons_of_mem _ List.mem_cons_self))
  rcases two_in ne ma mb with z | z
  · exact lt_of_leS (List.pairwise_iff_forall_sublist.mp pw z) ne
  · exfalso
    have s2 : [b, a].Sublist (sortLL L) := List.sublist_mergeSort leL_trans leL_total (List.pairwise_cons.mpr ⟨fun x mx => by rw [List.mem_singleton.mp mx]; exact leL_iff.mpr q, List.pairwise_singleton _ _⟩) z
    exact two_not nd2 sub s2
theorem leW_iff {a b : Str} : PySem.W.dataLe false wkD a b = true ↔ a = b ∨ ltW a b := by
  show (!PySem.W.dataLt (wkD b) (wkD a)) = true ↔ _
  have e : PySem.W.dataLt (wkD b) (wkD a) = (decide (((b.length : Nat) : Int) < ((a.length : Nat) : Int)) || (decide (((b.length : Nat) : Int) = ((a.length : Nat) : Int)) && decide (b.cps.toList < a.cps.toList))) := lt_words _ _ _ _
  rw [e, Bool.not_eq_true', Bool.or_eq_false_iff, Bool.and_eq_false_iff, decide_eq_false_iff_not, decide_eq_false_iff_not, decide_eq_false_iff_not]
  constructor
  · rintro ⟨h1, h2⟩
    rcases Nat.lt_or_ge a.length b.length with q | q
    · exact .inr (.inl q)
    · have el : a.length = b.length := by omega
      have h2 : ¬ b.cps.toList < a.cps.toList := h2.elim (fun z => absurd (by omega) z) id
      by_cases ab : a = b
      · exact .inl ab
      · refine .inr (.inr ⟨el, ?_⟩)
        rcases Decidable.em (a.cps.toList < b.cps.toList) with w | w
        · exact w
        · exact absurd (str_list.mpr (List.le_antisymm (List.not_lt.mp h2) (List.not_lt.mp w))) ab
  · rintro (rfl | h)
    · exact ⟨by omega, .inr (List.lt_irrefl _)⟩
    · rcases h with h | ⟨h1, h2⟩
      · exact ⟨by omega, .inl (by omega)⟩
      · exact ⟨by omega, .inr fun z => List.lt_irrefl _ (List.lt_trans h2 z)⟩
theorem ltW_trans {a b c : Str} (h : ltW a b) (g : ltW b c) : ltW a c := by
  rcases h with h | ⟨h, h2⟩
  · rcases g with g | ⟨g, _⟩
    · exact .inl (by omega)
    · exact .inl (by omega)
  · rcases g with g | ⟨g, g2⟩
    · exact .inl (by omega)
    · exact .inr ⟨by omega, List.lt_trans h2 g2⟩
theorem ltW_total (a b : Str) : a = b ∨ ltW a b ∨ ltW b a := by
  rcases Nat.lt_or_ge a.length b.length with q | q
  · exact .inr (.inl (.inl q))
  rcases Nat.lt_or_ge b.length a.length with z | z
  · exact .inr (.inr (.inl z))
  rcases Decidable.em (a.cps.toList < b.cps.toList) with w | w
  · exact .inr (.inl (.inr ⟨by omega, w⟩))
  rcases Decidable.em (b.cps.toList < a.cps.toList) with v | v
  · exact .inr (.inr (.inr ⟨by omega, v⟩))
  · exact .inl (str_list.mpr (List.le_antisymm (List.not_lt.mp v) (List.not_lt.mp w)))
theorem sortKW_le (xs : List Str) : (sortKW xs).Pairwise fun a b => a = b ∨ ltW a b := by
  have := List.pairwise_mergeSort (le := PySem.W.dataLe false wkD) (fun a b c h1 h2 => by
    rcases leW_iff.mp h1 with rfl | h1
    · exact h2
    · rcases leW_iff.mp h2 with rfl | h2
      · exact leW_iff.mpr (.inr h1)
      · exact leW_iff.mpr (.inr (ltW_trans h1 h2))) (fun a b => by
    rw [Bool.or_eq_true]
    rcases ltW_total a b with z | z | z
    · exact .inl (leW_iff.mpr (.inl z))
    · exact .inl (leW_iff.mpr (.inr z))
    · exact .inr (leW_iff.mpr (.inr z))) xs
  exact this.imp leW_iff.mp
def addW (F : List Str) (w : Str) : List Str := if w ∈ F then F else F ++ [w]
theorem foldW_lt : ∀ (xs F : List Str), xs.Pairwise (fun a b => a = b ∨ ltW a b) → F.Pairwise ltW → (∀ f ∈ F, ∀ x ∈ xs, f = x ∨ ltW f x) → (xs.foldl addW F).Pairwise ltW
  | [], F, _, hF, _ => hF
  | x :: xs, F, hx, hF, hc => by
    rw [List.pairwise_cons] at hx
    rw [List.foldl_cons]
    unfold addW
    by_cases q : x ∈ F
    · rw [if_pos q]
      exact foldW_lt xs F hx.2 hF fun f mf z mz => hc f mf z (List.mem_cons_of_mem _ mz)
    · rw [if_neg q]
      refine foldW_lt xs (F ++ [x]) hx.2 (List.pairwise_append.mpr ⟨hF, List.pairwise_singleton _ _, fun f mf z mz => ?_⟩) fun f mf z mz => ?_
      · rw [List.mem_singleton.mp mz]
        rcases hc f mf x List.mem_cons_self with e | e
        · exact absurd (e ▸ mf) q
        · exact e
      · rcases List.mem_append.mp mf with mf | mf
        · exact hc f mf z (List.mem_cons_of_mem _ mz)
        · rw [List.mem_singleton.mp mf]
          exact hx.1 z mz
theorem foldW_mem : ∀ (xs F : List Str) (w : Str), w ∈ xs.foldl addW F ↔ w ∈ F ∨ w ∈ xs
  | [], F, w => by simp
  | x :: xs, F, w => by
    rw [List.foldl_cons, foldW_mem xs]
    unfold addW
    split
    · rename_i q
      rw [List.mem_cons]
      constructor
      · rintro (h | h)
        · exact .inl h
        · exact .inr (.inr h)
      · rintro (h | rfl | h)
        · exact .inl h
        · exact .inl q
        · exact .inr h
    · rw [List.mem_append, List.mem_singleton, List.mem_cons, or_assoc]
theorem lt_nd {l : List Str} (h : l.Pairwise ltW) : l.Nodup := h.imp fun {a b} z e => by
  subst e
  exact ltW_asymm z z
theorem order_eq (xs : List Str) : (sortKW xs).foldl addW [] = sortLL (sortL (onceL xs)) := by
  have nB : (sortL (onceL xs)).Nodup := (sortL_perm _).nodup_iff.mpr (once_nd xs)
  have pA := foldW_lt (sortKW xs) [] (sortKW_le xs) .nil fun f mf => nomatch mf
  have pB := sortLL_lt (sortL_pair (onceL xs)) nB
  have mem : ∀ w, w ∈ (sortKW xs).foldl addW [] ↔ w ∈ sortLL (sortL (onceL xs)) := fun w => by
    rw [foldW_mem]
    have e1 : w ∈ sortKW xs ↔ w ∈ xs := (List.mergeSort_perm xs _).mem_iff
    have e2 : w ∈ sortLL (sortL (onceL xs)) ↔ w ∈ sortL (onceL xs) := (List.mergeSort_perm _ _).mem_iff
    have e3 : w ∈ sortL (onceL xs) ↔ w ∈ onceL xs := (sortL_perm _).mem_iff
    rw [e1, e2, e3, once_mem]
    exact ⟨fun h => h.elim (fun z => (nomatch z)) id, .inr⟩
  exact List.Perm.eq_of_pairwise (le := ltW) (fun a b _ _ h1 h2 => (ltW_asymm h1 h2).elim) pA pB (nd_perm (lt_nd pA) (lt_nd pB) mem)
theorem strs_all (xs : List Str) : strsOf (xs.map PyData.str) = some xs := by
  induction xs with
  | nil => rfl
  | cons x xs ih =>
    show (strsOf (xs.map PyData.str)).map (x :: ·) = _
    rw [ih]
    rfl
theorem in_order_g {xs : List Str} (hl : xs.length ≤ 4000) (s : S) : call1 1 F_in_order [.d (.list (xs.map .str))] s = .ok (.o true (.L ((sortLL (sortL (onceL xs))).map .str))) s := by
  have s1 := strs_all xs
  have s2 := strs_all (sortL (onceL xs))
  obtain ⟨X, hX⟩ : ∃ X, X = xs.map PyData.str := ⟨_, rfl⟩
  rw [← hX] at s1 ⊢
  obtain ⟨Y, hY⟩ : ∃ Y, Y = (sortL (onceL xs)).map PyData.str := ⟨_, rfl⟩
  rw [← hY] at s2
  obtain ⟨Z, hZ⟩ : ∃ Z, Z = (sortLL (sortL (onceL xs))).map PyData.str := ⟨_, rfl⟩
  rw [← hZ]
  refine call_ob (ds := [.list X]) rfl ?_
  simp only [b_in_order, Gv, Gio, ins, List.map_cons, List.map_nil, List.length_cons, List.length_nil, Nat.sub_self, List.replicate_zero, List.append_nil, List.nil_append, List.cons_append, List.replicate_succ, Nat.reduceSub, Nat.reduceAdd, retS, retN, ret1, setS, sto, stoO, freeAt, free_dv, dv_some, dv_none, free_d, free_n, free_o, plain_dv, plain_dd, plain_n, dropS, seqS, ifS, raiS, nextS, brkS, cntS, unpS, tpG, itsOf, bindAll, optO, nmG, augS, chE, bind_ok, bind_er, out_ok, out_er, seq_nx, seq_rt, seq_er, seq_bk, seq_ct, ite_and, ite_or, ite_and2, ite_or2, ite_andB, ite_orB, cE, varE, shE, shr, bi2, un1, opE, unE, rd, List.getElem?_cons_zero, List.getElem?_cons_succ, List.set_cons_zero, List.set_cons_succ, leD, ltD, gtD, geD, cmpD, eqD_str, neD_str, eqD_int, neD_int, inD_sign, isD, isNone, ifB, caE, consA, nilA, ca1, rdAll, dAll, lenD, intF, tupF, lstF, Option.map_some, Option.map_none, Option.bind_some, addD, intD, subI, modI, divI, adI, negD, mulD, revND, revD, tupE, lstE, mtE, okTy, isStr, isLst, stripF, callE, callI, truT, tru1, tru, truD, blT, notT, andT, orT, ifE, notE, andE, orE, if_true, Bool.not_true, Bool.not_false, Bool.true_and, Bool.and_true, Bool.false_and, Bool.or_false, Bool.false_or, Bool.true_or, Bool.or_true, Bool.and_false, Bool.false_xor, Bool.true_xor, slE, noP, someP, sl1, slD, seqI, its1, optI, forS, turn, lcE, wipeS, restS, plainAt, List.getD_cons_zero, List.getD_cons_succ, List.all_cons, List.all_nil, muE, mu1, lstAt, dArgs, appF, popF, rvsF, extF, rng1I, rng2I, enI, zipI, zip2, starA, subS, decide_true, decide_false, Int.reduceLT, Int.reduceLE, Nat.reduceLT, Nat.reduceLeDiff, true_and, and_true, Bool.false_eq_true, if_false, ite_true, ite_false, reduceIte, reduceCtorEq, Option.some.injEq, slenE, ssetE, s1, hl, ← hY, s2, ← hZ]
  exact ⟨_, rfl⟩
theorem in_str9 (neg : Bool) (x : Str) (ps : List Str) : inD neg (.str x) (.list (ps.map .str)) = some (.d (.bool (neg ^^ decide (x ∈ ps)))) := by
  show (if okD (.str x) = true then some (Vl.d (.bool (neg ^^ (ps.map PyData.str).any fun y => PyData.eqv y (.str x)))) else none) = _
  rw [if_pos (by rfl), List.any_map]
  congr 4
  rw [Bool.eq_iff_iff, List.any_eq_true, decide_eq_true_iff]
  constructor
  · rintro ⟨z, mz, c⟩
    have c : PyData.eqv (.str z) (.str x) = true := c
    rw [eqv_str] at c
    rw [← of_decide_eq_true c]
    exact mz
  · intro me
    refine ⟨x, me, ?_⟩
    show PyData.eqv (.str x) (.str x) = true
    rw [eqv_str]
    exact decide_eq_true rfl
def cpre : List Nat → List Nat → Nat
  | a :: as, b :: bs => if a = b then cpre as bs + 1 else 0
  | _, _ => 0
theorem cpre_le : ∀ as bs : List Nat, cpre as bs ≤ as.length ∧ cpre as bs ≤ bs.length
  | [], bs => ⟨Nat.zero_le _, Nat.zero_le _⟩
  | a :: as, [] => ⟨Nat.zero_le _, Nat.zero_le _⟩
  | a :: as, b :: bs => by
    have := cpre_le as bs
    unfold cpre
    split
    · rw [List.length_cons, List.length_cons]; omega
    · exact ⟨Nat.zero_le _, Nat.zero_le _⟩
theorem take_cpre : ∀ (j : Nat) (as bs : List Nat), j < as.length → j < bs.length → (as.take (j + 1) = bs.take (j + 1) ↔ j < cpre as bs)
  | j, [], bs, h, _ => absurd h (Nat.not_lt_zero _)
  | j, a :: as, [], _, h => absurd h (Nat.not_lt_zero _)
  | 0, a :: as, b :: bs, _, _ => by
    unfold cpre
    rw [List.take_succ_cons, List.take_succ_cons, List.take_zero, List.take_zero]
    by_cases q : a = b
    · rw [if_pos q, q]; exact ⟨fun _ => Nat.succ_pos _, fun _ => rfl⟩
    · rw [if_neg q]; exact ⟨fun e => absurd (List.cons.inj e).1 q, fun e => absurd e (Nat.lt_irrefl _)⟩
  | j + 1, a :: as, b :: bs, h1, h2 => by
    unfold cpre
    rw [List.length_cons] at h1 h2
    have ih := take_cpre j as bs (by omega) (by omega)
    rw [List.take_succ_cons, List.take_succ_cons]
    by_cases q : a = b
    · rw [if_pos q]
      constructor
      · intro e
        have := ih.mp (List.cons.inj e).2
        omega
      · intro e
        rw [q, ih.mpr (by omega)]
    · rw [if_neg q]; exact ⟨fun e => absurd (List.cons.inj e).1 q, fun e => absurd e (Nat.not_lt_zero _)⟩
theorem count_lt (c : Nat) : ∀ n : Nat, ((List.range n).filter fun j => decide (j < c)).length = min n c
  | 0 => by rw [Nat.zero_min]; rfl
  | n + 1 => by
    rw [List.range_succ, List.filter_append, List.length_append, count_lt c n]
    by_cases q : n < c
    · rw [List.filter_cons, decide_eq_true q, if_pos rfl, List.filter_nil, List.length_singleton]; omega
    · rw [List.filter_cons, decide_eq_false q, if_neg Bool.false_ne_true, List.filter_nil, List.length_nil]; omega
theorem cutS_take (z : Str) (n : Nat) : cutS z none (some ((n : Nat) : Int)) = tx (z.cps.toList.take n) := by
  have l : z.cps.toList.length = z.length := Array.length_toList
  unfold cutS
  rw [HT.sIx_none, HT.sIx_nat]
  congr 1
  rw [Nat.sub_zero, List.drop_zero]
  by_cases h : n ≤ z.length
  · rw [Nat.min_eq_left h]
  · rw [Nat.min_eq_right (by omega), List.take_of_length_le (by omega), List.take_of_length_le (by omega)]
theorem common_loop {a b : D} : ∀ (as bs : List Nat) (n : Nat) (x y : Option D), ∃ x' y', forL (tpG [nmG 3, nmG 4]) b_common_1 (zipL (as.map fun c => .str (tx [c])) (bs.map fun c => .str (tx [c]))) [some (.d a), some (.d b), some (.d (.int ((n : Nat) : Int))), dv x, dv y] = .nx [some (.d a), some (.d b), some (.d (.int ((n + cpre as bs : Nat) : Int))), dv x', dv y']
  | [], bs, n, x, y => ⟨x, y, rfl⟩
  | a0 :: as, [], n, x, y => ⟨x, y, rfl⟩
  | c :: as, d :: bs, n, x, y => by
    show ∃ x' y', forL (tpG [nmG 3, nmG 4]) b_common_1 (.tuple [.str (tx [c]), .str (tx [d])] :: zipL (as.map fun c => .str (tx [c])) (bs.map fun c => .str (tx [c]))) _ = _
    rw [forL_cons]
    unfold cpre
    by_cases q : c = d
    · subst q
      rw [if_pos rfl]
      obtain ⟨x', y', e⟩ := common_loop as bs (n + 1) (some (.str (tx [c]))) (some (.str (tx [c])))
      have nf : neD (.str (tx [c])) (.str (tx [c])) = some (.d (.bool false)) := by rw [neD_str, decide_eq_true rfl]; rfl
      have e1 : ((n : Nat) : Int) + 1 = ((n + 1 : Nat) : Int) := by omega
      have ht : turn (tpG [nmG 3, nmG 4]) b_common_1 (.tuple [.str (tx [c]), .str (tx [c])]) [some (.d a), some (.d b), some (.d (.int ((n : Nat) : Int))), dv x, dv y] = .nx [some (.d a), some (.d b), some (.d (.int ((n + 1 : Nat) : Int))), some (.d (.str (tx [c]))), some (.d (.str (tx [c])))] := by
        simp only [b_common_1, Gv, Gio, ins, List.map_cons, List.map_nil, List.length_cons, List.length_nil, Nat.sub_self, List.replicate_zero, List.append_nil, List.nil_append, List.cons_append, List.replicate_succ, Nat.reduceSub, Nat.reduceAdd, retS, retN, ret1, setS, sto, stoO, freeAt, free_dv, dv_some, dv_none, free_d, free_n, free_o, plain_dv, plain_dd, plain_n, dropS, seqS, ifS, raiS, nextS, brkS, cntS, unpS, tpG, itsOf, bindAll, optO, nmG, augS, chE, bind_ok, bind_er, out_ok, out_er, seq_nx, seq_rt, seq_er, seq_bk, seq_ct, ite_and, ite_or, ite_and2, ite_or2, ite_andB, ite_orB, cE, varE, shE, shr, bi2, un1, opE, unE, rd, List.getElem?_cons_zero, List.getElem?_cons_succ, List.set_cons_zero, List.set_cons_succ, leD, ltD, gtD, geD, cmpD, eqD_str, neD_str, eqD_int, neD_int, inD_sign, isD, isNone, ifB, caE, consA, nilA, ca1, rdAll, dAll, lenD, intF, tupF, lstF, Option.map_some, Option.map_none, Option.bind_some, addD, intD, subI, modI, divI, adI, negD, mulD, revND, revD, tupE, lstE, mtE, okTy, isStr, isLst, stripF, callE, callI, truT, tru1, tru, truD, blT, notT, andT, orT, ifE, notE, andE, orE, if_true, Bool.not_true, Bool.not_false, Bool.true_and, Bool.and_true, Bool.false_and, Bool.or_false, Bool.false_or, Bool.true_or, Bool.or_true, Bool.and_false, Bool.false_xor, Bool.true_xor, slE, noP, someP, sl1, slD, seqI, its1, optI, forS, turn, lcE, wipeS, restS, plainAt, List.getD_cons_zero, List.getD_cons_succ, List.all_cons, List.all_nil, muE, mu1, lstAt, dArgs, appF, popF, rvsF, extF, rng1I, rng2I, enI, zipI, zip2, starA, subS, decide_true, decide_false, Int.reduceLT, Int.reduceLE, Nat.reduceLT, Nat.reduceLeDiff, true_and, and_true, Bool.false_eq_true, if_false, ite_true, ite_false, reduceIte, reduceCtorEq, Option.some.injEq, nf, e1]
      rw [ht]
      refine ⟨x', y', ?_⟩
      show forL _ _ _ [some (.d a), some (.d b), some (.d (.int ((n + 1 : Nat) : Int))), dv (some (.str (tx [c]))), dv (some (.str (tx [c])))] = _
      rw [e, show n + 1 + cpre as bs = n + (cpre as bs + 1) by omega]
    · rw [if_neg q]
      have ne : tx [c] ≠ tx [d] := fun e => q (by have := congrArg (fun t : Str => t.cps.toList) e; simpa [tx_list] using this)
      have nf : neD (.str (tx [c])) (.str (tx [d])) = some (.d (.bool true)) := by rw [neD_str, decide_eq_false ne]; rfl
      have ht : turn (tpG [nmG 3, nmG 4]) b_common_1 (.tuple [.str (tx [c]), .str (tx [d])]) [some (.d a), some (.d b), some (.d (.int ((n : Nat) : Int))), dv x, dv y] = .bk [some (.d a), some (.d b), some (.d (.int ((n : Nat) : Int))), some (.d (.str (tx [c]))), some (.d (.str (tx [d])))] := by
        simp only [b_common_1, Gv, Gio, ins, List.map_cons, List.map_nil, List.length_cons, List.length_nil, Nat.sub_self, List.replicate_zero, List.append_nil, List.nil_append, List.cons_append, List.replicate_succ, Nat.reduceSub, Nat.reduceAdd, retS, retN, ret1, setS, sto, stoO, freeAt, free_dv, dv_some, dv_none, free_d, free_n, free_o, plain_dv, plain_dd, plain_n, dropS, seqS, ifS, raiS, nextS, brkS, cntS, unpS, tpG, itsOf, bindAll, optO, nmG, augS, chE, bind_ok, bind_er, out_ok, out_er, seq_nx, seq_rt, seq_er, seq_bk, seq_ct, ite_and, ite_or, ite_and2, ite_or2, ite_andB, ite_orB, cE, varE, shE, shr, bi2, un1, opE, unE, rd, List.getElem?_cons_zero, List.getElem?_cons_succ, List.set_cons_zero, List.set_cons_succ, leD, ltD, gtD, geD, cmpD, eqD_str, neD_str, eqD_int, neD_int, inD_sign, isD, isNone, ifB, caE, consA, nilA, ca1, rdAll, dAll, lenD, intF, tupF, lstF, Option.map_some, Option.map_none, Option.bind_some, addD, intD, subI, modI, divI, adI, negD, mulD, revND, revD, tupE, lstE, mtE, okTy, isStr, isLst, stripF, callE, callI, truT, tru1, tru, truD, blT, notT, andT, orT, ifE, notE, andE, orE, if_true, Bool.not_true, Bool.not_false, Bool.true_and, Bool.and_true, Bool.false_and, Bool.or_false, Bool.false_or, Bool.true_or, Bool.or_true, Bool.and_false, Bool.false_xor, Bool.true_xor, slE, noP, someP, sl1, slD, seqI, its1, optI, forS, turn, lcE, wipeS, restS, plainAt, List.getD_cons_zero, List.getD_cons_succ, List.all_cons, List.all_nil, muE, mu1, lstAt, dArgs, appF, popF, rvsF, extF, rng1I, rng2I, enI, zipI, zip2, starA, subS, decide_true, decide_false, Int.reduceLT, Int.reduceLE, Nat.reduceLT, Nat.reduceLeDiff, true_and, and_true, Bool.false_eq_true, if_false, ite_true, ite_false, reduceIte, reduceCtorEq, Option.some.injEq, nf]
      rw [ht]
      exact ⟨some (.str (tx [c])), some (.str (tx [d])), rfl⟩
theorem common_c (u v : Str) (s : S) : call1 2 F_common [.d (.str u), .d (.str v)] s = .ok (.d (.str (cutS u none (some ((cpre u.cps.toList v.cps.toList : Nat) : Int))))) s := by
  refine call_rt (ds := [.str u, .str v]) rfl ?_
  have i1 := items_str u
  have i2 := items_str v
  obtain ⟨x, y, e⟩ := common_loop (a := .str u) (b := .str v) u.cps.toList v.cps.toList 0 none none
  rw [Nat.zero_add] at e
  obtain ⟨U, hU⟩ : ∃ U, U = u.cps.toList.map fun c => PyData.str (tx [c]) := ⟨_, rfl⟩
  obtain ⟨V, hV⟩ : ∃ V, V = v.cps.toList.map fun c => PyData.str (tx [c]) := ⟨_, rfl⟩
  rw [← hU] at i1 e
  rw [← hV] at i2 e
  have e : forL (tpG [nmG 3, nmG 4]) b_common_1 (zipL U V) [some (.d (.str u)), some (.d (.str v)), some (.d (.int 0)), none, none] = _ := e
  simp only [b_common, Gv, Gio, ins, List.map_cons, List.map_nil, List.length_cons, List.length_nil, Nat.sub_self, List.replicate_zero, List.append_nil, List.nil_append, List.cons_append, List.replicate_succ, Nat.reduceSub, Nat.reduceAdd, retS, retN, ret1, setS, sto, stoO, freeAt, free_dv, dv_some, dv_none, free_d, free_n, free_o, plain_dv, plain_dd, plain_n, dropS, seqS, ifS, raiS, nextS, brkS, cntS, unpS, tpG, itsOf, bindAll, optO, nmG, augS, chE, bind_ok, bind_er, out_ok, out_er, seq_nx, seq_rt, seq_er, seq_bk, seq_ct, ite_and, ite_or, ite_and2, ite_or2, ite_andB, ite_orB, cE, varE, shE, shr, bi2, un1, opE, unE, rd, List.getElem?_cons_zero, List.getElem?_cons_succ, List.set_cons_zero, List.set_cons_succ, leD, ltD, gtD, geD, cmpD, eqD_str, neD_str, eqD_int, neD_int, inD_sign, isD, isNone, ifB, caE, consA, nilA, ca1, rdAll, dAll, lenD, intF, tupF, lstF, Option.map_some, Option.map_none, Option.bind_some, addD, intD, subI, modI, divI, adI, negD, mulD, revND, revD, tupE, lstE, mtE, okTy, isStr, isLst, stripF, callE, callI, truT, tru1, tru, truD, blT, notT, andT, orT, ifE, notE, andE, orE, if_true, Bool.not_true, Bool.not_false, Bool.true_and, Bool.and_true, Bool.false_and, Bool.or_false, Bool.false_or, Bool.true_or, Bool.or_true, Bool.and_false, Bool.false_xor, Bool.true_xor, slE, noP, someP, sl1, slD, seqI, its1, optI, forS, turn, lcE, wipeS, restS, plainAt, List.getD_cons_zero, List.getD_cons_succ, List.all_cons, List.all_nil, muE, mu1, lstAt, dArgs, appF, popF, rvsF, extF, rng1I, rng2I, enI, zipI, zip2, starA, subS, decide_true, decide_false, Int.reduceLT, Int.reduceLE, Nat.reduceLT, Nat.reduceLeDiff, true_and, and_true, Bool.false_eq_true, if_false, ite_true, ite_false, reduceIte, reduceCtorEq, Option.some.injEq, i1, i2, Option.map_some]
  rw [e]
  simp only [Gv, Gio, ins, List.map_cons, List.map_nil, List.length_cons, List.length_nil, Nat.sub_self, List.replicate_zero, List.append_nil, List.nil_append, List.cons_append, List.replicate_succ, Nat.reduceSub, Nat.reduceAdd, retS, retN, ret1, setS, sto, stoO, freeAt, free_dv, dv_some, dv_none, free_d, free_n, free_o, plain_dv, plain_dd, plain_n, dropS, seqS, ifS, raiS, nextS, brkS, cntS, unpS, tpG, itsOf, bindAll, optO, nmG, augS, chE, bind_ok, bind_er, out_ok, out_er, seq_nx, seq_rt, seq_er, seq_bk, seq_ct, ite_and, ite_or, ite_and2, ite_or2, ite_andB, ite_orB, cE, varE, shE, shr, bi2, un1, opE, unE, rd, List.getElem?_cons_zero, List.getElem?_cons_succ, List.set_cons_zero, List.set_cons_succ, leD, ltD, gtD, geD, cmpD, eqD_str, neD_str, eqD_int, neD_int, inD_sign, isD, isNone, ifB, caE, consA, nilA, ca1, rdAll, dAll, lenD, intF, tupF, lstF, Option.map_some, Option.map_none, Option.bind_some, addD, intD, subI, modI, divI, adI, negD, mulD, revND, revD, tupE, lstE, mtE, okTy, isStr, isLst, stripF, callE, callI, truT, tru1, tru, truD, blT, notT, andT, orT, ifE, notE, andE, orE, if_true, Bool.not_true, Bool.not_false, Bool.true_and, Bool.and_true, Bool.false_and, Bool.or_false, Bool.false_or, Bool.true_or, Bool.or_true, Bool.and_false, Bool.false_xor, Bool.true_xor, slE, noP, someP, sl1, slD, seqI, its1, optI, forS, turn, lcE, wipeS, restS, plainAt, List.getD_cons_zero, List.getD_cons_succ, List.all_cons, List.all_nil, muE, mu1, lstAt, dArgs, appF, popF, rvsF, extF, rng1I, rng2I, enI, zipI, zip2, starA, subS, decide_true, decide_false, Int.reduceLT, Int.reduceLE, Nat.reduceLT, Nat.reduceLeDiff, true_and, and_true, Bool.false_eq_true, if_false, ite_true, ite_false, reduceIte, reduceCtorEq, Option.some.injEq]
  exact ⟨_, rfl⟩
end K
set_option Elab.async false
set_option linter.all false
set_option maxRecDepth 100000
set_option maxHeartbeats 4000000
namespace M
open PySem PySem.Spec L2 Sv
end M
set_option Elab.async false
set_option linter.all false
set_option maxRecDepth 100000
set_option maxHeartbeats 4000000
namespace M
open PySem PySem.Spec L2 Sv
section
variable {f g : S → Out} {cm : Str → Option Bool} {i : Nat} {s s1 : S} {e : Exn} {k : D}
theorem told_g (h : f s = .er e s1) (hc : cm e.c = some true) (hf : freeAt s1 i = true) (hk : g (s1.set i (some (.x e))) = .rt (.d k) (s1.set i (some (.x e)))) (hn : noX (s1.set i none) = true) : tryS cm (some i) f g s = .rt (.d k) (s1.set i none) := by
  unfold tryS
  rw [h]
  show (match cm e.c with
    | some true => if freeAt s1 i = true then endX (some i) (g (s1.set i (some (.x e)))) else .no
    | some false => .er e s1
    | none => .no) = _
  rw [hc]
  show (if freeAt s1 i = true then endX (some i) (g (s1.set i (some (.x e)))) else .no) = _
  rw [if_pos hf, hk]
  have e2 : setN (s1.set i (some (.x e))) (some i) none = s1.set i none := by
    show (s1.set i (some (.x e))).set i none = _
    rw [List.set_set]
  show (if noX (setN (s1.set i (some (.x e))) (some i) none) = true then Out.rt (.d k) (setN (s1.set i (some (.x e))) (some i) none) else .no) = _
  rw [e2, if_pos hn]
end
end M
set_option Elab.async false
set_option linter.all false
set_option maxRecDepth 100000
set_option maxHeartbeats 4000000
namespace K
open PySem PySem.Spec L2 Sv M
noncomputable def sTold : S → Out :=
  (seqS (ifS (blT (opE eqD (varE 0) (cE (.int 0))))
  (retS (tupE (consA (cE (.str "told")) (consA (shE (callE 1 F_letters_of (consA (shE (varE 1)) nilA))) nilA))))
  nextS)
  (seqS (ifS (blT (opE eqD (varE 0) (cE (.int 1))))
  (retS (tupE (consA (cE (.str "told")) (consA (shE (callE 2 F_is_word (consA (shE (varE 1)) (consA (shE (varE 2)) nilA)))) nilA))))
  nextS)
  (seqS (ifS (blT (opE eqD (varE 0) (cE (.int 2))))
  (retS (tupE (consA (cE (.str "told")) (consA (shE (callE 2 F_check_word (consA (shE (varE 1)) (consA (shE (varE 2)) nilA)))) nilA))))
  nextS)
  (seqS (ifS (blT (opE eqD (varE 0) (cE (.int 3))))
  (retS (tupE (consA (cE (.str "told")) (consA (shE (callE 3 F_is_before (consA (shE (varE 1)) (consA (shE (varE 2)) (consA (shE (varE 3)) nilA))))) nilA))))
  nextS)
  (retS (tupE (consA (cE (.str "told")) (consA (shE (callE 2 F_words_of_length (consA (shE (varE 1)) (consA (shE (varE 2)) nilA)))) nilA))))))))
noncomputable def sErr : S → Out :=
  (retS (tupE (consA (cE (.str "refused")) (consA (shE (lstE (consA (caE intF (consA (isxE 4 (kmOf tabY "BadNumber")) nilA)) (consA (caE intF (consA (isxE 4 (kmOf tabY "NotWord")) nilA)) nilA)))) nilA))))
theorem told_eq : b_law_told = tryS (kmOf tabY "ShiftError") (some 4) sTold sErr := rfl
def RF (u v : Int) : D := .tuple [.str "refused", .list [.int u, .int v]]
def TD (x : D) : D := .tuple [.str "told", x]
theorem told_ok {y k a b x : D} (h : sTold [some (.d y), some (.d k), some (.d a), some (.d b), none] = .rt (.d x) [some (.d y), some (.d k), some (.d a), some (.d b), none]) (s : S) : call1 4 F_law_told [.d y, .d k, .d a, .d b] s = .ok (.d x) s := by
  refine call_rt (ds := [y, k, a, b]) rfl ?_
  refine ⟨[some (.d y), some (.d k), some (.d a), some (.d b), none], ?_⟩
  show b_law_told [some (.d y), some (.d k), some (.d a), some (.d b), none] = _
  rw [told_eq]
  exact try_rt (s1 := [some (.d y), some (.d k), some (.d a), some (.d b), none]) h
theorem told_bad {y k a b : D} {c : Str} {bu bv : Bool} (h1 : kmOf tabY "ShiftError" c = some true) (h2 : kmOf tabY "BadNumber" c = some bu) (h3 : kmOf tabY "NotWord" c = some bv) (h : sTold [some (.d y), some (.d k), some (.d a), some (.d b), none] = .er ⟨c, none⟩ [some (.d y), some (.d k), some (.d a), some (.d b), none]) (s : S) :
    call1 4 F_law_told [.d y, .d k, .d a, .d b] s = .ok (.d (RF (if bu = true then 1 else 0) (if bv = true then 1 else 0))) s := by
  refine call_rt (ds := [y, k, a, b]) rfl ?_
  refine ⟨[some (.d y), some (.d k), some (.d a), some (.d b), none], ?_⟩
  show b_law_told [some (.d y), some (.d k), some (.d a), some (.d b), none] = _
  rw [told_eq]
  have z2 : (2 : Nat) ≤ 16777216 := by decide
  refine told_g (e := ⟨c, none⟩) (s1 := [some (.d y), some (.d k), some (.d a), some (.d b), none]) h h1 rfl ?_ rfl
  show sErr [some (.d y), some (.d k), some (.d a), some (.d b), some (.x ⟨c, none⟩)] = _
  simp only [sErr, Gv, Gio, ins, List.map_cons, List.map_nil, List.length_cons, List.length_nil, Nat.sub_self, List.replicate_zero, List.append_nil, List.nil_append, List.cons_append, List.replicate_succ, Nat.reduceSub, Nat.reduceAdd, retS, retN, ret1, setS, sto, stoO, freeAt, free_dv, dv_some, dv_none, free_d, free_n, free_o, plain_dv, plain_dd, plain_n, dropS, seqS, ifS, raiS, nextS, brkS, cntS, unpS, tpG, itsOf, bindAll, optO, nmG, augS, chE, bind_ok, bind_er, bind_ite, out_ok, out_er, out_ite, seq_nx, seq_rt, seq_er, seq_bk, seq_ct, seq_ite, ite_and, ite_or, ite_and2, ite_or2, ite_andB, ite_orB, cE, varE, shE, shr, bi2, un1, opE, unE, rd, List.getElem?_cons_zero, List.getElem?_cons_succ, List.set_cons_zero, List.set_cons_succ, leD, ltD, gtD, geD, cmpD, eqD_str, neD_str, eqD_int, neD_int, inD_sign, isD, isNone, ifB, caE, consA, nilA, ca1, rdAll, dAll, lenD, intF, tupF, lstF, Option.map_some, Option.map_none, Option.bind_some, addD, intD, subI, modI, divI, adI, negD, mulD, revND, revD, tupE, lstE, mtE, okTy, isStr, isLst, stripF, callE, callI, truT, tru1, tru, truD, blT, notT, andT, orT, ifE, notE, andE, orE, if_true, Bool.not_true, Bool.not_false, Bool.true_and, Bool.and_true, Bool.false_and, Bool.or_false, Bool.false_or, Bool.true_or, Bool.or_true, Bool.and_false, Bool.false_xor, Bool.true_xor, slE, noP, someP, sl1, slD, seqI, its1, optI, forS, turn, lcE, wipeS, restS, plainAt, List.getD_cons_zero, List.getD_cons_succ, List.all_cons, List.all_nil, muE, mu1, lstAt, dArgs, appF, popF, rvsF, extF, rng1I, rng2I, enI, zipI, zip2, starA, subS, decide_true, decide_false, Int.reduceLT, Int.reduceLE, Nat.reduceLT, Nat.reduceLeDiff, true_and, and_true, Bool.false_eq_true, if_false, ite_true, ite_false, reduceIte, reduceCtorEq, Option.some.injEq, isxE, h2, h3, z2, RF]
theorem told_num {y k a b : D} (h : sTold [some (.d y), some (.d k), some (.d a), some (.d b), none] = .er ⟨"BadNumber", none⟩ [some (.d y), some (.d k), some (.d a), some (.d b), none]) (s : S) : call1 4 F_law_told [.d y, .d k, .d a, .d b] s = .ok (.d (RF 1 0)) s :=
  told_bad (bu := true) (bv := false) (by decide +kernel) (by decide +kernel) (by decide +kernel) h s
theorem told_word {y k a b : D} (h : sTold [some (.d y), some (.d k), some (.d a), some (.d b), none] = .er ⟨"NotWord", none⟩ [some (.d y), some (.d k), some (.d a), some (.d b), none]) (s : S) : call1 4 F_law_told [.d y, .d k, .d a, .d b] s = .ok (.d (RF 0 1)) s :=
  told_bad (bu := false) (bv := true) (by decide +kernel) (by decide +kernel) (by decide +kernel) h s
theorem h10 : decide ((1 : Int) = 0) = false := rfl
theorem h20 : decide ((2 : Int) = 0) = false := rfl
theorem h30 : decide ((3 : Int) = 0) = false := rfl
theorem h40 : decide ((4 : Int) = 0) = false := rfl
theorem h21 : decide ((2 : Int) = 1) = false := rfl
theorem h31 : decide ((3 : Int) = 1) = false := rfl
theorem h41 : decide ((4 : Int) = 1) = false := rfl
theorem h32 : decide ((3 : Int) = 2) = false := rfl
theorem h42 : decide ((4 : Int) = 2) = false := rfl
theorem h43 : decide ((4 : Int) = 3) = false := rfl
theorem z2' : (2 : Nat) ≤ 16777216 := by decide
def befB (u v : Str) : Bool := decide (((u.length : Nat) : Int) < ((v.length : Nat) : Int)) || (decide (((u.length : Nat) : Int) = ((v.length : Nat) : Int)) && decide (u.cps.toList < v.cps.toList))
theorem lt_place (u v : Str) : ltTD (.tuple [.int ((u.length : Nat) : Int), .str u]) (.tuple [.int ((v.length : Nat) : Int), .str v]) = some (.d (.bool (befB u v))) := ltTD_words _ _ _ _
section
variable {k : Int} {u v : Str}
theorem is_before_c (s : S) : call1 3 F_is_before [.d (.int k), .d (.str u), .d (.str v)] s = if numOk k = true then (if isWord k u = true then (if isWord k v = true then .ok (.d (.bool (befB u v))) s else bad "NotWord" s) else bad "NotWord" s) else bad "BadNumber" s := by
  have lp := lt_place u v
  have z2 := z2'
  cases h : numOk k
  · refine call_er (ds := [.int k, .str u, .str v]) rfl ?_
    simp only [b_is_before, Gv, Gio, ins, List.map_cons, List.map_nil, List.length_cons, List.length_nil, Nat.sub_self, List.replicate_zero, List.append_nil, List.nil_append, List.cons_append, List.replicate_succ, Nat.reduceSub, Nat.reduceAdd, retS, retN, ret1, setS, sto, stoO, freeAt, free_dv, dv_some, dv_none, free_d, free_n, free_o, plain_dv, plain_dd, plain_n, dropS, seqS, ifS, raiS, nextS, brkS, cntS, unpS, tpG, itsOf, bindAll, optO, nmG, augS, chE, bind_ok, bind_er, bind_ite, out_ok, out_er, out_ite, seq_nx, seq_rt, seq_er, seq_bk, seq_ct, seq_ite, ite_and, ite_or, ite_and2, ite_or2, ite_andB, ite_orB, cE, varE, shE, shr, bi2, un1, opE, unE, rd, List.getElem?_cons_zero, List.getElem?_cons_succ, List.set_cons_zero, List.set_cons_succ, leD, ltD, gtD, geD, cmpD, eqD_str, neD_str, eqD_int, neD_int, inD_sign, isD, isNone, ifB, caE, consA, nilA, ca1, rdAll, dAll, lenD, intF, tupF, lstF, Option.map_some, Option.map_none, Option.bind_some, addD, intD, subI, modI, divI, adI, negD, mulD, revND, revD, tupE, lstE, mtE, okTy, isStr, isLst, stripF, callE, callI, truT, tru1, tru, truD, blT, notT, andT, orT, ifE, notE, andE, orE, if_true, Bool.not_true, Bool.not_false, Bool.true_and, Bool.and_true, Bool.false_and, Bool.or_false, Bool.false_or, Bool.true_or, Bool.or_true, Bool.and_false, Bool.false_xor, Bool.true_xor, slE, noP, someP, sl1, slD, seqI, its1, optI, forS, turn, lcE, wipeS, restS, plainAt, List.getD_cons_zero, List.getD_cons_succ, List.all_cons, List.all_nil, muE, mu1, lstAt, dArgs, appF, popF, rvsF, extF, rng1I, rng2I, enI, zipI, zip2, starA, subS, decide_true, decide_false, Int.reduceLT, Int.reduceLE, Nat.reduceLT, Nat.reduceLeDiff, true_and, and_true, Bool.false_eq_true, if_false, ite_true, ite_false, reduceIte, reduceCtorEq, Option.some.injEq, check_word_c, h, bad]
    exact ⟨_, rfl⟩
  cases h1 : isWord k u
  · refine call_er (ds := [.int k, .str u, .str v]) rfl ?_
    simp only [b_is_before, Gv, Gio, ins, List.map_cons, List.map_nil, List.length_cons, List.length_nil, Nat.sub_self, List.replicate_zero, List.append_nil, List.nil_append, List.cons_append, List.replicate_succ, Nat.reduceSub, Nat.reduceAdd, retS, retN, ret1, setS, sto, stoO, freeAt, free_dv, dv_some, dv_none, free_d, free_n, free_o, plain_dv, plain_dd, plain_n, dropS, seqS, ifS, raiS, nextS, brkS, cntS, unpS, tpG, itsOf, bindAll, optO, nmG, augS, chE, bind_ok, bind_er, bind_ite, out_ok, out_er, out_ite, seq_nx, seq_rt, seq_er, seq_bk, seq_ct, seq_ite, ite_and, ite_or, ite_and2, ite_or2, ite_andB, ite_orB, cE, varE, shE, shr, bi2, un1, opE, unE, rd, List.getElem?_cons_zero, List.getElem?_cons_succ, List.set_cons_zero, List.set_cons_succ, leD, ltD, gtD, geD, cmpD, eqD_str, neD_str, eqD_int, neD_int, inD_sign, isD, isNone, ifB, caE, consA, nilA, ca1, rdAll, dAll, lenD, intF, tupF, lstF, Option.map_some, Option.map_none, Option.bind_some, addD, intD, subI, modI, divI, adI, negD, mulD, revND, revD, tupE, lstE, mtE, okTy, isStr, isLst, stripF, callE, callI, truT, tru1, tru, truD, blT, notT, andT, orT, ifE, notE, andE, orE, if_true, Bool.not_true, Bool.not_false, Bool.true_and, Bool.and_true, Bool.false_and, Bool.or_false, Bool.false_or, Bool.true_or, Bool.or_true, Bool.and_false, Bool.false_xor, Bool.true_xor, slE, noP, someP, sl1, slD, seqI, its1, optI, forS, turn, lcE, wipeS, restS, plainAt, List.getD_cons_zero, List.getD_cons_succ, List.all_cons, List.all_nil, muE, mu1, lstAt, dArgs, appF, popF, rvsF, extF, rng1I, rng2I, enI, zipI, zip2, starA, subS, decide_true, decide_false, Int.reduceLT, Int.reduceLE, Nat.reduceLT, Nat.reduceLeDiff, true_and, and_true, Bool.false_eq_true, if_false, ite_true, ite_false, reduceIte, reduceCtorEq, Option.some.injEq, check_word_c, h, h1, bad]
    exact ⟨_, rfl⟩
  cases h2 : isWord k v
  · refine call_er (ds := [.int k, .str u, .str v]) rfl ?_
    simp only [b_is_before, Gv, Gio, ins, List.map_cons, List.map_nil, List.length_cons, List.length_nil, Nat.sub_self, List.replicate_zero, List.append_nil, List.nil_append, List.cons_append, List.replicate_succ, Nat.reduceSub, Nat.reduceAdd, retS, retN, ret1, setS, sto, stoO, freeAt, free_dv, dv_some, dv_none, free_d, free_n, free_o, plain_dv, plain_dd, plain_n, dropS, seqS, ifS, raiS, nextS, brkS, cntS, unpS, tpG, itsOf, bindAll, optO, nmG, augS, chE, bind_ok, bind_er, bind_ite, out_ok, out_er, out_ite, seq_nx, seq_rt, seq_er, seq_bk, seq_ct, seq_ite, ite_and, ite_or, ite_and2, ite_or2, ite_andB, ite_orB, cE, varE, shE, shr, bi2, un1, opE, unE, rd, List.getElem?_cons_zero, List.getElem?_cons_succ, List.set_cons_zero, List.set_cons_succ, leD, ltD, gtD, geD, cmpD, eqD_str, neD_str, eqD_int, neD_int, inD_sign, isD, isNone, ifB, caE, consA, nilA, ca1, rdAll, dAll, lenD, intF, tupF, lstF, Option.map_some, Option.map_none, Option.bind_some, addD, intD, subI, modI, divI, adI, negD, mulD, revND, revD, tupE, lstE, mtE, okTy, isStr, isLst, stripF, callE, callI, truT, tru1, tru, truD, blT, notT, andT, orT, ifE, notE, andE, orE, if_true, Bool.not_true, Bool.not_false, Bool.true_and, Bool.and_true, Bool.false_and, Bool.or_false, Bool.false_or, Bool.true_or, Bool.or_true, Bool.and_false, Bool.false_xor, Bool.true_xor, slE, noP, someP, sl1, slD, seqI, its1, optI, forS, turn, lcE, wipeS, restS, plainAt, List.getD_cons_zero, List.getD_cons_succ, List.all_cons, List.all_nil, muE, mu1, lstAt, dArgs, appF, popF, rvsF, extF, rng1I, rng2I, enI, zipI, zip2, starA, subS, decide_true, decide_false, Int.reduceLT, Int.reduceLE, Nat.reduceLT, Nat.reduceLeDiff, true_and, and_true, Bool.false_eq_true, if_false, ite_true, ite_false, reduceIte, reduceCtorEq, Option.some.injEq, check_word_c, h, h1, h2, bad]
    exact ⟨_, rfl⟩
  · refine call_rt (ds := [.int k, .str u, .str v]) rfl ?_
    simp only [b_is_before, Gv, Gio, ins, List.map_cons, List.map_nil, List.length_cons, List.length_nil, Nat.sub_self, List.replicate_zero, List.append_nil, List.nil_append, List.cons_append, List.replicate_succ, Nat.reduceSub, Nat.reduceAdd, retS, retN, ret1, setS, sto, stoO, freeAt, free_dv, dv_some, dv_none, free_d, free_n, free_o, plain_dv, plain_dd, plain_n, dropS, seqS, ifS, raiS, nextS, brkS, cntS, unpS, tpG, itsOf, bindAll, optO, nmG, augS, chE, bind_ok, bind_er, bind_ite, out_ok, out_er, out_ite, seq_nx, seq_rt, seq_er, seq_bk, seq_ct, seq_ite, ite_and, ite_or, ite_and2, ite_or2, ite_andB, ite_orB, cE, varE, shE, shr, bi2, un1, opE, unE, rd, List.getElem?_cons_zero, List.getElem?_cons_succ, List.set_cons_zero, List.set_cons_succ, leD, ltD, gtD, geD, cmpD, eqD_str, neD_str, eqD_int, neD_int, inD_sign, isD, isNone, ifB, caE, consA, nilA, ca1, rdAll, dAll, lenD, intF, tupF, lstF, Option.map_some, Option.map_none, Option.bind_some, addD, intD, subI, modI, divI, adI, negD, mulD, revND, revD, tupE, lstE, mtE, okTy, isStr, isLst, stripF, callE, callI, truT, tru1, tru, truD, blT, notT, andT, orT, ifE, notE, andE, orE, if_true, Bool.not_true, Bool.not_false, Bool.true_and, Bool.and_true, Bool.false_and, Bool.or_false, Bool.false_or, Bool.true_or, Bool.or_true, Bool.and_false, Bool.false_xor, Bool.true_xor, slE, noP, someP, sl1, slD, seqI, its1, optI, forS, turn, lcE, wipeS, restS, plainAt, List.getD_cons_zero, List.getD_cons_succ, List.all_cons, List.all_nil, muE, mu1, lstAt, dArgs, appF, popF, rvsF, extF, rng1I, rng2I, enI, zipI, zip2, starA, subS, decide_true, decide_false, Int.reduceLT, Int.reduceLE, Nat.reduceLT, Nat.reduceLeDiff, true_and, and_true, Bool.false_eq_true, if_false, ite_true, ite_false, reduceIte, reduceCtorEq, Option.some.injEq, check_word_c, h, h1, h2, z2, lp]
    exact ⟨_, rfl⟩
variable (nk : numOk k = false)
include nk
theorem bad0 (a b : D) (s : S) : call1 4 F_law_told [.d (.int 0), .d (.int k), .d a, .d b] s = .ok (.d (RF 1 0)) s := by
  have lo := fun s => letters_of_c k s
  rw [nk] at lo
  have lo : ∀ s, call1 1 F_letters_of [.d (.int k)] s = bad "BadNumber" s := lo
  refine told_num ?_ s
  simp only [sTold, Gv, Gio, ins, List.map_cons, List.map_nil, List.length_cons, List.length_nil, Nat.sub_self, List.replicate_zero, List.append_nil, List.nil_append, List.cons_append, List.replicate_succ, Nat.reduceSub, Nat.reduceAdd, retS, retN, ret1, setS, sto, stoO, freeAt, free_dv, dv_some, dv_none, free_d, free_n, free_o, plain_dv, plain_dd, plain_n, dropS, seqS, ifS, raiS, nextS, brkS, cntS, unpS, tpG, itsOf, bindAll, optO, nmG, augS, chE, bind_ok, bind_er, bind_ite, out_ok, out_er, out_ite, seq_nx, seq_rt, seq_er, seq_bk, seq_ct, seq_ite, ite_and, ite_or, ite_and2, ite_or2, ite_andB, ite_orB, cE, varE, shE, shr, bi2, un1, opE, unE, rd, List.getElem?_cons_zero, List.getElem?_cons_succ, List.set_cons_zero, List.set_cons_succ, leD, ltD, gtD, geD, cmpD, eqD_str, neD_str, eqD_int, neD_int, inD_sign, isD, isNone, ifB, caE, consA, nilA, ca1, rdAll, dAll, lenD, intF, tupF, lstF, Option.map_some, Option.map_none, Option.bind_some, addD, intD, subI, modI, divI, adI, negD, mulD, revND, revD, tupE, lstE, mtE, okTy, isStr, isLst, stripF, callE, callI, truT, tru1, tru, truD, blT, notT, andT, orT, ifE, notE, andE, orE, if_true, Bool.not_true, Bool.not_false, Bool.true_and, Bool.and_true, Bool.false_and, Bool.or_false, Bool.false_or, Bool.true_or, Bool.or_true, Bool.and_false, Bool.false_xor, Bool.true_xor, slE, noP, someP, sl1, slD, seqI, its1, optI, forS, turn, lcE, wipeS, restS, plainAt, List.getD_cons_zero, List.getD_cons_succ, List.all_cons, List.all_nil, muE, mu1, lstAt, dArgs, appF, popF, rvsF, extF, rng1I, rng2I, enI, zipI, zip2, starA, subS, decide_true, decide_false, Int.reduceLT, Int.reduceLE, Nat.reduceLT, Nat.reduceLeDiff, true_and, and_true, Bool.false_eq_true, if_false, ite_true, ite_false, reduceIte, reduceCtorEq, Option.some.injEq, lo, bad, decide_true]
theorem bad1 (b : D) (s : S) : call1 4 F_law_told [.d (.int 1), .d (.int k), .d (.str u), .d b] s = .ok (.d (RF 1 0)) s := by
  have lo := fun s => is_word_c k u s
  rw [nk] at lo
  have lo : ∀ s, call1 2 F_is_word [.d (.int k), .d (.str u)] s = bad "BadNumber" s := lo
  refine told_num ?_ s
  simp only [sTold, Gv, Gio, ins, List.map_cons, List.map_nil, List.length_cons, List.length_nil, Nat.sub_self, List.replicate_zero, List.append_nil, List.nil_append, List.cons_append, List.replicate_succ, Nat.reduceSub, Nat.reduceAdd, retS, retN, ret1, setS, sto, stoO, freeAt, free_dv, dv_some, dv_none, free_d, free_n, free_o, plain_dv, plain_dd, plain_n, dropS, seqS, ifS, raiS, nextS, brkS, cntS, unpS, tpG, itsOf, bindAll, optO, nmG, augS, chE, bind_ok, bind_er, bind_ite, out_ok, out_er, out_ite, seq_nx, seq_rt, seq_er, seq_bk, seq_ct, seq_ite, ite_and, ite_or, ite_and2, ite_or2, ite_andB, ite_orB, cE, varE, shE, shr, bi2, un1, opE, unE, rd, List.getElem?_cons_zero, List.getElem?_cons_succ, List.set_cons_zero, List.set_cons_succ, leD, ltD, gtD, geD, cmpD, eqD_str, neD_str, eqD_int, neD_int, inD_sign, isD, isNone, ifB, caE, consA, nilA, ca1, rdAll, dAll, lenD, intF, tupF, lstF, Option.map_some, Option.map_none, Option.bind_some, addD, intD, subI, modI, divI, adI, negD, mulD, revND, revD, tupE, lstE, mtE, okTy, isStr, isLst, stripF, callE, callI, truT, tru1, tru, truD, blT, notT, andT, orT, ifE, notE, andE, orE, if_true, Bool.not_true, Bool.not_false, Bool.true_and, Bool.and_true, Bool.false_and, Bool.or_false, Bool.false_or, Bool.true_or, Bool.or_true, Bool.and_false, Bool.false_xor, Bool.true_xor, slE, noP, someP, sl1, slD, seqI, its1, optI, forS, turn, lcE, wipeS, restS, plainAt, List.getD_cons_zero, List.getD_cons_succ, List.all_cons, List.all_nil, muE, mu1, lstAt, dArgs, appF, popF, rvsF, extF, rng1I, rng2I, enI, zipI, zip2, starA, subS, decide_true, decide_false, Int.reduceLT, Int.reduceLE, Nat.reduceLT, Nat.reduceLeDiff, true_and, and_true, Bool.false_eq_true, if_false, ite_true, ite_false, reduceIte, reduceCtorEq, Option.some.injEq, lo, bad, decide_true, h10]
theorem bad2 (b : D) (s : S) : call1 4 F_law_told [.d (.int 2), .d (.int k), .d (.str u), .d b] s = .ok (.d (RF 1 0)) s := by
  have lo := fun s => check_word_c k u s
  rw [nk] at lo
  have lo : ∀ s, call1 2 F_check_word [.d (.int k), .d (.str u)] s = bad "BadNumber" s := lo
  refine told_num ?_ s
  simp only [sTold, Gv, Gio, ins, List.map_cons, List.map_nil, List.length_cons, List.length_nil, Nat.sub_self, List.replicate_zero, List.append_nil, List.nil_append, List.cons_append, List.replicate_succ, Nat.reduceSub, Nat.reduceAdd, retS, retN, ret1, setS, sto, stoO, freeAt, free_dv, dv_some, dv_none, free_d, free_n, free_o, plain_dv, plain_dd, plain_n, dropS, seqS, ifS, raiS, nextS, brkS, cntS, unpS, tpG, itsOf, bindAll, optO, nmG, augS, chE, bind_ok, bind_er, bind_ite, out_ok, out_er, out_ite, seq_nx, seq_rt, seq_er, seq_bk, seq_ct, seq_ite, ite_and, ite_or, ite_and2, ite_or2, ite_andB, ite_orB, cE, varE, shE, shr, bi2, un1, opE, unE, rd, List.getElem?_cons_zero, List.getElem?_cons_succ, List.set_cons_zero, List.set_cons_succ, leD, ltD, gtD, geD, cmpD, eqD_str, neD_str, eqD_int, neD_int, inD_sign, isD, isNone, ifB, caE, consA, nilA, ca1, rdAll, dAll, lenD, intF, tupF, lstF, Option.map_some, Option.map_none, Option.bind_some, addD, intD, subI, modI, divI, adI, negD, mulD, revND, revD, tupE, lstE, mtE, okTy, isStr, isLst, stripF, callE, callI, truT, tru1, tru, truD, blT, notT, andT, orT, ifE, notE, andE, orE, if_true, Bool.not_true, Bool.not_false, Bool.true_and, Bool.and_true, Bool.false_and, Bool.or_false, Bool.false_or, Bool.true_or, Bool.or_true, Bool.and_false, Bool.false_xor, Bool.true_xor, slE, noP, someP, sl1, slD, seqI, its1, optI, forS, turn, lcE, wipeS, restS, plainAt, List.getD_cons_zero, List.getD_cons_succ, List.all_cons, List.all_nil, muE, mu1, lstAt, dArgs, appF, popF, rvsF, extF, rng1I, rng2I, enI, zipI, zip2, starA, subS, decide_true, decide_false, Int.reduceLT, Int.reduceLE, Nat.reduceLT, Nat.reduceLeDiff, true_and, and_true, Bool.false_eq_true, if_false, ite_true, ite_false, reduceIte, reduceCtorEq, Option.some.injEq, lo, bad, decide_true, h20, h21]
theorem bad3 (s : S) : call1 4 F_law_told [.d (.int 3), .d (.int k), .d (.str u), .d (.str v)] s = .ok (.d (RF 1 0)) s := by
  have lo := fun s => is_before_c (k := k) (u := u) (v := v) s
  rw [nk] at lo
  have lo : ∀ s, call1 3 F_is_before [.d (.int k), .d (.str u), .d (.str v)] s = bad "BadNumber" s := lo
  refine told_num ?_ s
  simp only [sTold, Gv, Gio, ins, List.map_cons, List.map_nil, List.length_cons, List.length_nil, Nat.sub_self, List.replicate_zero, List.append_nil, List.nil_append, List.cons_append, List.replicate_succ, Nat.reduceSub, Nat.reduceAdd, retS, retN, ret1, setS, sto, stoO, freeAt, free_dv, dv_some, dv_none, free_d, free_n, free_o, plain_dv, plain_dd, plain_n, dropS, seqS, ifS, raiS, nextS, brkS, cntS, unpS, tpG, itsOf, bindAll, optO, nmG, augS, chE, bind_ok, bind_er, bind_ite, out_ok, out_er, out_ite, seq_nx, seq_rt, seq_er, seq_bk, seq_ct, seq_ite, ite_and, ite_or, ite_and2, ite_or2, ite_andB, ite_orB, cE, varE, shE, shr, bi2, un1, opE, unE, rd, List.getElem?_cons_zero, List.getElem?_cons_succ, List.set_cons_zero, List.set_cons_succ, leD, ltD, gtD, geD, cmpD, eqD_str, neD_str, eqD_int, neD_int, inD_sign, isD, isNone, ifB, caE, consA, nilA, ca1, rdAll, dAll, lenD, intF, tupF, lstF, Option.map_some, Option.map_none, Option.bind_some, addD, intD, subI, modI, divI, adI, negD, mulD, revND, revD, tupE, lstE, mtE, okTy, isStr, isLst, stripF, callE, callI, truT, tru1, tru, truD, blT, notT, andT, orT, ifE, notE, andE, orE, if_true, Bool.not_true, Bool.not_false, Bool.true_and, Bool.and_true, Bool.false_and, Bool.or_false, Bool.false_or, Bool.true_or, Bool.or_true, Bool.and_false, Bool.false_xor, Bool.true_xor, slE, noP, someP, sl1, slD, seqI, its1, optI, forS, turn, lcE, wipeS, restS, plainAt, List.getD_cons_zero, List.getD_cons_succ, List.all_cons, List.all_nil, muE, mu1, lstAt, dArgs, appF, popF, rvsF, extF, rng1I, rng2I, enI, zipI, zip2, starA, subS, decide_true, decide_false, Int.reduceLT, Int.reduceLE, Nat.reduceLT, Nat.reduceLeDiff, true_and, and_true, Bool.false_eq_true, if_false, ite_true, ite_false, reduceIte, reduceCtorEq, Option.some.injEq, lo, bad, decide_true, h30, h31, h32]
theorem bad4 (n : Int) (b : D) (s : S) : call1 4 F_law_told [.d (.int 4), .d (.int k), .d (.int n), .d b] s = .ok (.d (RF 1 0)) s := by
  have lo := fun s => letters_of_c k s
  rw [nk] at lo
  have lo : ∀ s, call1 1 F_letters_of [.d (.int k)] s = bad "BadNumber" s := lo
  have wo : ∀ s, call1 2 F_words_of_length [.d (.int k), .d (.int n)] s = bad "BadNumber" s := fun s => by
    refine call_er (ds := [.int k, .int n]) rfl ?_
    simp only [b_words_of_length, Gv, Gio, ins, List.map_cons, List.map_nil, List.length_cons, List.length_nil, Nat.sub_self, List.replicate_zero, List.append_nil, List.nil_append, List.cons_append, List.replicate_succ, Nat.reduceSub, Nat.reduceAdd, retS, retN, ret1, setS, sto, stoO, freeAt, free_dv, dv_some, dv_none, free_d, free_n, free_o, plain_dv, plain_dd, plain_n, dropS, seqS, ifS, raiS, nextS, brkS, cntS, unpS, tpG, itsOf, bindAll, optO, nmG, augS, chE, bind_ok, bind_er, bind_ite, out_ok, out_er, out_ite, seq_nx, seq_rt, seq_er, seq_bk, seq_ct, seq_ite, ite_and, ite_or, ite_and2, ite_or2, ite_andB, ite_orB, cE, varE, shE, shr, bi2, un1, opE, unE, rd, List.getElem?_cons_zero, List.getElem?_cons_succ, List.set_cons_zero, List.set_cons_succ, leD, ltD, gtD, geD, cmpD, eqD_str, neD_str, eqD_int, neD_int, inD_sign, isD, isNone, ifB, caE, consA, nilA, ca1, rdAll, dAll, lenD, intF, tupF, lstF, Option.map_some, Option.map_none, Option.bind_some, addD, intD, subI, modI, divI, adI, negD, mulD, revND, revD, tupE, lstE, mtE, okTy, isStr, isLst, stripF, callE, callI, truT, tru1, tru, truD, blT, notT, andT, orT, ifE, notE, andE, orE, if_true, Bool.not_true, Bool.not_false, Bool.true_and, Bool.and_true, Bool.false_and, Bool.or_false, Bool.false_or, Bool.true_or, Bool.or_true, Bool.and_false, Bool.false_xor, Bool.true_xor, slE, noP, someP, sl1, slD, seqI, its1, optI, forS, turn, lcE, wipeS, restS, plainAt, List.getD_cons_zero, List.getD_cons_succ, List.all_cons, List.all_nil, muE, mu1, lstAt, dArgs, appF, popF, rvsF, extF, rng1I, rng2I, enI, zipI, zip2, starA, subS, decide_true, decide_false, Int.reduceLT, Int.reduceLE, Nat.reduceLT, Nat.reduceLeDiff, true_and, and_true, Bool.false_eq_true, if_false, ite_true, ite_false, reduceIte, reduceCtorEq, Option.some.injEq, lo, bad]
    exact ⟨_, rfl⟩
  refine told_num ?_ s
  simp only [sTold, Gv, Gio, ins, List.map_cons, List.map_nil, List.length_cons, List.length_nil, Nat.sub_self, List.replicate_zero, List.append_nil, List.nil_append, List.cons_append, List.replicate_succ, Nat.reduceSub, Nat.reduceAdd, retS, retN, ret1, setS, sto, stoO, freeAt, free_dv, dv_some, dv_none, free_d, free_n, free_o, plain_dv, plain_dd, plain_n, dropS, seqS, ifS, raiS, nextS, brkS, cntS, unpS, tpG, itsOf, bindAll, optO, nmG, augS, chE, bind_ok, bind_er, bind_ite, out_ok, out_er, out_ite, seq_nx, seq_rt, seq_er, seq_bk, seq_ct, seq_ite, ite_and, ite_or, ite_and2, ite_or2, ite_andB, ite_orB, cE, varE, shE, shr, bi2, un1, opE, unE, rd, List.getElem?_cons_zero, List.getElem?_cons_succ, List.set_cons_zero, List.set_cons_succ, leD, ltD, gtD, geD, cmpD, eqD_str, neD_str, eqD_int, neD_int, inD_sign, isD, isNone, ifB, caE, consA, nilA, ca1, rdAll, dAll, lenD, intF, tupF, lstF, Option.map_some, Option.map_none, Option.bind_some, addD, intD, subI, modI, divI, adI, negD, mulD, revND, revD, tupE, lstE, mtE, okTy, isStr, isLst, stripF, callE, callI, truT, tru1, tru, truD, blT, notT, andT, orT, ifE, notE, andE, orE, if_true, Bool.not_true, Bool.not_false, Bool.true_and, Bool.and_true, Bool.false_and, Bool.or_false, Bool.false_or, Bool.true_or, Bool.or_true, Bool.and_false, Bool.false_xor, Bool.true_xor, slE, noP, someP, sl1, slD, seqI, its1, optI, forS, turn, lcE, wipeS, restS, plainAt, List.getD_cons_zero, List.getD_cons_succ, List.all_cons, List.all_nil, muE, mu1, lstAt, dArgs, appF, popF, rvsF, extF, rng1I, rng2I, enI, zipI, zip2, starA, subS, decide_true, decide_false, Int.reduceLT, Int.reduceLE, Nat.reduceLT, Nat.reduceLeDiff, true_and, and_true, Bool.false_eq_true, if_false, ite_true, ite_false, reduceIte, reduceCtorEq, Option.some.injEq, wo, bad, h40, h41, h42, h43]
end
section
variable {k : Int} (a : 2 ≤ k) (b : k ≤ 6) {u v : Str}
include a b
theorem good0 (x y : D) (s : S) : call1 4 F_law_told [.d (.int 0), .d (.int k), .d x, .d y] s = .ok (.d (TD (.str (letters k)))) s := by
  have nk := numOk_of a b
  have lo := fun s => letters_of_c k s
  rw [nk] at lo
  have lo : ∀ s, call1 1 F_letters_of [.d (.int k)] s = .ok (.d (.str (letters k))) s := lo
  have z2 := z2'
  refine told_ok ?_ s
  simp only [sTold, Gv, Gio, ins, List.map_cons, List.map_nil, List.length_cons, List.length_nil, Nat.sub_self, List.replicate_zero, List.append_nil, List.nil_append, List.cons_append, List.replicate_succ, Nat.reduceSub, Nat.reduceAdd, retS, retN, ret1, setS, sto, stoO, freeAt, free_dv, dv_some, dv_none, free_d, free_n, free_o, plain_dv, plain_dd, plain_n, dropS, seqS, ifS, raiS, nextS, brkS, cntS, unpS, tpG, itsOf, bindAll, optO, nmG, augS, chE, bind_ok, bind_er, bind_ite, out_ok, out_er, out_ite, seq_nx, seq_rt, seq_er, seq_bk, seq_ct, seq_ite, ite_and, ite_or, ite_and2, ite_or2, ite_andB, ite_orB, cE, varE, shE, shr, bi2, un1, opE, unE, rd, List.getElem?_cons_zero, List.getElem?_cons_succ, List.set_cons_zero, List.set_cons_succ, leD, ltD, gtD, geD, cmpD, eqD_str, neD_str, eqD_int, neD_int, inD_sign, isD, isNone, ifB, caE, consA, nilA, ca1, rdAll, dAll, lenD, intF, tupF, lstF, Option.map_some, Option.map_none, Option.bind_some, addD, intD, subI, modI, divI, adI, negD, mulD, revND, revD, tupE, lstE, mtE, okTy, isStr, isLst, stripF, callE, callI, truT, tru1, tru, truD, blT, notT, andT, orT, ifE, notE, andE, orE, if_true, Bool.not_true, Bool.not_false, Bool.true_and, Bool.and_true, Bool.false_and, Bool.or_false, Bool.false_or, Bool.true_or, Bool.or_true, Bool.and_false, Bool.false_xor, Bool.true_xor, slE, noP, someP, sl1, slD, seqI, its1, optI, forS, turn, lcE, wipeS, restS, plainAt, List.getD_cons_zero, List.getD_cons_succ, List.all_cons, List.all_nil, muE, mu1, lstAt, dArgs, appF, popF, rvsF, extF, rng1I, rng2I, enI, zipI, zip2, starA, subS, decide_true, decide_false, Int.reduceLT, Int.reduceLE, Nat.reduceLT, Nat.reduceLeDiff, true_and, and_true, Bool.false_eq_true, if_false, ite_true, ite_false, reduceIte, reduceCtorEq, Option.some.injEq, lo, decide_true, z2, TD]
theorem good1 (y : D) (s : S) : call1 4 F_law_told [.d (.int 1), .d (.int k), .d (.str u), .d y] s = .ok (.d (TD (.bool (isWord k u)))) s := by
  have nk := numOk_of a b
  have lo := fun s => is_word_c k u s
  rw [nk] at lo
  have lo : ∀ s, call1 2 F_is_word [.d (.int k), .d (.str u)] s = .ok (.d (.bool (isWord k u))) s := lo
  have z2 := z2'
  refine told_ok ?_ s
  simp only [sTold, Gv, Gio, ins, List.map_cons, List.map_nil, List.length_cons, List.length_nil, Nat.sub_self, List.replicate_zero, List.append_nil, List.nil_append, List.cons_append, List.replicate_succ, Nat.reduceSub, Nat.reduceAdd, retS, retN, ret1, setS, sto, stoO, freeAt, free_dv, dv_some, dv_none, free_d, free_n, free_o, plain_dv, plain_dd, plain_n, dropS, seqS, ifS, raiS, nextS, brkS, cntS, unpS, tpG, itsOf, bindAll, optO, nmG, augS, chE, bind_ok, bind_er, bind_ite, out_ok, out_er, out_ite, seq_nx, seq_rt, seq_er, seq_bk, seq_ct, seq_ite, ite_and, ite_or, ite_and2, ite_or2, ite_andB, ite_orB, cE, varE, shE, shr, bi2, un1, opE, unE, rd, List.getElem?_cons_zero, List.getElem?_cons_succ, List.set_cons_zero, List.set_cons_succ, leD, ltD, gtD, geD, cmpD, eqD_str, neD_str, eqD_int, neD_int, inD_sign, isD, isNone, ifB, caE, consA, nilA, ca1, rdAll, dAll, lenD, intF, tupF, lstF, Option.map_some, Option.map_none, Option.bind_some, addD, intD, subI, modI, divI, adI, negD, mulD, revND, revD, tupE, lstE, mtE, okTy, isStr, isLst, stripF, callE, callI, truT, tru1, tru, truD, blT, notT, andT, orT, ifE, notE, andE, orE, if_true, Bool.not_true, Bool.not_false, Bool.true_and, Bool.and_true, Bool.false_and, Bool.or_false, Bool.false_or, Bool.true_or, Bool.or_true, Bool.and_false, Bool.false_xor, Bool.true_xor, slE, noP, someP, sl1, slD, seqI, its1, optI, forS, turn, lcE, wipeS, restS, plainAt, List.getD_cons_zero, List.getD_cons_succ, List.all_cons, List.all_nil, muE, mu1, lstAt, dArgs, appF, popF, rvsF, extF, rng1I, rng2I, enI, zipI, zip2, starA, subS, decide_true, decide_false, Int.reduceLT, Int.reduceLE, Nat.reduceLT, Nat.reduceLeDiff, true_and, and_true, Bool.false_eq_true, if_false, ite_true, ite_false, reduceIte, reduceCtorEq, Option.some.injEq, lo, decide_true, h10, z2, TD]
theorem good2 (y : D) (s : S) : call1 4 F_law_told [.d (.int 2), .d (.int k), .d (.str u), .d y] s = .ok (.d (if isWord k u = true then TD .none else RF 0 1)) s := by
  have nk := numOk_of a b
  have lo := fun s => check_word_c k u s
  rw [nk] at lo
  have z2 := z2'
  cases w : isWord k u
  · rw [w] at lo
    have lo : ∀ s, call1 2 F_check_word [.d (.int k), .d (.str u)] s = bad "NotWord" s := lo
    refine told_word ?_ s
    simp only [sTold, Gv, Gio, ins, List.map_cons, List.map_nil, List.length_cons, List.length_nil, Nat.sub_self, List.replicate_zero, List.append_nil, List.nil_append, List.cons_append, List.replicate_succ, Nat.reduceSub, Nat.reduceAdd, retS, retN, ret1, setS, sto, stoO, freeAt, free_dv, dv_some, dv_none, free_d, free_n, free_o, plain_dv, plain_dd, plain_n, dropS, seqS, ifS, raiS, nextS, brkS, cntS, unpS, tpG, itsOf, bindAll, optO, nmG, augS, chE, bind_ok, bind_er, bind_ite, out_ok, out_er, out_ite, seq_nx, seq_rt, seq_er, seq_bk, seq_ct, seq_ite, ite_and, ite_or, ite_and2, ite_or2, ite_andB, ite_orB, cE, varE, shE, shr, bi2, un1, opE, unE, rd, List.getElem?_cons_zero, List.getElem?_cons_succ, List.set_cons_zero, List.set_cons_succ, leD, ltD, gtD, geD, cmpD, eqD_str, neD_str, eqD_int, neD_int, inD_sign, isD, isNone, ifB, caE, consA, nilA, ca1, rdAll, dAll, lenD, intF, tupF, lstF, Option.map_some, Option.map_none, Option.bind_some, addD, intD, subI, modI, divI, adI, negD, mulD, revND, revD, tupE, lstE, mtE, okTy, isStr, isLst, stripF, callE, callI, truT, tru1, tru, truD, blT, notT, andT, orT, ifE, notE, andE, orE, if_true, Bool.not_true, Bool.not_false, Bool.true_and, Bool.and_true, Bool.false_and, Bool.or_false, Bool.false_or, Bool.true_or, Bool.or_true, Bool.and_false, Bool.false_xor, Bool.true_xor, slE, noP, someP, sl1, slD, seqI, its1, optI, forS, turn, lcE, wipeS, restS, plainAt, List.getD_cons_zero, List.getD_cons_succ, List.all_cons, List.all_nil, muE, mu1, lstAt, dArgs, appF, popF, rvsF, extF, rng1I, rng2I, enI, zipI, zip2, starA, subS, decide_true, decide_false, Int.reduceLT, Int.reduceLE, Nat.reduceLT, Nat.reduceLeDiff, true_and, and_true, Bool.false_eq_true, if_false, ite_true, ite_false, reduceIte, reduceCtorEq, Option.some.injEq, lo, bad, decide_true, h20, h21]
  · rw [w] at lo
    have lo : ∀ s, call1 2 F_check_word [.d (.int k), .d (.str u)] s = .ok (.d .none) s := lo
    refine told_ok ?_ s
    simp only [sTold, Gv, Gio, ins, List.map_cons, List.map_nil, List.length_cons, List.length_nil, Nat.sub_self, List.replicate_zero, List.append_nil, List.nil_append, List.cons_append, List.replicate_succ, Nat.reduceSub, Nat.reduceAdd, retS, retN, ret1, setS, sto, stoO, freeAt, free_dv, dv_some, dv_none, free_d, free_n, free_o, plain_dv, plain_dd, plain_n, dropS, seqS, ifS, raiS, nextS, brkS, cntS, unpS, tpG, itsOf, bindAll, optO, nmG, augS, chE, bind_ok, bind_er, bind_ite, out_ok, out_er, out_ite, seq_nx, seq_rt, seq_er, seq_bk, seq_ct, seq_ite, ite_and, ite_or, ite_and2, ite_or2, ite_andB, ite_orB, cE, varE, shE, shr, bi2, un1, opE, unE, rd, List.getElem?_cons_zero, List.getElem?_cons_succ, List.set_cons_zero, List.set_cons_succ, leD, ltD, gtD, geD, cmpD, eqD_str, neD_str, eqD_int, neD_int, inD_sign, isD, isNone, ifB, caE, consA, nilA, ca1, rdAll, dAll, lenD, intF, tupF, lstF, Option.map_some, Option.map_none, Option.bind_some, addD, intD, subI, modI, divI, adI, negD, mulD, revND, revD, tupE, lstE, mtE, okTy, isStr, isLst, stripF, callE, callI, truT, tru1, tru, truD, blT, notT, andT, orT, ifE, notE, andE, orE, if_true, Bool.not_true, Bool.not_false, Bool.true_and, Bool.and_true, Bool.false_and, Bool.or_false, Bool.false_or, Bool.true_or, Bool.or_true, Bool.and_false, Bool.false_xor, Bool.true_xor, slE, noP, someP, sl1, slD, seqI, its1, optI, forS, turn, lcE, wipeS, restS, plainAt, List.getD_cons_zero, List.getD_cons_succ, List.all_cons, List.all_nil, muE, mu1, lstAt, dArgs, appF, popF, rvsF, extF, rng1I, rng2I, enI, zipI, zip2, starA, subS, decide_true, decide_false, Int.reduceLT, Int.reduceLE, Nat.reduceLT, Nat.reduceLeDiff, true_and, and_true, Bool.false_eq_true, if_false, ite_true, ite_false, reduceIte, reduceCtorEq, Option.some.injEq, lo, decide_true, h20, h21, z2, TD]
theorem good3 (s : S) : call1 4 F_law_told [.d (.int 3), .d (.int k), .d (.str u), .d (.str v)] s = .ok (.d (if (isWord k u && isWord k v) = true then TD (.bool (befB u v)) else RF 0 1)) s := by
  have nk := numOk_of a b
  have lo := fun s => is_before_c (k := k) (u := u) (v := v) s
  rw [nk] at lo
  have z2 := z2'
  cases w : isWord k u
  · rw [w] at lo
    have lo : ∀ s, call1 3 F_is_before [.d (.int k), .d (.str u), .d (.str v)] s = bad "NotWord" s := lo
    refine told_word ?_ s
    simp only [sTold, Gv, Gio, ins, List.map_cons, List.map_nil, List.length_cons, List.length_nil, Nat.sub_self, List.replicate_zero, List.append_nil, List.nil_append, List.cons_append, List.replicate_succ, Nat.reduceSub, Nat.reduceAdd, retS, retN, ret1, setS, sto, stoO, freeAt, free_dv, dv_some, dv_none, free_d, free_n, free_o, plain_dv, plain_dd, plain_n, dropS, seqS, ifS, raiS, nextS, brkS, cntS, unpS, tpG, itsOf, bindAll, optO, nmG, augS, chE, bind_ok, bind_er, bind_ite, out_ok, out_er, out_ite, seq_nx, seq_rt, seq_er, seq_bk, seq_ct, seq_ite, ite_and, ite_or, ite_and2, ite_or2, ite_andB, ite_orB, cE, varE, shE, shr, bi2, un1, opE, unE, rd, List.getElem?_cons_zero, List.getElem?_cons_succ, List.set_cons_zero, List.set_cons_succ, leD, ltD, gtD, geD, cmpD, eqD_str, neD_str, eqD_int, neD_int, inD_sign, isD, isNone, ifB, caE, consA, nilA, ca1, rdAll, dAll, lenD, intF, tupF, lstF, Option.map_some, Option.map_none, Option.bind_some, addD, intD, subI, modI, divI, adI, negD, mulD, revND, revD, tupE, lstE, mtE, okTy, isStr, isLst, stripF, callE, callI, truT, tru1, tru, truD, blT, notT, andT, orT, ifE, notE, andE, orE, if_true, Bool.not_true, Bool.not_false, Bool.true_and, Bool.and_true, Bool.false_and, Bool.or_false, Bool.false_or, Bool.true_or, Bool.or_true, Bool.and_false, Bool.false_xor, Bool.true_xor, slE, noP, someP, sl1, slD, seqI, its1, optI, forS, turn, lcE, wipeS, restS, plainAt, List.getD_cons_zero, List.getD_cons_succ, List.all_cons, List.all_nil, muE, mu1, lstAt, dArgs, appF, popF, rvsF, extF, rng1I, rng2I, enI, zipI, zip2, starA, subS, decide_true, decide_false, Int.reduceLT, Int.reduceLE, Nat.reduceLT, Nat.reduceLeDiff, true_and, and_true, Bool.false_eq_true, if_false, ite_true, ite_false, reduceIte, reduceCtorEq, Option.some.injEq, lo, bad, decide_true, h30, h31, h32]
  · rw [w] at lo
    cases w2 : isWord k v
    · rw [w2] at lo
      have lo : ∀ s, call1 3 F_is_before [.d (.int k), .d (.str u), .d (.str v)] s = bad "NotWord" s := lo
      refine told_word ?_ s
      simp only [sTold, Gv, Gio, ins, List.map_cons, List.map_nil, List.length_cons, List.length_nil, Nat.sub_self, List.replicate_zero, List.append_nil, List.nil_append, List.cons_append, List.replicate_succ, Nat.reduceSub, Nat.reduceAdd, retS, retN, ret1, setS, sto, stoO, freeAt, free_dv, dv_some, dv_none, free_d, free_n, free_o, plain_dv, plain_dd, plain_n, dropS, seqS, ifS, raiS, nextS, brkS, cntS, unpS, tpG, itsOf, bindAll, optO, nmG, augS, chE, bind_ok, bind_er, bind_ite, out_ok, out_er, out_ite, seq_nx, seq_rt, seq_er, seq_bk, seq_ct, seq_ite, ite_and, ite_or, ite_and2, ite_or2, ite_andB, ite_orB, cE, varE, shE, shr, bi2, un1, opE, unE, rd, List.getElem?_cons_zero, List.getElem?_cons_succ, List.set_cons_zero, List.set_cons_succ, leD, ltD, gtD, geD, cmpD, eqD_str, neD_str, eqD_int, neD_int, inD_sign, isD, isNone, ifB, caE, consA, nilA, ca1, rdAll, dAll, lenD, intF, tupF, lstF, Option.map_some, Option.map_none, Option.bind_some, addD, intD, subI, modI, divI, adI, negD, mulD, revND, revD, tupE, lstE, mtE, okTy, isStr, isLst, stripF, callE, callI, truT, tru1, tru, truD, blT, notT, andT, orT, ifE, notE, andE, orE, if_true, Bool.not_true, Bool.not_false, Bool.true_and, Bool.and_true, Bool.false_and, Bool.or_false, Bool.false_or, Bool.true_or, Bool.or_true, Bool.and_false, Bool.false_xor, Bool.true_xor, slE, noP, someP, sl1, slD, seqI, its1, optI, forS, turn, lcE, wipeS, restS, plainAt, List.getD_cons_zero, List.getD_cons_succ, List.all_cons, List.all_nil, muE, mu1, lstAt, dArgs, appF, popF, rvsF, extF, rng1I, rng2I, enI, zipI, zip2, starA, subS, decide_true, decide_false, Int.reduceLT, Int.reduceLE, Nat.reduceLT, Nat.reduceLeDiff, true_and, and_true, Bool.false_eq_true, if_false, ite_true, ite_false, reduceIte, reduceCtorEq, Option.some.injEq, lo, bad, decide_true, h30, h31, h32]
    · rw [w2] at lo
      have lo : ∀ s, call1 3 F_is_before [.d (.int k), .d (.str u), .d (.str v)] s = .ok (.d (.bool (befB u v))) s := lo
      refine told_ok ?_ s
      simp only [sTold, Gv, Gio, ins, List.map_cons, List.map_nil, List.length_cons, List.length_nil, Nat.sub_self, List.replicate_zero, List.append_nil, List.nil_append, List.cons_append, List.replicate_succ, Nat.reduceSub, Nat.reduceAdd, retS, retN, ret1, setS, sto, stoO, freeAt, free_dv, dv_some, dv_none, free_d, free_n, free_o, plain_dv, plain_dd, plain_n, dropS, seqS, ifS, raiS, nextS, brkS, cntS, unpS, tpG, itsOf, bindAll, optO, nmG, augS, chE, bind_ok, bind_er, bind_ite, out_ok, out_er, out_ite, seq_nx, seq_rt, seq_er, seq_bk, seq_ct, seq_ite, ite_and, ite_or, ite_and2, ite_or2, ite_andB, ite_orB, cE, varE, shE, shr, bi2, un1, opE, unE, rd, List.getElem?_cons_zero, List.getElem?_cons_succ, List.set_cons_zero, List.set_cons_succ, leD, ltD, gtD, geD, cmpD, eqD_str, neD_str, eqD_int, neD_int, inD_sign, isD, isNone, ifB, caE, consA, nilA, ca1, rdAll, dAll, lenD, intF, tupF, lstF, Option.map_some, Option.map_none, Option.bind_some, addD, intD, subI, modI, divI, adI, negD, mulD, revND, revD, tupE, lstE, mtE, okTy, isStr, isLst, stripF, callE, callI, truT, tru1, tru, truD, blT, notT, andT, orT, ifE, notE, andE, orE, if_true, Bool.not_true, Bool.not_false, Bool.true_and, Bool.and_true, Bool.false_and, Bool.or_false, Bool.false_or, Bool.true_or, Bool.or_true, Bool.and_false, Bool.false_xor, Bool.true_xor, slE, noP, someP, sl1, slD, seqI, its1, optI, forS, turn, lcE, wipeS, restS, plainAt, List.getD_cons_zero, List.getD_cons_succ, List.all_cons, List.all_nil, muE, mu1, lstAt, dArgs, appF, popF, rvsF, extF, rng1I, rng2I, enI, zipI, zip2, starA, subS, decide_true, decide_false, Int.reduceLT, Int.reduceLE, Nat.reduceLT, Nat.reduceLeDiff, true_and, and_true, Bool.false_eq_true, if_false, ite_true, ite_false, reduceIte, reduceCtorEq, Option.some.injEq, lo, decide_true, h30, h31, h32, z2, TD]
theorem good4 {n : Nat} (hn : n ≤ 3) (y : D) (s : S) : call1 4 F_law_told [.d (.int 4), .d (.int k), .d (.int ((n : Nat) : Int)), .d y] s = .ok (.d (TD (.list ((wl k n).map .str)))) s := by
  have wo := fun s => words_of_length_c a b (n := n) (by omega) s
  have z2 := z2'
  obtain ⟨W, hW⟩ : ∃ W, W = (wl k n).map PyData.str := ⟨_, rfl⟩
  rw [← hW] at wo ⊢
  refine told_ok ?_ s
  simp only [sTold, Gv, Gio, ins, List.map_cons, List.map_nil, List.length_cons, List.length_nil, Nat.sub_self, List.replicate_zero, List.append_nil, List.nil_append, List.cons_append, List.replicate_succ, Nat.reduceSub, Nat.reduceAdd, retS, retN, ret1, setS, sto, stoO, freeAt, free_dv, dv_some, dv_none, free_d, free_n, free_o, plain_dv, plain_dd, plain_n, dropS, seqS, ifS, raiS, nextS, brkS, cntS, unpS, tpG, itsOf, bindAll, optO, nmG, augS, chE, bind_ok, bind_er, bind_ite, out_ok, out_er, out_ite, seq_nx, seq_rt, seq_er, seq_bk, seq_ct, seq_ite, ite_and, ite_or, ite_and2, ite_or2, ite_andB, ite_orB, cE, varE, shE, shr, bi2, un1, opE, unE, rd, List.getElem?_cons_zero, List.getElem?_cons_succ, List.set_cons_zero, List.set_cons_succ, leD, ltD, gtD, geD, cmpD, eqD_str, neD_str, eqD_int, neD_int, inD_sign, isD, isNone, ifB, caE, consA, nilA, ca1, rdAll, dAll, lenD, intF, tupF, lstF, Option.map_some, Option.map_none, Option.bind_some, addD, intD, subI, modI, divI, adI, negD, mulD, revND, revD, tupE, lstE, mtE, okTy, isStr, isLst, stripF, callE, callI, truT, tru1, tru, truD, blT, notT, andT, orT, ifE, notE, andE, orE, if_true, Bool.not_true, Bool.not_false, Bool.true_and, Bool.and_true, Bool.false_and, Bool.or_false, Bool.false_or, Bool.true_or, Bool.or_true, Bool.and_false, Bool.false_xor, Bool.true_xor, slE, noP, someP, sl1, slD, seqI, its1, optI, forS, turn, lcE, wipeS, restS, plainAt, List.getD_cons_zero, List.getD_cons_succ, List.all_cons, List.all_nil, muE, mu1, lstAt, dArgs, appF, popF, rvsF, extF, rng1I, rng2I, enI, zipI, zip2, starA, subS, decide_true, decide_false, Int.reduceLT, Int.reduceLE, Nat.reduceLT, Nat.reduceLeDiff, true_and, and_true, Bool.false_eq_true, if_false, ite_true, ite_false, reduceIte, reduceCtorEq, Option.some.injEq, wo, h40, h41, h42, h43, z2, TD]
theorem neg4 (y : D) (s : S) : call1 4 F_law_told [.d (.int 4), .d (.int k), .d (.int (-1)), .d y] s = .ok (.d (RF 1 0)) s := by
  have nk := numOk_of a b
  have lo := fun s => letters_of_c k s
  rw [nk] at lo
  have lo : ∀ s, call1 1 F_letters_of [.d (.int k)] s = .ok (.d (.str (letters k))) s := lo
  have ng : decide ((-1 : Int) < 0) = true := rfl
  have wo : ∀ s, call1 2 F_words_of_length [.d (.int k), .d (.int (-1))] s = bad "BadNumber" s := fun s => by
    refine call_er (ds := [.int k, .int (-1)]) rfl ?_
    simp only [b_words_of_length, Gv, Gio, ins, List.map_cons, List.map_nil, List.length_cons, List.length_nil, Nat.sub_self, List.replicate_zero, List.append_nil, List.nil_append, List.cons_append, List.replicate_succ, Nat.reduceSub, Nat.reduceAdd, retS, retN, ret1, setS, sto, stoO, freeAt, free_dv, dv_some, dv_none, free_d, free_n, free_o, plain_dv, plain_dd, plain_n, dropS, seqS, ifS, raiS, nextS, brkS, cntS, unpS, tpG, itsOf, bindAll, optO, nmG, augS, chE, bind_ok, bind_er, bind_ite, out_ok, out_er, out_ite, seq_nx, seq_rt, seq_er, seq_bk, seq_ct, seq_ite, ite_and, ite_or, ite_and2, ite_or2, ite_andB, ite_orB, cE, varE, shE, shr, bi2, un1, opE, unE, rd, List.getElem?_cons_zero, List.getElem?_cons_succ, List.set_cons_zero, List.set_cons_succ, leD, ltD, gtD, geD, cmpD, eqD_str, neD_str, eqD_int, neD_int, inD_sign, isD, isNone, ifB, caE, consA, nilA, ca1, rdAll, dAll, lenD, intF, tupF, lstF, Option.map_some, Option.map_none, Option.bind_some, addD, intD, subI, modI, divI, adI, negD, mulD, revND, revD, tupE, lstE, mtE, okTy, isStr, isLst, stripF, callE, callI, truT, tru1, tru, truD, blT, notT, andT, orT, ifE, notE, andE, orE, if_true, Bool.not_true, Bool.not_false, Bool.true_and, Bool.and_true, Bool.false_and, Bool.or_false, Bool.false_or, Bool.true_or, Bool.or_true, Bool.and_false, Bool.false_xor, Bool.true_xor, slE, noP, someP, sl1, slD, seqI, its1, optI, forS, turn, lcE, wipeS, restS, plainAt, List.getD_cons_zero, List.getD_cons_succ, List.all_cons, List.all_nil, muE, mu1, lstAt, dArgs, appF, popF, rvsF, extF, rng1I, rng2I, enI, zipI, zip2, starA, subS, decide_true, decide_false, Int.reduceLT, Int.reduceLE, Nat.reduceLT, Nat.reduceLeDiff, true_and, and_true, Bool.false_eq_true, if_false, ite_true, ite_false, reduceIte, reduceCtorEq, Option.some.injEq, lo, ng, bad]
    exact ⟨_, rfl⟩
  refine told_num ?_ s
  simp only [sTold, Gv, Gio, ins, List.map_cons, List.map_nil, List.length_cons, List.length_nil, Nat.sub_self, List.replicate_zero, List.append_nil, List.nil_append, List.cons_append, List.replicate_succ, Nat.reduceSub, Nat.reduceAdd, retS, retN, ret1, setS, sto, stoO, freeAt, free_dv, dv_some, dv_none, free_d, free_n, free_o, plain_dv, plain_dd, plain_n, dropS, seqS, ifS, raiS, nextS, brkS, cntS, unpS, tpG, itsOf, bindAll, optO, nmG, augS, chE, bind_ok, bind_er, bind_ite, out_ok, out_er, out_ite, seq_nx, seq_rt, seq_er, seq_bk, seq_ct, seq_ite, ite_and, ite_or, ite_and2, ite_or2, ite_andB, ite_orB, cE, varE, shE, shr, bi2, un1, opE, unE, rd, List.getElem?_cons_zero, List.getElem?_cons_succ, List.set_cons_zero, List.set_cons_succ, leD, ltD, gtD, geD, cmpD, eqD_str, neD_str, eqD_int, neD_int, inD_sign, isD, isNone, ifB, caE, consA, nilA, ca1, rdAll, dAll, lenD, intF, tupF, lstF, Option.map_some, Option.map_none, Option.bind_some, addD, intD, subI, modI, divI, adI, negD, mulD, revND, revD, tupE, lstE, mtE, okTy, isStr, isLst, stripF, callE, callI, truT, tru1, tru, truD, blT, notT, andT, orT, ifE, notE, andE, orE, if_true, Bool.not_true, Bool.not_false, Bool.true_and, Bool.and_true, Bool.false_and, Bool.or_false, Bool.false_or, Bool.true_or, Bool.or_true, Bool.and_false, Bool.false_xor, Bool.true_xor, slE, noP, someP, sl1, slD, seqI, its1, optI, forS, turn, lcE, wipeS, restS, plainAt, List.getD_cons_zero, List.getD_cons_succ, List.all_cons, List.all_nil, muE, mu1, lstAt, dArgs, appF, popF, rvsF, extF, rng1I, rng2I, enI, zipI, zip2, starA, subS, decide_true, decide_false, Int.reduceLT, Int.reduceLE, Nat.reduceLT, Nat.reduceLeDiff, true_and, and_true, Bool.false_eq_true, if_false, ite_true, ite_false, reduceIte, reduceCtorEq, Option.some.injEq, wo, bad, h40, h41, h42, h43]
theorem big4 (y : D) (s : S) : call1 4 F_law_told [.d (.int 4), .d (.int k), .d (.int 13), .d y] s = .ok (.d (RF 1 0)) s := by
  have nk := numOk_of a b
  have lo := fun s => letters_of_c k s
  rw [nk] at lo
  have lo : ∀ s, call1 1 F_letters_of [.d (.int k)] s = .ok (.d (.str (letters k))) s := lo
  have ng : decide ((13 : Int) < 0) = false := rfl
  have ham : ∀ s, call1 3 F_has_at_most [.d (.int k), .d (.int 13), .d (.int 4096)] s = .ok (.d (.bool false)) s := fun s => by
    have kk : k = 2 ∨ k = 3 ∨ k = 4 ∨ k = 5 ∨ k = 6 := by omega
    rcases kk with rfl | rfl | rfl | rfl | rfl
    all_goals rfl
  have wo : ∀ s, call1 2 F_words_of_length [.d (.int k), .d (.int 13)] s = bad "BadNumber" s := fun s => by
    refine call_er (ds := [.int k, .int 13]) rfl ?_
    simp only [b_words_of_length, Gv, Gio, ins, List.map_cons, List.map_nil, List.length_cons, List.length_nil, Nat.sub_self, List.replicate_zero, List.append_nil, List.nil_append, List.cons_append, List.replicate_succ, Nat.reduceSub, Nat.reduceAdd, retS, retN, ret1, setS, sto, stoO, freeAt, free_dv, dv_some, dv_none, free_d, free_n, free_o, plain_dv, plain_dd, plain_n, dropS, seqS, ifS, raiS, nextS, brkS, cntS, unpS, tpG, itsOf, bindAll, optO, nmG, augS, chE, bind_ok, bind_er, bind_ite, out_ok, out_er, out_ite, seq_nx, seq_rt, seq_er, seq_bk, seq_ct, seq_ite, ite_and, ite_or, ite_and2, ite_or2, ite_andB, ite_orB, cE, varE, shE, shr, bi2, un1, opE, unE, rd, List.getElem?_cons_zero, List.getElem?_cons_succ, List.set_cons_zero, List.set_cons_succ, leD, ltD, gtD, geD, cmpD, eqD_str, neD_str, eqD_int, neD_int, inD_sign, isD, isNone, ifB, caE, consA, nilA, ca1, rdAll, dAll, lenD, intF, tupF, lstF, Option.map_some, Option.map_none, Option.bind_some, addD, intD, subI, modI, divI, adI, negD, mulD, revND, revD, tupE, lstE, mtE, okTy, isStr, isLst, stripF, callE, callI, truT, tru1, tru, truD, blT, notT, andT, orT, ifE, notE, andE, orE, if_true, Bool.not_true, Bool.not_false, Bool.true_and, Bool.and_true, Bool.false_and, Bool.or_false, Bool.false_or, Bool.true_or, Bool.or_true, Bool.and_false, Bool.false_xor, Bool.true_xor, slE, noP, someP, sl1, slD, seqI, its1, optI, forS, turn, lcE, wipeS, restS, plainAt, List.getD_cons_zero, List.getD_cons_succ, List.all_cons, List.all_nil, muE, mu1, lstAt, dArgs, appF, popF, rvsF, extF, rng1I, rng2I, enI, zipI, zip2, starA, subS, decide_true, decide_false, Int.reduceLT, Int.reduceLE, Nat.reduceLT, Nat.reduceLeDiff, true_and, and_true, Bool.false_eq_true, if_false, ite_true, ite_false, reduceIte, reduceCtorEq, Option.some.injEq, lo, ng, ham, bad]
    exact ⟨_, rfl⟩
  refine told_num ?_ s
  simp only [sTold, Gv, Gio, ins, List.map_cons, List.map_nil, List.length_cons, List.length_nil, Nat.sub_self, List.replicate_zero, List.append_nil, List.nil_append, List.cons_append, List.replicate_succ, Nat.reduceSub, Nat.reduceAdd, retS, retN, ret1, setS, sto, stoO, freeAt, free_dv, dv_some, dv_none, free_d, free_n, free_o, plain_dv, plain_dd, plain_n, dropS, seqS, ifS, raiS, nextS, brkS, cntS, unpS, tpG, itsOf, bindAll, optO, nmG, augS, chE, bind_ok, bind_er, bind_ite, out_ok, out_er, out_ite, seq_nx, seq_rt, seq_er, seq_bk, seq_ct, seq_ite, ite_and, ite_or, ite_and2, ite_or2, ite_andB, ite_orB, cE, varE, shE, shr, bi2, un1, opE, unE, rd, List.getElem?_cons_zero, List.getElem?_cons_succ, List.set_cons_zero, List.set_cons_succ, leD, ltD, gtD, geD, cmpD, eqD_str, neD_str, eqD_int, neD_int, inD_sign, isD, isNone, ifB, caE, consA, nilA, ca1, rdAll, dAll, lenD, intF, tupF, lstF, Option.map_some, Option.map_none, Option.bind_some, addD, intD, subI, modI, divI, adI, negD, mulD, revND, revD, tupE, lstE, mtE, okTy, isStr, isLst, stripF, callE, callI, truT, tru1, tru, truD, blT, notT, andT, orT, ifE, notE, andE, orE, if_true, Bool.not_true, Bool.not_false, Bool.true_and, Bool.and_true, Bool.false_and, Bool.or_false, Bool.false_or, Bool.true_or, Bool.or_true, Bool.and_false, Bool.false_xor, Bool.true_xor, slE, noP, someP, sl1, slD, seqI, its1, optI, forS, turn, lcE, wipeS, restS, plainAt, List.getD_cons_zero, List.getD_cons_succ, List.all_cons, List.all_nil, muE, mu1, lstAt, dArgs, appF, popF, rvsF, extF, rng1I, rng2I, enI, zipI, zip2, starA, subS, decide_true, decide_false, Int.reduceLT, Int.reduceLE, Nat.reduceLT, Nat.reduceLeDiff, true_and, and_true, Bool.false_eq_true, if_false, ite_true, ite_false, reduceIte, reduceCtorEq, Option.some.injEq, wo, bad, h40, h41, h42, h43]
end
end K
set_option Elab.async false
set_option linter.all false
set_option maxRecDepth 100000
set_option maxHeartbeats 4000000
namespace K
open PySem PySem.Spec L2 Sv M
noncomputable def T1 : S → Out := (setS 1 (callE 1 F_law_draws (consA (varE 0) nilA)))
noncomputable def T2 : S → Out := (dropS (fun s => mu1 rvsF 1 s []))
noncomputable def T3 : S → Out := (setS 2 (opE addD (cE (.int 2)) (opE (intD modI) (caE intF (consA (callE 1 F_law_next (consA (varE 1) nilA)) nilA)) (cE (.int 5)))))
noncomputable def T4 : S → Out := (setS 3 (callE 3 F_law_string (consA (varE 1) (consA (shE (varE 2)) (consA (cE (.int 6)) nilA)))))
noncomputable def T5 : S → Out := (setS 4 (opE ixD (lstE (consA (shE (callE 3 F_law_string (consA (varE 1) (consA (shE (varE 2)) (consA (cE (.int 6)) nilA))))) (consA (shE (opE addD (varE 3) (opE ixD (cE (.str "ab")) (opE (intD modI) (caE intF (consA (callE 1 F_law_next (consA (varE 1) nilA)) nilA)) (cE (.int 2)))))) (consA (shE (varE 3)) nilA)))) (opE (intD modI) (caE intF (consA (callE 1 F_law_next (consA (varE 1) nilA)) nilA)) (cE (.int 3)))))
noncomputable def T6 : S → Out := (ifS (blT (opE eqD (opE (intD modI) (caE intF (consA (callE 1 F_law_next (consA (varE 1) nilA)) nilA)) (cE (.int 8))) (cE (.int 1))))
  (setS 3 (opE addD (opE mulD (cE (.str "ab")) (cE (.int 30))) (slE (varE 3) noP (someP (cE (.int 1))))))
  nextS)
noncomputable def T7 : S → Out := (setS 5 (opE ixD (lstE (consA (cE (.int 7)) (consA (cE (.int 1)) (consA (cE (.int 0)) (consA (unE negD (cE (.int 1))) nilA))))) (opE (intD modI) (caE intF (consA (callE 1 F_law_next (consA (varE 1) nilA)) nilA)) (cE (.int 4)))))
noncomputable def T8 : S → Out := (forS (rng1I (consA (cE (.int 5)) nilA)) (nmG 6) b_law_1)
noncomputable def T9 : S → Out := (setS 7 (lstE (consA (shE (callE 2 F_law_is_word (consA (shE (varE 2)) (consA (shE (varE 3)) nilA)))) (consA (shE (callE 2 F_law_is_word (consA (shE (varE 2)) (consA (shE (varE 4)) nilA)))) nilA))))
noncomputable def T10 : S → Out := (setS 8 (opE ixD (lstE (consA (tupE (consA (cE (.str "refused")) (consA (shE (lstE (consA (cE (.int 0)) (consA (cE (.int 1)) nilA)))) nilA))) (consA (tupE (consA (cE (.str "told")) (consA (cE .none) nilA))) nilA))) (caE intF (consA (opE ixD (varE 7) (cE (.int 0))) nilA))))
noncomputable def T11 : S → Out := (ifS (orT (blT (opE neD (callE 4 F_law_told (consA (cE (.int 0)) (consA (shE (varE 2)) (consA (shE (varE 3)) (consA (shE (varE 4)) nilA))))) (tupE (consA (cE (.str "told")) (consA (shE (slE (cE (.str "abcdef")) noP (someP (varE 2)))) nilA))))) (blT (opE neD (caE reprF (consA (callE 4 F_law_told (consA (cE (.int 2)) (consA (shE (varE 2)) (consA (shE (varE 3)) (consA (shE (varE 4)) nilA))))) nilA)) (caE reprF (consA (varE 8) nilA)))))
  (retS (cE (.bool false)))
  nextS)
noncomputable def T12 : S → Out := (ifS (blT (opE neD (caE reprF (consA (callE 4 F_law_told (consA (cE (.int 1)) (consA (shE (varE 2)) (consA (shE (varE 3)) (consA (shE (varE 4)) nilA))))) nilA)) (caE reprF (consA (tupE (consA (cE (.str "told")) (consA (opE ixD (varE 7) (cE (.int 0))) nilA))) nilA))))
  (retS (cE (.bool false)))
  nextS)
noncomputable def T13 : S → Out := (setS 8 (tupE (consA (cE (.str "refused")) (consA (shE (lstE (consA (cE (.int 0)) (consA (cE (.int 1)) nilA)))) nilA))))
noncomputable def T14 : S → Out := (ifS (andT (truT (opE ixD (varE 7) (cE (.int 0)))) (truT (opE ixD (varE 7) (cE (.int 1)))))
  (setS 8 (tupE (consA (cE (.str "told")) (consA (opE ltTD (callE 1 F_law_size_place (consA (shE (varE 3)) nilA)) (callE 1 F_law_size_place (consA (shE (varE 4)) nilA))) nilA))))
  nextS)
noncomputable def T15 : S → Out := (ifS (blT (opE neD (caE reprF (consA (callE 4 F_law_told (consA (cE (.int 3)) (consA (shE (varE 2)) (consA (shE (varE 3)) (consA (shE (varE 4)) nilA))))) nilA)) (caE reprF (consA (varE 8) nilA))))
  (retS (cE (.bool false)))
  nextS)
noncomputable def T16 : S → Out := (setS 9 (opE (intD modI) (caE intF (consA (callE 1 F_law_next (consA (varE 1) nilA)) nilA)) (cE (.int 4))))
noncomputable def T17 : S → Out := (ifS (blT (opE neD (caE reprF (consA (callE 4 F_law_told (consA (cE (.int 4)) (consA (shE (varE 2)) (consA (shE (varE 9)) (consA (cE (.str "")) nilA))))) nilA)) (caE reprF (consA (tupE (consA (cE (.str "told")) (consA (shE (callE 2 F_law_listed (consA (shE (varE 2)) (consA (shE (varE 9)) nilA)))) nilA))) nilA))))
  (retS (cE (.bool false)))
  nextS)
noncomputable def T18 : S → Out := (ifS (orT (blT (opE neD (callE 4 F_law_told (consA (cE (.int 4)) (consA (shE (varE 2)) (consA (unE negD (cE (.int 1))) (consA (cE (.str "")) nilA))))) (tupE (consA (cE (.str "refused")) (consA (shE (lstE (consA (cE (.int 1)) (consA (cE (.int 0)) nilA)))) nilA))))) (blT (opE neD (callE 4 F_law_told (consA (cE (.int 4)) (consA (shE (varE 2)) (consA (cE (.int 13)) (consA (cE (.str "")) nilA))))) (tupE (consA (cE (.str "refused")) (consA (shE (lstE (consA (cE (.int 1)) (consA (cE (.int 0)) nilA)))) nilA))))))
  (retS (cE (.bool false)))
  nextS)
noncomputable def T19 : S → Out := (setS 10 (lstE (consA (shE (varE 3)) (consA (shE (varE 4)) (consA (shE (slE (varE 3) noP (someP (cE (.int 2))))) (consA (shE (unE revND (varE 4))) (consA (shE (varE 3)) (consA (cE (.str "zz")) nilA))))))))
noncomputable def T20 : S → Out := (setS 8 (lstE nilA))
noncomputable def T21 : S → Out := (forS (seqI (shE (skeyE (varE 10)))) (nmG 11) b_law_2)
noncomputable def T22 : S → Out := (ifS (blT (opE neD (caE reprF (consA (callE 1 F_in_order (consA (shE (caE lstF (consA (varE 10) nilA))) nilA)) nilA)) (caE reprF (consA (varE 8) nilA))))
  (retS (cE (.bool false)))
  nextS)
noncomputable def T23 : S → Out := (setS 12 (caE lenD (consA (lcE (rng1I (consA (caE minF (consA (caE lenD (consA (varE 3) nilA)) (consA (caE lenD (consA (varE 4) nilA)) nilA))) nilA)) (nmG 13) (blT (opE eqD (slE (varE 3) noP (someP (opE addD (varE 13) (cE (.int 1))))) (slE (varE 4) noP (someP (opE addD (varE 13) (cE (.int 1))))))) (shE (varE 13)) [13]) nilA)))
noncomputable def T24 : S → Out := (retS (opE eqD (callE 2 F_common (consA (shE (varE 3)) (consA (shE (varE 4)) nilA))) (slE (varE 3) noP (someP (varE 12)))))
theorem b_law_eq : b_law = (seqS T1 (seqS T2 (seqS T3 (seqS T4 (seqS T5 (seqS T6 (seqS T7 (seqS T8 (seqS T9 (seqS T10 (seqS T11 (seqS T12 (seqS T13 (seqS T14 (seqS T15 (seqS T16 (seqS T17 (seqS T18 (seqS T19 (seqS T20 (seqS T21 (seqS T22 (seqS T23 T24))))))))))))))))))))))) := rfl
abbrev Q0 (ns : List Int) (ds : List D) (k : Int) (x3 x4 x5 : Option Vl) (x6 : Option D) (x7 x8 x9 x10 : Option Vl) (x11 : Option D) (x12 : Option Vl) : S :=
  [some (.s ns), some (.o true (.L ds)), some (.d (.int k)), x3, x4, x5, dv x6, x7, x8, x9, x10, dv x11, x12, none]
theorem nf9 (v : Str) : neD (.str v) (.str v) = some (.d (.bool false)) := by rw [neD_str, decide_eq_true rfl]; rfl
theorem ef9 (v : Str) : eqD (.str v) (.str v) = some (.d (.bool true)) := by rw [eqD_str, decide_eq_true rfl]
theorem nRF : neD (RF 1 0) (.tuple [.str "refused", .list [.int 1, .int 0]]) = some (.d (.bool false)) := rfl
theorem nTD (x : Str) : neD (TD (.str x)) (.tuple [.str "told", .str x]) = some (.d (.bool false)) := by
  unfold neD TD
  have e : PyData.eqv (.tuple [.str "told", .str x]) (.tuple [.str "told", .str x]) = true := by
    show (PyData.eqv (.str "told") (.str "told") && (PyData.eqv (.str x) (.str x) && true)) = true
    rw [eqv_str, eqv_str, decide_eq_true rfl, decide_eq_true rfl]
    rfl
  have o : okD (.tuple [.str "told", .str x]) = true := rfl
  rw [o, Bool.true_or, if_pos rfl, e]
  rfl
theorem easy_told {n k : Nat} {x : D} (h : Easy n k x) (hn : n + 20 ≤ 1000000 / 2) : Easy ((n + 20) * 2) (k + 1) (TD x) := by
  refine Easy.tup (n := n + 19) (k := k) (fun d md => ?_) (by show 2 * (n + 19 + 1) ≤ _; omega)
  rcases List.mem_cons.mp md with rfl | md
  · exact (Easy.str (n := 4) (by decide +kernel) (by decide +kernel)).mono (by omega) (Nat.zero_le _)
  · rw [List.mem_singleton.mp md]; exact h.mono (by omega) (Nat.le_refl _)
theorem repr_of {n k : Nat} {x : D} (h : Easy n k x) (hn : n ≤ 1000000) (hk : k ≤ 50) : ∃ y, reprF [x] = some (.d (.str y)) := ⟨_, reprF_ok (h.show hn hk)⟩
theorem easy_rf (u v : Int) (hu : u.natAbs < 10 ^ 12) (hv : v.natAbs < 10 ^ 12) : Easy 400 2 (RF u v) := by
  refine Easy.tup (n := 100) (k := 1) (fun d md => ?_) (by show 2 * 101 ≤ 400; decide)
  rcases List.mem_cons.mp md with rfl | md
  · exact (Easy.str (n := 7) (by decide +kernel) (by decide +kernel)).mono (by decide) (Nat.zero_le _)
  · rw [List.mem_singleton.mp md]
    refine Easy.list (n := 41) (k := 0) (fun d md => ?_) (by show 2 * 42 ≤ 100; decide)
    rcases List.mem_cons.mp md with rfl | md
    · exact Easy.int hu (by decide)
    · rw [List.mem_singleton.mp md]; exact Easy.int hv (by decide)
theorem ab_at (n : Int) : ∃ c, ixD (.str "ab") (.int (n % 2)) = some (.d (.str (tx [c]))) ∧ c < 1000 := by
  have : n % 2 = 0 ∨ n % 2 = 1 := by omega
  rcases this with e | e <;> rw [e]
  · exact ⟨97, rfl, by decide⟩
  · exact ⟨98, rfl, by decide⟩
theorem due_loop {ns : List Int} {ds : List D} {k : Int} {x3 x4 x5 x7 x9 x10 : Option Vl} {x6 : Option D} : ∀ (xs F : List Str) (x : Option D), F.length + xs.length ≤ 10000 →
    ∃ x', forL (nmG 11) b_law_2 (xs.map .str) (Q0 ns ds k x3 x4 x5 x6 x7 (some (.o true (.L (F.map .str)))) x9 x10 x none) = .nx (Q0 ns ds k x3 x4 x5 x6 x7 (some (.o true (.L ((xs.foldl addW F).map .str)))) x9 x10 x' none)
  | [], F, x, _ => ⟨x, rfl⟩
  | w :: xs, F, x, hl => by
    rw [List.length_cons] at hl
    have ink := in_str9 true w F
    have zl : (F.map PyData.str).length < 16777216 := by rw [List.length_map]; omega
    have sf : (F ++ [w]).map PyData.str = F.map PyData.str ++ [.str w] := by rw [List.map_append]; rfl
    have ht : turn (nmG 11) b_law_2 (.str w) (Q0 ns ds k x3 x4 x5 x6 x7 (some (.o true (.L (F.map .str)))) x9 x10 x none) = .nx (Q0 ns ds k x3 x4 x5 x6 x7 (some (.o true (.L ((addW F w).map .str)))) x9 x10 (some (.str w)) none) := by
      unfold addW
      by_cases q : w ∈ F
      · rw [if_pos q]
        rw [decide_eq_true q] at ink
        simp only [b_law_2, Q0, Gv, Gio, ins, List.map_cons, List.map_nil, List.length_cons, List.length_nil, Nat.sub_self, List.replicate_zero, List.append_nil, List.nil_append, List.cons_append, List.replicate_succ, Nat.reduceSub, Nat.reduceAdd, retS, retN, ret1, setS, sto, stoO, freeAt, free_dv, dv_some, dv_none, free_d, free_n, free_o, plain_dv, plain_dd, plain_n, dropS, seqS, ifS, raiS, nextS, brkS, cntS, unpS, tpG, itsOf, bindAll, optO, nmG, augS, chE, bind_ok, bind_er, out_ok, out_er, seq_nx, seq_rt, seq_er, seq_bk, seq_ct, ite_and, ite_or, ite_and2, ite_or2, ite_andB, ite_orB, cE, varE, shE, shr, bi2, un1, opE, unE, rd, List.getElem?_cons_zero, List.getElem?_cons_succ, List.set_cons_zero, List.set_cons_succ, leD, ltD, gtD, geD, cmpD, eqD_str, neD_str, eqD_int, neD_int, inD_sign, isD, isNone, ifB, caE, consA, nilA, ca1, rdAll, dAll, lenD, intF, tupF, lstF, Option.map_some, Option.map_none, Option.bind_some, addD, intD, subI, modI, divI, adI, negD, mulD, revND, revD, tupE, lstE, mtE, okTy, isStr, isLst, stripF, callE, callI, truT, tru1, tru, truD, blT, notT, andT, orT, ifE, notE, andE, orE, if_true, Bool.not_true, Bool.not_false, Bool.true_and, Bool.and_true, Bool.false_and, Bool.or_false, Bool.false_or, Bool.true_or, Bool.or_true, Bool.and_false, Bool.false_xor, Bool.true_xor, slE, noP, someP, sl1, slD, seqI, its1, optI, forS, turn, lcE, wipeS, restS, plainAt, List.getD_cons_zero, List.getD_cons_succ, List.all_cons, List.all_nil, muE, mu1, lstAt, dArgs, appF, popF, rvsF, extF, rng1I, rng2I, enI, zipI, zip2, starA, subS, decide_true, decide_false, Int.reduceLT, Int.reduceLE, Nat.reduceLT, Nat.reduceLeDiff, true_and, and_true, Bool.false_eq_true, if_false, ite_true, ite_false, reduceIte, reduceCtorEq, Option.some.injEq, ink]
      · rw [if_neg q]
        rw [decide_eq_false q] at ink
        rw [sf]
        simp only [b_law_2, Q0, Gv, Gio, ins, List.map_cons, List.map_nil, List.length_cons, List.length_nil, Nat.sub_self, List.replicate_zero, List.append_nil, List.nil_append, List.cons_append, List.replicate_succ, Nat.reduceSub, Nat.reduceAdd, retS, retN, ret1, setS, sto, stoO, freeAt, free_dv, dv_some, dv_none, free_d, free_n, free_o, plain_dv, plain_dd, plain_n, dropS, seqS, ifS, raiS, nextS, brkS, cntS, unpS, tpG, itsOf, bindAll, optO, nmG, augS, chE, bind_ok, bind_er, out_ok, out_er, seq_nx, seq_rt, seq_er, seq_bk, seq_ct, ite_and, ite_or, ite_and2, ite_or2, ite_andB, ite_orB, cE, varE, shE, shr, bi2, un1, opE, unE, rd, List.getElem?_cons_zero, List.getElem?_cons_succ, List.set_cons_zero, List.set_cons_succ, leD, ltD, gtD, geD, cmpD, eqD_str, neD_str, eqD_int, neD_int, inD_sign, isD, isNone, ifB, caE, consA, nilA, ca1, rdAll, dAll, lenD, intF, tupF, lstF, Option.map_some, Option.map_none, Option.bind_some, addD, intD, subI, modI, divI, adI, negD, mulD, revND, revD, tupE, lstE, mtE, okTy, isStr, isLst, stripF, callE, callI, truT, tru1, tru, truD, blT, notT, andT, orT, ifE, notE, andE, orE, if_true, Bool.not_true, Bool.not_false, Bool.true_and, Bool.and_true, Bool.false_and, Bool.or_false, Bool.false_or, Bool.true_or, Bool.or_true, Bool.and_false, Bool.false_xor, Bool.true_xor, slE, noP, someP, sl1, slD, seqI, its1, optI, forS, turn, lcE, wipeS, restS, plainAt, List.getD_cons_zero, List.getD_cons_succ, List.all_cons, List.all_nil, muE, mu1, lstAt, dArgs, appF, popF, rvsF, extF, rng1I, rng2I, enI, zipI, zip2, starA, subS, decide_true, decide_false, Int.reduceLT, Int.reduceLE, Nat.reduceLT, Nat.reduceLeDiff, true_and, and_true, Bool.false_eq_true, if_false, ite_true, ite_false, reduceIte, reduceCtorEq, Option.some.injEq, ink, zl]
    have al : (addW F w).length ≤ F.length + 1 := by
      unfold addW
      split
      · omega
      · rw [List.length_append, List.length_singleton]; exact Nat.le_refl _
    obtain ⟨x', e⟩ := due_loop (ns := ns) (ds := ds) (k := k) (x3 := x3) (x4 := x4) (x5 := x5) (x6 := x6) (x7 := x7) (x9 := x9) (x10 := x10) xs (addW F w) (some (.str w)) (by omega)
    refine ⟨x', ?_⟩
    rw [List.map_cons, forL_cons, ht, List.foldl_cons]
    exact e
theorem law_true (ns : List Int) (h : ns.length ≤ 63) : ∃ s', F_law [some (.s ns)] = .ok (.d (.bool true)) s' := by
  refine law_end (N := 14) (b := b_law) ?_
  have n13 : (some (Vl.s ns) :: List.replicate 13 (none : Option Vl)) = [some (.s ns), none, none, none, none, none, none, none, none, none, none, none, none, none] := rfl
  obtain ⟨ds, e0, d0⟩ := law_draws_c ns h (some (.s ns) :: List.replicate 13 none)
  rw [n13] at e0
  obtain ⟨n1, ds1, e1, a1, b1, d1⟩ := law_next_a d0.rev
  obtain ⟨k, hk⟩ : ∃ k : Int, 2 + n1 % 5 = k := ⟨_, rfl⟩
  have k2 : 2 ≤ k := by omega
  have k6 : k ≤ 6 := by omega
  obtain ⟨u0, ds2, e2, tu0, d2⟩ := law_string6_a d1 (k := k) (m := 6) k2 k6 (by decide) (by decide)
  obtain ⟨w0, ds3, e3, tw0, d3⟩ := law_string6_a d2 (k := k) (m := 6) k2 k6 (by decide) (by decide)
  obtain ⟨n4, ds4, e4, a4, b4, d4⟩ := law_next_a d3
  obtain ⟨n5, ds5, e5, a5, b5, d5⟩ := law_next_a d4
  obtain ⟨n6, ds6, e6, a6, b6, d6⟩ := law_next_a d5
  obtain ⟨n7, ds7, e7, a7, b7, d7⟩ := law_next_a d6
  obtain ⟨n8, ds8, e8, a8, b8, d8⟩ := law_next_a d7
  have p2 : (0 : Int) < 2 := by decide
  have p3 : (0 : Int) < 3 := by decide
  have p4 : (0 : Int) < 4 := by decide
  have p5 : (0 : Int) < 5 := by decide
  have p8 : (0 : Int) < 8 := by decide
  have z0 : (0 : Nat) ≤ 16777216 := by decide
  have z1 : (1 : Nat) ≤ 16777216 := by decide
  have z2 : (2 : Nat) ≤ 16777216 := by decide
  have z3 : (3 : Nat) ≤ 16777216 := by decide
  have z4 : (4 : Nat) ≤ 16777216 := by decide
  have z6 : (6 : Nat) ≤ 16777216 := by decide
  have itl : ∀ L : List D, itemsD (.list L) = some L := fun _ => rfl
  have lfL : ∀ T : List D, lstF [.list T] = some (.o true (.L T)) := fun _ => rfl
  have n1' : negD (.int 1) = some (.d (.int (-1))) := rfl
  obtain ⟨c0, ab, c01⟩ := ab_at n4
  obtain ⟨tu1, tu2⟩ := tu0
  obtain ⟨tw1, tw2⟩ := tw0
  have zz0 : u0.length + (tx [c0]).length ≤ 16777216 := by show u0.length + 1 ≤ _; omega
  obtain ⟨v, hv, tv⟩ : ∃ v, ixD (.list [.str w0, .str (u0 ++ tx [c0]), .str u0]) (.int (n5 % 3)) = some (.d (.str v)) ∧ Txt 7 v := by
    have : n5 % 3 = 0 ∨ n5 % 3 = 1 ∨ n5 % 3 = 2 := by omega
    rcases this with e | e | e <;> rw [e]
    · exact ⟨w0, rfl, by omega, tw2⟩
    · refine ⟨_, rfl, ?_, fun c mc => ?_⟩
      · rw [app_len]; show ((u0.length + 1 : Nat) : Int) ≤ 7; omega
      · rw [list_app] at mc
        rcases List.mem_append.mp mc with z | z
        · exact tu2 c z
        · rw [tx_list, List.mem_singleton] at z; rw [z]; exact c01
    · exact ⟨u0, rfl, by omega, tu2⟩
  have h1 : T1 [some (.s ns), none, none, none, none, none, none, none, none, none, none, none, none, none] = .nx [some (.s ns), some (.o true (.L ds)), none, none, none, none, none, none, none, none, none, none, none, none] := by
    simp only [T1, Gv, Gio, ins, List.map_cons, List.map_nil, List.length_cons, List.length_nil, Nat.sub_self, List.replicate_zero, List.append_nil, List.nil_append, List.cons_append, List.replicate_succ, Nat.reduceSub, Nat.reduceAdd, retS, retN, ret1, setS, sto, stoO, freeAt, free_dv, dv_some, dv_none, free_d, free_n, free_o, plain_dv, plain_dd, plain_n, dropS, seqS, ifS, raiS, nextS, brkS, cntS, unpS, tpG, itsOf, bindAll, optO, nmG, augS, chE, bind_ok, bind_er, out_ok, out_er, seq_nx, seq_rt, seq_er, seq_bk, seq_ct, ite_and, ite_or, ite_and2, ite_or2, ite_andB, ite_orB, cE, varE, shE, shr, bi2, un1, opE, unE, rd, List.getElem?_cons_zero, List.getElem?_cons_succ, List.set_cons_zero, List.set_cons_succ, leD, ltD, gtD, geD, cmpD, eqD_str, neD_str, eqD_int, neD_int, inD_sign, isD, isNone, ifB, caE, consA, nilA, ca1, rdAll, dAll, lenD, intF, tupF, lstF, Option.map_some, Option.map_none, Option.bind_some, addD, intD, subI, modI, divI, adI, negD, mulD, revND, revD, tupE, lstE, mtE, okTy, isStr, isLst, stripF, callE, callI, truT, tru1, tru, truD, blT, notT, andT, orT, ifE, notE, andE, orE, if_true, Bool.not_true, Bool.not_false, Bool.true_and, Bool.and_true, Bool.false_and, Bool.or_false, Bool.false_or, Bool.true_or, Bool.or_true, Bool.and_false, Bool.false_xor, Bool.true_xor, slE, noP, someP, sl1, slD, seqI, its1, optI, forS, turn, lcE, wipeS, restS, plainAt, List.getD_cons_zero, List.getD_cons_succ, List.all_cons, List.all_nil, muE, mu1, lstAt, dArgs, appF, popF, rvsF, extF, rng1I, rng2I, enI, zipI, zip2, starA, subS, decide_true, decide_false, Int.reduceLT, Int.reduceLE, Nat.reduceLT, Nat.reduceLeDiff, true_and, and_true, Bool.false_eq_true, if_false, ite_true, ite_false, reduceIte, reduceCtorEq, Option.some.injEq, e0]
  have h2 : T2 [some (.s ns), some (.o true (.L ds)), none, none, none, none, none, none, none, none, none, none, none, none] = .nx [some (.s ns), some (.o true (.L ds.reverse)), none, none, none, none, none, none, none, none, none, none, none, none] := by
    simp only [T2, Gv, Gio, ins, List.map_cons, List.map_nil, List.length_cons, List.length_nil, Nat.sub_self, List.replicate_zero, List.append_nil, List.nil_append, List.cons_append, List.replicate_succ, Nat.reduceSub, Nat.reduceAdd, retS, retN, ret1, setS, sto, stoO, freeAt, free_dv, dv_some, dv_none, free_d, free_n, free_o, plain_dv, plain_dd, plain_n, dropS, seqS, ifS, raiS, nextS, brkS, cntS, unpS, tpG, itsOf, bindAll, optO, nmG, augS, chE, bind_ok, bind_er, out_ok, out_er, seq_nx, seq_rt, seq_er, seq_bk, seq_ct, ite_and, ite_or, ite_and2, ite_or2, ite_andB, ite_orB, cE, varE, shE, shr, bi2, un1, opE, unE, rd, List.getElem?_cons_zero, List.getElem?_cons_succ, List.set_cons_zero, List.set_cons_succ, leD, ltD, gtD, geD, cmpD, eqD_str, neD_str, eqD_int, neD_int, inD_sign, isD, isNone, ifB, caE, consA, nilA, ca1, rdAll, dAll, lenD, intF, tupF, lstF, Option.map_some, Option.map_none, Option.bind_some, addD, intD, subI, modI, divI, adI, negD, mulD, revND, revD, tupE, lstE, mtE, okTy, isStr, isLst, stripF, callE, callI, truT, tru1, tru, truD, blT, notT, andT, orT, ifE, notE, andE, orE, if_true, Bool.not_true, Bool.not_false, Bool.true_and, Bool.and_true, Bool.false_and, Bool.or_false, Bool.false_or, Bool.true_or, Bool.or_true, Bool.and_false, Bool.false_xor, Bool.true_xor, slE, noP, someP, sl1, slD, seqI, its1, optI, forS, turn, lcE, wipeS, restS, plainAt, List.getD_cons_zero, List.getD_cons_succ, List.all_cons, List.all_nil, muE, mu1, lstAt, dArgs, appF, popF, rvsF, extF, rng1I, rng2I, enI, zipI, zip2, starA, subS, decide_true, decide_false, Int.reduceLT, Int.reduceLE, Nat.reduceLT, Nat.reduceLeDiff, true_and, and_true, Bool.false_eq_true, if_false, ite_true, ite_false, reduceIte, reduceCtorEq, Option.some.injEq]
  have h3 : T3 [some (.s ns), some (.o true (.L ds.reverse)), none, none, none, none, none, none, none, none, none, none, none, none] = .nx (Q0 ns ds1 k none none none none none none none none none none) := by
    simp only [T3, Q0, Gv, Gio, ins, List.map_cons, List.map_nil, List.length_cons, List.length_nil, Nat.sub_self, List.replicate_zero, List.append_nil, List.nil_append, List.cons_append, List.replicate_succ, Nat.reduceSub, Nat.reduceAdd, retS, retN, ret1, setS, sto, stoO, freeAt, free_dv, dv_some, dv_none, free_d, free_n, free_o, plain_dv, plain_dd, plain_n, dropS, seqS, ifS, raiS, nextS, brkS, cntS, unpS, tpG, itsOf, bindAll, optO, nmG, augS, chE, bind_ok, bind_er, out_ok, out_er, seq_nx, seq_rt, seq_er, seq_bk, seq_ct, ite_and, ite_or, ite_and2, ite_or2, ite_andB, ite_orB, cE, varE, shE, shr, bi2, un1, opE, unE, rd, List.getElem?_cons_zero, List.getElem?_cons_succ, List.set_cons_zero, List.set_cons_succ, leD, ltD, gtD, geD, cmpD, eqD_str, neD_str, eqD_int, neD_int, inD_sign, isD, isNone, ifB, caE, consA, nilA, ca1, rdAll, dAll, lenD, intF, tupF, lstF, Option.map_some, Option.map_none, Option.bind_some, addD, intD, subI, modI, divI, adI, negD, mulD, revND, revD, tupE, lstE, mtE, okTy, isStr, isLst, stripF, callE, callI, truT, tru1, tru, truD, blT, notT, andT, orT, ifE, notE, andE, orE, if_true, Bool.not_true, Bool.not_false, Bool.true_and, Bool.and_true, Bool.false_and, Bool.or_false, Bool.false_or, Bool.true_or, Bool.or_true, Bool.and_false, Bool.false_xor, Bool.true_xor, slE, noP, someP, sl1, slD, seqI, its1, optI, forS, turn, lcE, wipeS, restS, plainAt, List.getD_cons_zero, List.getD_cons_succ, List.all_cons, List.all_nil, muE, mu1, lstAt, dArgs, appF, popF, rvsF, extF, rng1I, rng2I, enI, zipI, zip2, starA, subS, decide_true, decide_false, Int.reduceLT, Int.reduceLE, Nat.reduceLT, Nat.reduceLeDiff, true_and, and_true, Bool.false_eq_true, if_false, ite_true, ite_false, reduceIte, reduceCtorEq, Option.some.injEq, e1.p, mod_pos p5, hk]
  have h4 : T4 (Q0 ns ds1 k none none none none none none none none none none) = .nx (Q0 ns ds2 k (some (.d (.str u0))) none none none none none none none none none) := by
    simp only [T4, Q0, Gv, Gio, ins, List.map_cons, List.map_nil, List.length_cons, List.length_nil, Nat.sub_self, List.replicate_zero, List.append_nil, List.nil_append, List.cons_append, List.replicate_succ, Nat.reduceSub, Nat.reduceAdd, retS, retN, ret1, setS, sto, stoO, freeAt, free_dv, dv_some, dv_none, free_d, free_n, free_o, plain_dv, plain_dd, plain_n, dropS, seqS, ifS, raiS, nextS, brkS, cntS, unpS, tpG, itsOf, bindAll, optO, nmG, augS, chE, bind_ok, bind_er, out_ok, out_er, seq_nx, seq_rt, seq_er, seq_bk, seq_ct, ite_and, ite_or, ite_and2, ite_or2, ite_andB, ite_orB, cE, varE, shE, shr, bi2, un1, opE, unE, rd, List.getElem?_cons_zero, List.getElem?_cons_succ, List.set_cons_zero, List.set_cons_succ, leD, ltD, gtD, geD, cmpD, eqD_str, neD_str, eqD_int, neD_int, inD_sign, isD, isNone, ifB, caE, consA, nilA, ca1, rdAll, dAll, lenD, intF, tupF, lstF, Option.map_some, Option.map_none, Option.bind_some, addD, intD, subI, modI, divI, adI, negD, mulD, revND, revD, tupE, lstE, mtE, okTy, isStr, isLst, stripF, callE, callI, truT, tru1, tru, truD, blT, notT, andT, orT, ifE, notE, andE, orE, if_true, Bool.not_true, Bool.not_false, Bool.true_and, Bool.and_true, Bool.false_and, Bool.or_false, Bool.false_or, Bool.true_or, Bool.or_true, Bool.and_false, Bool.false_xor, Bool.true_xor, slE, noP, someP, sl1, slD, seqI, its1, optI, forS, turn, lcE, wipeS, restS, plainAt, List.getD_cons_zero, List.getD_cons_succ, List.all_cons, List.all_nil, muE, mu1, lstAt, dArgs, appF, popF, rvsF, extF, rng1I, rng2I, enI, zipI, zip2, starA, subS, decide_true, decide_false, Int.reduceLT, Int.reduceLE, Nat.reduceLT, Nat.reduceLeDiff, true_and, and_true, Bool.false_eq_true, if_false, ite_true, ite_false, reduceIte, reduceCtorEq, Option.some.injEq, e2.p]
  have h5 : T5 (Q0 ns ds2 k (some (.d (.str u0))) none none none none none none none none none) = .nx (Q0 ns ds5 k (some (.d (.str u0))) (some (.d (.str v))) none none none none none none none none) := by
    simp only [T5, Q0, Gv, Gio, ins, List.map_cons, List.map_nil, List.length_cons, List.length_nil, Nat.sub_self, List.replicate_zero, List.append_nil, List.nil_append, List.cons_append, List.replicate_succ, Nat.reduceSub, Nat.reduceAdd, retS, retN, ret1, setS, sto, stoO, freeAt, free_dv, dv_some, dv_none, free_d, free_n, free_o, plain_dv, plain_dd, plain_n, dropS, seqS, ifS, raiS, nextS, brkS, cntS, unpS, tpG, itsOf, bindAll, optO, nmG, augS, chE, bind_ok, bind_er, out_ok, out_er, seq_nx, seq_rt, seq_er, seq_bk, seq_ct, ite_and, ite_or, ite_and2, ite_or2, ite_andB, ite_orB, cE, varE, shE, shr, bi2, un1, opE, unE, rd, List.getElem?_cons_zero, List.getElem?_cons_succ, List.set_cons_zero, List.set_cons_succ, leD, ltD, gtD, geD, cmpD, eqD_str, neD_str, eqD_int, neD_int, inD_sign, isD, isNone, ifB, caE, consA, nilA, ca1, rdAll, dAll, lenD, intF, tupF, lstF, Option.map_some, Option.map_none, Option.bind_some, addD, intD, subI, modI, divI, adI, negD, mulD, revND, revD, tupE, lstE, mtE, okTy, isStr, isLst, stripF, callE, callI, truT, tru1, tru, truD, blT, notT, andT, orT, ifE, notE, andE, orE, if_true, Bool.not_true, Bool.not_false, Bool.true_and, Bool.and_true, Bool.false_and, Bool.or_false, Bool.false_or, Bool.true_or, Bool.or_true, Bool.and_false, Bool.false_xor, Bool.true_xor, slE, noP, someP, sl1, slD, seqI, its1, optI, forS, turn, lcE, wipeS, restS, plainAt, List.getD_cons_zero, List.getD_cons_succ, List.all_cons, List.all_nil, muE, mu1, lstAt, dArgs, appF, popF, rvsF, extF, rng1I, rng2I, enI, zipI, zip2, starA, subS, decide_true, decide_false, Int.reduceLT, Int.reduceLE, Nat.reduceLT, Nat.reduceLeDiff, true_and, and_true, Bool.false_eq_true, if_false, ite_true, ite_false, reduceIte, reduceCtorEq, Option.some.injEq, e3.p, e4.p, e5.p, mod_pos p2, mod_pos p3, ab, zz0, z3, hv]
  -- the first word
  have la : ("ab" : Str).length ≤ 1000 := by decide +kernel
  have t30 : Int.toNat 30 = 30 := rfl
  have lr : (repS "ab" 30).length = 60 := by decide +kernel
  obtain ⟨u, hu, tu⟩ : ∃ u, T6 (Q0 ns ds5 k (some (.d (.str u0))) (some (.d (.str v))) none none none none none none none none) = .nx (Q0 ns ds6 k (some (.d (.str u))) (some (.d (.str v))) none none none none none none none none) ∧ Txt 70 u := by
    have lt1 := cutS_take u0 1
    have lt1 : cutS u0 none (some 1) = tx (u0.cps.toList.take 1) := lt1
    have l1 : (tx (u0.cps.toList.take 1)).length ≤ 1 := by rw [tx_len, List.length_take]; omega
    have zz : (repS "ab" 30).length + (tx (u0.cps.toList.take 1)).length ≤ 16777216 := by omega
    cases q : decide (n6 % 8 = 1)
    · refine ⟨u0, ?_, by omega, tu2⟩
      simp only [T6, Q0, Gv, Gio, ins, List.map_cons, List.map_nil, List.length_cons, List.length_nil, Nat.sub_self, List.replicate_zero, List.append_nil, List.nil_append, List.cons_append, List.replicate_succ, Nat.reduceSub, Nat.reduceAdd, retS, retN, ret1, setS, sto, stoO, freeAt, free_dv, dv_some, dv_none, free_d, free_n, free_o, plain_dv, plain_dd, plain_n, dropS, seqS, ifS, raiS, nextS, brkS, cntS, unpS, tpG, itsOf, bindAll, optO, nmG, augS, chE, bind_ok, bind_er, out_ok, out_er, seq_nx, seq_rt, seq_er, seq_bk, seq_ct, ite_and, ite_or, ite_and2, ite_or2, ite_andB, ite_orB, cE, varE, shE, shr, bi2, un1, opE, unE, rd, List.getElem?_cons_zero, List.getElem?_cons_succ, List.set_cons_zero, List.set_cons_succ, leD, ltD, gtD, geD, cmpD, eqD_str, neD_str, eqD_int, neD_int, inD_sign, isD, isNone, ifB, caE, consA, nilA, ca1, rdAll, dAll, lenD, intF, tupF, lstF, Option.map_some, Option.map_none, Option.bind_some, addD, intD, subI, modI, divI, adI, negD, mulD, revND, revD, tupE, lstE, mtE, okTy, isStr, isLst, stripF, callE, callI, truT, tru1, tru, truD, blT, notT, andT, orT, ifE, notE, andE, orE, if_true, Bool.not_true, Bool.not_false, Bool.true_and, Bool.and_true, Bool.false_and, Bool.or_false, Bool.false_or, Bool.true_or, Bool.or_true, Bool.and_false, Bool.false_xor, Bool.true_xor, slE, noP, someP, sl1, slD, seqI, its1, optI, forS, turn, lcE, wipeS, restS, plainAt, List.getD_cons_zero, List.getD_cons_succ, List.all_cons, List.all_nil, muE, mu1, lstAt, dArgs, appF, popF, rvsF, extF, rng1I, rng2I, enI, zipI, zip2, starA, subS, decide_true, decide_false, Int.reduceLT, Int.reduceLE, Nat.reduceLT, Nat.reduceLeDiff, true_and, and_true, Bool.false_eq_true, if_false, ite_true, ite_false, reduceIte, reduceCtorEq, Option.some.injEq, e6.p, mod_pos p8, q]
    · refine ⟨repS "ab" 30 ++ tx (u0.cps.toList.take 1), ?_, by rw [app_len]; omega, fun c mc => ?_⟩
      · simp only [T6, Q0, Gv, Gio, ins, List.map_cons, List.map_nil, List.length_cons, List.length_nil, Nat.sub_self, List.replicate_zero, List.append_nil, List.nil_append, List.cons_append, List.replicate_succ, Nat.reduceSub, Nat.reduceAdd, retS, retN, ret1, setS, sto, stoO, freeAt, free_dv, dv_some, dv_none, free_d, free_n, free_o, plain_dv, plain_dd, plain_n, dropS, seqS, ifS, raiS, nextS, brkS, cntS, unpS, tpG, itsOf, bindAll, optO, nmG, augS, chE, bind_ok, bind_er, out_ok, out_er, seq_nx, seq_rt, seq_er, seq_bk, seq_ct, ite_and, ite_or, ite_and2, ite_or2, ite_andB, ite_orB, cE, varE, shE, shr, bi2, un1, opE, unE, rd, List.getElem?_cons_zero, List.getElem?_cons_succ, List.set_cons_zero, List.set_cons_succ, leD, ltD, gtD, geD, cmpD, eqD_str, neD_str, eqD_int, neD_int, inD_sign, isD, isNone, ifB, caE, consA, nilA, ca1, rdAll, dAll, lenD, intF, tupF, lstF, Option.map_some, Option.map_none, Option.bind_some, addD, intD, subI, modI, divI, adI, negD, mulD, revND, revD, tupE, lstE, mtE, okTy, isStr, isLst, stripF, callE, callI, truT, tru1, tru, truD, blT, notT, andT, orT, ifE, notE, andE, orE, if_true, Bool.not_true, Bool.not_false, Bool.true_and, Bool.and_true, Bool.false_and, Bool.or_false, Bool.false_or, Bool.true_or, Bool.or_true, Bool.and_false, Bool.false_xor, Bool.true_xor, slE, noP, someP, sl1, slD, seqI, its1, optI, forS, turn, lcE, wipeS, restS, plainAt, List.getD_cons_zero, List.getD_cons_succ, List.all_cons, List.all_nil, muE, mu1, lstAt, dArgs, appF, popF, rvsF, extF, rng1I, rng2I, enI, zipI, zip2, starA, subS, decide_true, decide_false, Int.reduceLT, Int.reduceLE, Nat.reduceLT, Nat.reduceLeDiff, true_and, and_true, Bool.false_eq_true, if_false, ite_true, ite_false, reduceIte, reduceCtorEq, Option.some.injEq, e6.p, mod_pos p8, q, la, t30, lt1, zz]
      · rw [list_app] at mc
        rcases List.mem_append.mp mc with z | z
        · have : ∀ c ∈ (repS "ab" 30).cps.toList, c < 1000 := by decide +kernel
          exact this c z
        · rw [tx_list] at z; exact tu2 c (List.mem_of_mem_take z)
  obtain ⟨tu1, tu2⟩ := tu
  obtain ⟨tv1, tv2⟩ := tv
  -- a wrong number
  obtain ⟨wr, hw, nw⟩ : ∃ wr, ixD (.list [.int 7, .int 1, .int 0, .int (-1)]) (.int (n7 % 4)) = some (.d (.int wr)) ∧ numOk wr = false := by
    have : n7 % 4 = 0 ∨ n7 % 4 = 1 ∨ n7 % 4 = 2 ∨ n7 % 4 = 3 := by omega
    rcases this with e | e | e | e <;> rw [e]
    · exact ⟨7, rfl, rfl⟩
    · exact ⟨1, rfl, rfl⟩
    · exact ⟨0, rfl, rfl⟩
    · exact ⟨-1, rfl, rfl⟩
  have h7 : T7 (Q0 ns ds6 k (some (.d (.str u))) (some (.d (.str v))) none none none none none none none none) = .nx (Q0 ns ds7 k (some (.d (.str u))) (some (.d (.str v))) (some (.d (.int wr))) none none none none none none none) := by
    simp only [T7, Q0, Gv, Gio, ins, List.map_cons, List.map_nil, List.length_cons, List.length_nil, Nat.sub_self, List.replicate_zero, List.append_nil, List.nil_append, List.cons_append, List.replicate_succ, Nat.reduceSub, Nat.reduceAdd, retS, retN, ret1, setS, sto, stoO, freeAt, free_dv, dv_some, dv_none, free_d, free_n, free_o, plain_dv, plain_dd, plain_n, dropS, seqS, ifS, raiS, nextS, brkS, cntS, unpS, tpG, itsOf, bindAll, optO, nmG, augS, chE, bind_ok, bind_er, out_ok, out_er, seq_nx, seq_rt, seq_er, seq_bk, seq_ct, ite_and, ite_or, ite_and2, ite_or2, ite_andB, ite_orB, cE, varE, shE, shr, bi2, un1, opE, unE, rd, List.getElem?_cons_zero, List.getElem?_cons_succ, List.set_cons_zero, List.set_cons_succ, leD, ltD, gtD, geD, cmpD, eqD_str, neD_str, eqD_int, neD_int, inD_sign, isD, isNone, ifB, caE, consA, nilA, ca1, rdAll, dAll, lenD, intF, tupF, lstF, Option.map_some, Option.map_none, Option.bind_some, addD, intD, subI, modI, divI, adI, negD, mulD, revND, revD, tupE, lstE, mtE, okTy, isStr, isLst, stripF, callE, callI, truT, tru1, tru, truD, blT, notT, andT, orT, ifE, notE, andE, orE, if_true, Bool.not_true, Bool.not_false, Bool.true_and, Bool.and_true, Bool.false_and, Bool.or_false, Bool.false_or, Bool.true_or, Bool.or_true, Bool.and_false, Bool.false_xor, Bool.true_xor, slE, noP, someP, sl1, slD, seqI, its1, optI, forS, turn, lcE, wipeS, restS, plainAt, List.getD_cons_zero, List.getD_cons_succ, List.all_cons, List.all_nil, muE, mu1, lstAt, dArgs, appF, popF, rvsF, extF, rng1I, rng2I, enI, zipI, zip2, starA, subS, decide_true, decide_false, Int.reduceLT, Int.reduceLE, Nat.reduceLT, Nat.reduceLeDiff, true_and, and_true, Bool.false_eq_true, if_false, ite_true, ite_false, reduceIte, reduceCtorEq, Option.some.injEq, e7.p, mod_pos p4, n1', z4, hw]
  have ix0 : ixD (.list [.str u, .int 2]) (.int 0) = some (.d (.str u)) := rfl
  have ix1 : ixD (.list [.str u, .int 2]) (.int 1) = some (.d (.int 2)) := rfl
  have h8 : ∃ x6, T8 (Q0 ns ds7 k (some (.d (.str u))) (some (.d (.str v))) (some (.d (.int wr))) none none none none none none none) = .nx (Q0 ns ds7 k (some (.d (.str u))) (some (.d (.str v))) (some (.d (.int wr))) x6 none none none none none none) := by
    obtain ⟨s', e, x6, rfl⟩ := forL_n (g := nmG 6) (b := b_law_1) (i := fun j : Nat => .int ((j : Nat) : Int)) (xs := List.range 5) (s := Q0 ns ds7 k (some (.d (.str u))) (some (.d (.str v))) (some (.d (.int wr))) none none none none none none none)
      (St := fun n s => ∃ x6, s = Q0 ns ds7 k (some (.d (.str u))) (some (.d (.str v))) (some (.d (.int wr))) x6 none none none none none none)
      ⟨none, rfl⟩ (by
        rintro n j em s ⟨x6, rfl⟩
        have hj : j < 5 := List.mem_range.mp (List.mem_of_getElem? em)
        refine ⟨Q0 ns ds7 k (some (.d (.str u))) (some (.d (.str v))) (some (.d (.int wr))) (some (.int ((j : Nat) : Int))) none none none none none none, .inl ?_, _, rfl⟩
        have t0 := fun s => bad0 nw (.str u) (.str v) s
        have t1 := fun s => bad1 (u := u) nw (.str v) s
        have t2 := fun s => bad2 (u := u) nw (.str v) s
        have t3 := fun s => bad3 (u := u) (v := v) nw s
        have t4 := fun s => bad4 nw 2 (.str v) s
        have i04 : decide ((0 : Int) = 4) = false := rfl
        have i14 : decide ((1 : Int) = 4) = false := rfl
        have i24 : decide ((2 : Int) = 4) = false := rfl
        have i34 : decide ((3 : Int) = 4) = false := rfl
        have i44 : decide ((4 : Int) = 4) = true := rfl
        match j, hj with
        | 0, _ =>
          show turn (nmG 6) b_law_1 (.int 0) _ = .nx (Q0 ns ds7 k (some (.d (.str u))) (some (.d (.str v))) (some (.d (.int wr))) (some (.int 0)) none none none none none none)
          simp only [b_law_1, Q0, Gv, Gio, ins, List.map_cons, List.map_nil, List.length_cons, List.length_nil, Nat.sub_self, List.replicate_zero, List.append_nil, List.nil_append, List.cons_append, List.replicate_succ, Nat.reduceSub, Nat.reduceAdd, retS, retN, ret1, setS, sto, stoO, freeAt, free_dv, dv_some, dv_none, free_d, free_n, free_o, plain_dv, plain_dd, plain_n, dropS, seqS, ifS, raiS, nextS, brkS, cntS, unpS, tpG, itsOf, bindAll, optO, nmG, augS, chE, bind_ok, bind_er, out_ok, out_er, seq_nx, seq_rt, seq_er, seq_bk, seq_ct, ite_and, ite_or, ite_and2, ite_or2, ite_andB, ite_orB, cE, varE, shE, shr, bi2, un1, opE, unE, rd, List.getElem?_cons_zero, List.getElem?_cons_succ, List.set_cons_zero, List.set_cons_succ, leD, ltD, gtD, geD, cmpD, eqD_str, neD_str, eqD_int, neD_int, inD_sign, isD, isNone, ifB, caE, consA, nilA, ca1, rdAll, dAll, lenD, intF, tupF, lstF, Option.map_some, Option.map_none, Option.bind_some, addD, intD, subI, modI, divI, adI, negD, mulD, revND, revD, tupE, lstE, mtE, okTy, isStr, isLst, stripF, callE, callI, truT, tru1, tru, truD, blT, notT, andT, orT, ifE, notE, andE, orE, if_true, Bool.not_true, Bool.not_false, Bool.true_and, Bool.and_true, Bool.false_and, Bool.or_false, Bool.false_or, Bool.true_or, Bool.or_true, Bool.and_false, Bool.false_xor, Bool.true_xor, slE, noP, someP, sl1, slD, seqI, its1, optI, forS, turn, lcE, wipeS, restS, plainAt, List.getD_cons_zero, List.getD_cons_succ, List.all_cons, List.all_nil, muE, mu1, lstAt, dArgs, appF, popF, rvsF, extF, rng1I, rng2I, enI, zipI, zip2, starA, subS, decide_true, decide_false, Int.reduceLT, Int.reduceLE, Nat.reduceLT, Nat.reduceLeDiff, true_and, and_true, Bool.false_eq_true, if_false, ite_true, ite_false, reduceIte, reduceCtorEq, Option.some.injEq, z2, i04, ix0, t0, nRF]
        | 1, _ =>
          show turn (nmG 6) b_law_1 (.int 1) _ = .nx (Q0 ns ds7 k (some (.d (.str u))) (some (.d (.str v))) (some (.d (.int wr))) (some (.int 1)) none none none none none none)
          simp only [b_law_1, Q0, Gv, Gio, ins, List.map_cons, List.map_nil, List.length_cons, List.length_nil, Nat.sub_self, List.replicate_zero, List.append_nil, List.nil_append, List.cons_append, List.replicate_succ, Nat.reduceSub, Nat.reduceAdd, retS, retN, ret1, setS, sto, stoO, freeAt, free_dv, dv_some, dv_none, free_d, free_n, free_o, plain_dv, plain_dd, plain_n, dropS, seqS, ifS, raiS, nextS, brkS, cntS, unpS, tpG, itsOf, bindAll, optO, nmG, augS, chE, bind_ok, bind_er, out_ok, out_er, seq_nx, seq_rt, seq_er, seq_bk, seq_ct, ite_and, ite_or, ite_and2, ite_or2, ite_andB, ite_orB, cE, varE, shE, shr, bi2, un1, opE, unE, rd, List.getElem?_cons_zero, List.getElem?_cons_succ, List.set_cons_zero, List.set_cons_succ, leD, ltD, gtD, geD, cmpD, eqD_str, neD_str, eqD_int, neD_int, inD_sign, isD, isNone, ifB, caE, consA, nilA, ca1, rdAll, dAll, lenD, intF, tupF, lstF, Option.map_some, Option.map_none, Option.bind_some, addD, intD, subI, modI, divI, adI, negD, mulD, revND, revD, tupE, lstE, mtE, okTy, isStr, isLst, stripF, callE, callI, truT, tru1, tru, truD, blT, notT, andT, orT, ifE, notE, andE, orE, if_true, Bool.not_true, Bool.not_false, Bool.true_and, Bool.and_true, Bool.false_and, Bool.or_false, Bool.false_or, Bool.true_or, Bool.or_true, Bool.and_false, Bool.false_xor, Bool.true_xor, slE, noP, someP, sl1, slD, seqI, its1, optI, forS, turn, lcE, wipeS, restS, plainAt, List.getD_cons_zero, List.getD_cons_succ, List.all_cons, List.all_nil, muE, mu1, lstAt, dArgs, appF, popF, rvsF, extF, rng1I, rng2I, enI, zipI, zip2, starA, subS, decide_true, decide_false, Int.reduceLT, Int.reduceLE, Nat.reduceLT, Nat.reduceLeDiff, true_and, and_true, Bool.false_eq_true, if_false, ite_true, ite_false, reduceIte, reduceCtorEq, Option.some.injEq, z2, i14, ix0, t1, nRF]
        | 2, _ =>
          show turn (nmG 6) b_law_1 (.int 2) _ = .nx (Q0 ns ds7 k (some (.d (.str u))) (some (.d (.str v))) (some (.d (.int wr))) (some (.int 2)) none none none none none none)
          simp only [b_law_1, Q0, Gv, Gio, ins, List.map_cons, List.map_nil, List.length_cons, List.length_nil, Nat.sub_self, List.replicate_zero, List.append_nil, List.nil_append, List.cons_append, List.replicate_succ, Nat.reduceSub, Nat.reduceAdd, retS, retN, ret1, setS, sto, stoO, freeAt, free_dv, dv_some, dv_none, free_d, free_n, free_o, plain_dv, plain_dd, plain_n, dropS, seqS, ifS, raiS, nextS, brkS, cntS, unpS, tpG, itsOf, bindAll, optO, nmG, augS, chE, bind_ok, bind_er, out_ok, out_er, seq_nx, seq_rt, seq_er, seq_bk, seq_ct, ite_and, ite_or, ite_and2, ite_or2, ite_andB, ite_orB, cE, varE, shE, shr, bi2, un1, opE, unE, rd, List.getElem?_cons_zero, List.getElem?_cons_succ, List.set_cons_zero, List.set_cons_succ, leD, ltD, gtD, geD, cmpD, eqD_str, neD_str, eqD_int, neD_int, inD_sign, isD, isNone, ifB, caE, consA, nilA, ca1, rdAll, dAll, lenD, intF, tupF, lstF, Option.map_some, Option.map_none, Option.bind_some, addD, intD, subI, modI, divI, adI, negD, mulD, revND, revD, tupE, lstE, mtE, okTy, isStr, isLst, stripF, callE, callI, truT, tru1, tru, truD, blT, notT, andT, orT, ifE, notE, andE, orE, if_true, Bool.not_true, Bool.not_false, Bool.true_and, Bool.and_true, Bool.false_and, Bool.or_false, Bool.false_or, Bool.true_or, Bool.or_true, Bool.and_false, Bool.false_xor, Bool.true_xor, slE, noP, someP, sl1, slD, seqI, its1, optI, forS, turn, lcE, wipeS, restS, plainAt, List.getD_cons_zero, List.getD_cons_succ, List.all_cons, List.all_nil, muE, mu1, lstAt, dArgs, appF, popF, rvsF, extF, rng1I, rng2I, enI, zipI, zip2, starA, subS, decide_true, decide_false, Int.reduceLT, Int.reduceLE, Nat.reduceLT, Nat.reduceLeDiff, true_and, and_true, Bool.false_eq_true, if_false, ite_true, ite_false, reduceIte, reduceCtorEq, Option.some.injEq, z2, i24, ix0, t2, nRF]
        | 3, _ =>
          show turn (nmG 6) b_law_1 (.int 3) _ = .nx (Q0 ns ds7 k (some (.d (.str u))) (some (.d (.str v))) (some (.d (.int wr))) (some (.int 3)) none none none none none none)
          simp only [b_law_1, Q0, Gv, Gio, ins, List.map_cons, List.map_nil, List.length_cons, List.length_nil, Nat.sub_self, List.replicate_zero, List.append_nil, List.nil_append, List.cons_append, List.replicate_succ, Nat.reduceSub, Nat.reduceAdd, retS, retN, ret1, setS, sto, stoO, freeAt, free_dv, dv_some, dv_none, free_d, free_n, free_o, plain_dv, plain_dd, plain_n, dropS, seqS, ifS, raiS, nextS, brkS, cntS, unpS, tpG, itsOf, bindAll, optO, nmG, augS, chE, bind_ok, bind_er, out_ok, out_er, seq_nx, seq_rt, seq_er, seq_bk, seq_ct, ite_and, ite_or, ite_and2, ite_or2, ite_andB, ite_orB, cE, varE, shE, shr, bi2, un1, opE, unE, rd, List.getElem?_cons_zero, List.getElem?_cons_succ, List.set_cons_zero, List.set_cons_succ, leD, ltD, gtD, geD, cmpD, eqD_str, neD_str, eqD_int, neD_int, inD_sign, isD, isNone, ifB, caE, consA, nilA, ca1, rdAll, dAll, lenD, intF, tupF, lstF, Option.map_some, Option.map_none, Option.bind_some, addD, intD, subI, modI, divI, adI, negD, mulD, revND, revD, tupE, lstE, mtE, okTy, isStr, isLst, stripF, callE, callI, truT, tru1, tru, truD, blT, notT, andT, orT, ifE, notE, andE, orE, if_true, Bool.not_true, Bool.not_false, Bool.true_and, Bool.and_true, Bool.false_and, Bool.or_false, Bool.false_or, Bool.true_or, Bool.or_true, Bool.and_false, Bool.false_xor, Bool.true_xor, slE, noP, someP, sl1, slD, seqI, its1, optI, forS, turn, lcE, wipeS, restS, plainAt, List.getD_cons_zero, List.getD_cons_succ, List.all_cons, List.all_nil, muE, mu1, lstAt, dArgs, appF, popF, rvsF, extF, rng1I, rng2I, enI, zipI, zip2, starA, subS, decide_true, decide_false, Int.reduceLT, Int.reduceLE, Nat.reduceLT, Nat.reduceLeDiff, true_and, and_true, Bool.false_eq_true, if_false, ite_true, ite_false, reduceIte, reduceCtorEq, Option.some.injEq, z2, i34, ix0, t3, nRF]
        | 4, _ =>
          show turn (nmG 6) b_law_1 (.int 4) _ = .nx (Q0 ns ds7 k (some (.d (.str u))) (some (.d (.str v))) (some (.d (.int wr))) (some (.int 4)) none none none none none none)
          simp only [b_law_1, Q0, Gv, Gio, ins, List.map_cons, List.map_nil, List.length_cons, List.length_nil, Nat.sub_self, List.replicate_zero, List.append_nil, List.nil_append, List.cons_append, List.replicate_succ, Nat.reduceSub, Nat.reduceAdd, retS, retN, ret1, setS, sto, stoO, freeAt, free_dv, dv_some, dv_none, free_d, free_n, free_o, plain_dv, plain_dd, plain_n, dropS, seqS, ifS, raiS, nextS, brkS, cntS, unpS, tpG, itsOf, bindAll, optO, nmG, augS, chE, bind_ok, bind_er, out_ok, out_er, seq_nx, seq_rt, seq_er, seq_bk, seq_ct, ite_and, ite_or, ite_and2, ite_or2, ite_andB, ite_orB, cE, varE, shE, shr, bi2, un1, opE, unE, rd, List.getElem?_cons_zero, List.getElem?_cons_succ, List.set_cons_zero, List.set_cons_succ, leD, ltD, gtD, geD, cmpD, eqD_str, neD_str, eqD_int, neD_int, inD_sign, isD, isNone, ifB, caE, consA, nilA, ca1, rdAll, dAll, lenD, intF, tupF, lstF, Option.map_some, Option.map_none, Option.bind_some, addD, intD, subI, modI, divI, adI, negD, mulD, revND, revD, tupE, lstE, mtE, okTy, isStr, isLst, stripF, callE, callI, truT, tru1, tru, truD, blT, notT, andT, orT, ifE, notE, andE, orE, if_true, Bool.not_true, Bool.not_false, Bool.true_and, Bool.and_true, Bool.false_and, Bool.or_false, Bool.false_or, Bool.true_or, Bool.or_true, Bool.and_false, Bool.false_xor, Bool.true_xor, slE, noP, someP, sl1, slD, seqI, its1, optI, forS, turn, lcE, wipeS, restS, plainAt, List.getD_cons_zero, List.getD_cons_succ, List.all_cons, List.all_nil, muE, mu1, lstAt, dArgs, appF, popF, rvsF, extF, rng1I, rng2I, enI, zipI, zip2, starA, subS, decide_true, decide_false, Int.reduceLT, Int.reduceLE, Nat.reduceLT, Nat.reduceLeDiff, true_and, and_true, Bool.false_eq_true, if_false, ite_true, ite_false, reduceIte, reduceCtorEq, Option.some.injEq, z2, i44, ix1, t4, nRF])
    refine ⟨x6, ?_⟩
    have r5 : rngL 0 5 = (List.range 5).map fun j : Nat => PyData.int ((j : Nat) : Int) := rng_zero 5
    have t5 : Int.toNat 5 = 5 := rfl
    have s5 : smI 5 = true := by decide +kernel
    simp only [Q0, dv_none] at e ⊢
    simp only [T8, Gv, Gio, ins, List.map_cons, List.map_nil, List.length_cons, List.length_nil, Nat.sub_self, List.replicate_zero, List.append_nil, List.nil_append, List.cons_append, List.replicate_succ, Nat.reduceSub, Nat.reduceAdd, retS, retN, ret1, setS, sto, stoO, freeAt, free_dv, dv_some, dv_none, free_d, free_n, free_o, plain_dv, plain_dd, plain_n, dropS, seqS, ifS, raiS, nextS, brkS, cntS, unpS, tpG, itsOf, bindAll, optO, nmG, augS, chE, bind_ok, bind_er, out_ok, out_er, seq_nx, seq_rt, seq_er, seq_bk, seq_ct, ite_and, ite_or, ite_and2, ite_or2, ite_andB, ite_orB, cE, varE, shE, shr, bi2, un1, opE, unE, rd, List.getElem?_cons_zero, List.getElem?_cons_succ, List.set_cons_zero, List.set_cons_succ, leD, ltD, gtD, geD, cmpD, eqD_str, neD_str, eqD_int, neD_int, inD_sign, isD, isNone, ifB, caE, consA, nilA, ca1, rdAll, dAll, lenD, intF, tupF, lstF, Option.map_some, Option.map_none, Option.bind_some, addD, intD, subI, modI, divI, adI, negD, mulD, revND, revD, tupE, lstE, mtE, okTy, isStr, isLst, stripF, callE, callI, truT, tru1, tru, truD, blT, notT, andT, orT, ifE, notE, andE, orE, if_true, Bool.not_true, Bool.not_false, Bool.true_and, Bool.and_true, Bool.false_and, Bool.or_false, Bool.false_or, Bool.true_or, Bool.or_true, Bool.and_false, Bool.false_xor, Bool.true_xor, slE, noP, someP, sl1, slD, seqI, its1, optI, forS, turn, lcE, wipeS, restS, plainAt, List.getD_cons_zero, List.getD_cons_succ, List.all_cons, List.all_nil, muE, mu1, lstAt, dArgs, appF, popF, rvsF, extF, rng1I, rng2I, enI, zipI, zip2, starA, subS, decide_true, decide_false, Int.reduceLT, Int.reduceLE, Nat.reduceLT, Nat.reduceLeDiff, true_and, and_true, Bool.false_eq_true, if_false, ite_true, ite_false, reduceIte, reduceCtorEq, Option.some.injEq, s5, t5, r5]
    exact e
  obtain ⟨x6, h8⟩ := h8
  have lu := fun s => law_is_word_c (k := k) u (by omega) s
  have lv := fun s => law_is_word_c (k := k) v (by omega) s
  obtain ⟨bu, hbu⟩ : ∃ b, b = isWord k u := ⟨_, rfl⟩
  obtain ⟨bv, hbv⟩ : ∃ b, b = isWord k v := ⟨_, rfl⟩
  rw [← hbu] at lu
  rw [← hbv] at lv
  have h9 : T9 (Q0 ns ds7 k (some (.d (.str u))) (some (.d (.str v))) (some (.d (.int wr))) x6 none none none none none none) = .nx (Q0 ns ds7 k (some (.d (.str u))) (some (.d (.str v))) (some (.d (.int wr))) x6 (some (.o true (.L [.bool bu, .bool bv]))) none none none none none) := by
    simp only [T9, Q0, Gv, Gio, ins, List.map_cons, List.map_nil, List.length_cons, List.length_nil, Nat.sub_self, List.replicate_zero, List.append_nil, List.nil_append, List.cons_append, List.replicate_succ, Nat.reduceSub, Nat.reduceAdd, retS, retN, ret1, setS, sto, stoO, freeAt, free_dv, dv_some, dv_none, free_d, free_n, free_o, plain_dv, plain_dd, plain_n, dropS, seqS, ifS, raiS, nextS, brkS, cntS, unpS, tpG, itsOf, bindAll, optO, nmG, augS, chE, bind_ok, bind_er, out_ok, out_er, seq_nx, seq_rt, seq_er, seq_bk, seq_ct, ite_and, ite_or, ite_and2, ite_or2, ite_andB, ite_orB, cE, varE, shE, shr, bi2, un1, opE, unE, rd, List.getElem?_cons_zero, List.getElem?_cons_succ, List.set_cons_zero, List.set_cons_succ, leD, ltD, gtD, geD, cmpD, eqD_str, neD_str, eqD_int, neD_int, inD_sign, isD, isNone, ifB, caE, consA, nilA, ca1, rdAll, dAll, lenD, intF, tupF, lstF, Option.map_some, Option.map_none, Option.bind_some, addD, intD, subI, modI, divI, adI, negD, mulD, revND, revD, tupE, lstE, mtE, okTy, isStr, isLst, stripF, callE, callI, truT, tru1, tru, truD, blT, notT, andT, orT, ifE, notE, andE, orE, if_true, Bool.not_true, Bool.not_false, Bool.true_and, Bool.and_true, Bool.false_and, Bool.or_false, Bool.false_or, Bool.true_or, Bool.or_true, Bool.and_false, Bool.false_xor, Bool.true_xor, slE, noP, someP, sl1, slD, seqI, its1, optI, forS, turn, lcE, wipeS, restS, plainAt, List.getD_cons_zero, List.getD_cons_succ, List.all_cons, List.all_nil, muE, mu1, lstAt, dArgs, appF, popF, rvsF, extF, rng1I, rng2I, enI, zipI, zip2, starA, subS, decide_true, decide_false, Int.reduceLT, Int.reduceLE, Nat.reduceLT, Nat.reduceLeDiff, true_and, and_true, Bool.false_eq_true, if_false, ite_true, ite_false, reduceIte, reduceCtorEq, Option.some.injEq, lu, lv, z2]
  have rt0 : ixD (.list [.bool bu, .bool bv]) (.int 0) = some (.d (.bool bu)) := rfl
  have rt1 : ixD (.list [.bool bu, .bool bv]) (.int 1) = some (.d (.bool bv)) := rfl
  obtain ⟨X2, hX2⟩ : ∃ X, X = (if bu = true then TD .none else RF 0 1) := ⟨_, rfl⟩
  have ixd : ixD (.list [.tuple [.str "refused", .list [.int 0, .int 1]], .tuple [.str "told", .none]]) (.int (if bu = true then 1 else 0)) = some (.d X2) := by
    rw [hX2]
    cases bu <;> rfl
  have h10 : T10 (Q0 ns ds7 k (some (.d (.str u))) (some (.d (.str v))) (some (.d (.int wr))) x6 (some (.o true (.L [.bool bu, .bool bv]))) none none none none none) = .nx (Q0 ns ds7 k (some (.d (.str u))) (some (.d (.str v))) (some (.d (.int wr))) x6 (some (.o true (.L [.bool bu, .bool bv]))) (some (.d X2)) none none none none) := by
    simp only [T10, Q0, Gv, Gio, ins, List.map_cons, List.map_nil, List.length_cons, List.length_nil, Nat.sub_self, List.replicate_zero, List.append_nil, List.nil_append, List.cons_append, List.replicate_succ, Nat.reduceSub, Nat.reduceAdd, retS, retN, ret1, setS, sto, stoO, freeAt, free_dv, dv_some, dv_none, free_d, free_n, free_o, plain_dv, plain_dd, plain_n, dropS, seqS, ifS, raiS, nextS, brkS, cntS, unpS, tpG, itsOf, bindAll, optO, nmG, augS, chE, bind_ok, bind_er, out_ok, out_er, seq_nx, seq_rt, seq_er, seq_bk, seq_ct, ite_and, ite_or, ite_and2, ite_or2, ite_andB, ite_orB, cE, varE, shE, shr, bi2, un1, opE, unE, rd, List.getElem?_cons_zero, List.getElem?_cons_succ, List.set_cons_zero, List.set_cons_succ, leD, ltD, gtD, geD, cmpD, eqD_str, neD_str, eqD_int, neD_int, inD_sign, isD, isNone, ifB, caE, consA, nilA, ca1, rdAll, dAll, lenD, intF, tupF, lstF, Option.map_some, Option.map_none, Option.bind_some, addD, intD, subI, modI, divI, adI, negD, mulD, revND, revD, tupE, lstE, mtE, okTy, isStr, isLst, stripF, callE, callI, truT, tru1, tru, truD, blT, notT, andT, orT, ifE, notE, andE, orE, if_true, Bool.not_true, Bool.not_false, Bool.true_and, Bool.and_true, Bool.false_and, Bool.or_false, Bool.false_or, Bool.true_or, Bool.or_true, Bool.and_false, Bool.false_xor, Bool.true_xor, slE, noP, someP, sl1, slD, seqI, its1, optI, forS, turn, lcE, wipeS, restS, plainAt, List.getD_cons_zero, List.getD_cons_succ, List.all_cons, List.all_nil, muE, mu1, lstAt, dArgs, appF, popF, rvsF, extF, rng1I, rng2I, enI, zipI, zip2, starA, subS, decide_true, decide_false, Int.reduceLT, Int.reduceLE, Nat.reduceLT, Nat.reduceLeDiff, true_and, and_true, Bool.false_eq_true, if_false, ite_true, ite_false, reduceIte, reduceCtorEq, Option.some.injEq, z2, rt0, ixd]
  have g0 := fun s => good0 k2 k6 (.str u) (.str v) s
  have g2 := fun s => good2 k2 k6 (u := u) (.str v) s
  rw [← hbu, ← hX2] at g2
  obtain ⟨y2, r2⟩ : ∃ y, reprF [X2] = some (.d (.str y)) := by
    rw [hX2]
    cases bu
    · exact repr_of (easy_rf 0 1 (by decide) (by decide)) (by decide) (by decide)
    · exact repr_of (easy_told (Easy.none (n := 1) (k := 0)) (by decide)) (by decide) (by decide)
  have le : cutS "abcdef" none (some k) = letters k := rfl
  obtain ⟨L0, hL0⟩ : ∃ L, L = letters k := ⟨_, rfl⟩
  have nL := nTD L0
  rw [← hL0] at le g0
  have h11 : T11 (Q0 ns ds7 k (some (.d (.str u))) (some (.d (.str v))) (some (.d (.int wr))) x6 (some (.o true (.L [.bool bu, .bool bv]))) (some (.d X2)) none none none none) = .nx (Q0 ns ds7 k (some (.d (.str u))) (some (.d (.str v))) (some (.d (.int wr))) x6 (some (.o true (.L [.bool bu, .bool bv]))) (some (.d X2)) none none none none) := by
    simp only [T11, Q0, Gv, Gio, ins, List.map_cons, List.map_nil, List.length_cons, List.length_nil, Nat.sub_self, List.replicate_zero, List.append_nil, List.nil_append, List.cons_append, List.replicate_succ, Nat.reduceSub, Nat.reduceAdd, retS, retN, ret1, setS, sto, stoO, freeAt, free_dv, dv_some, dv_none, free_d, free_n, free_o, plain_dv, plain_dd, plain_n, dropS, seqS, ifS, raiS, nextS, brkS, cntS, unpS, tpG, itsOf, bindAll, optO, nmG, augS, chE, bind_ok, bind_er, out_ok, out_er, seq_nx, seq_rt, seq_er, seq_bk, seq_ct, ite_and, ite_or, ite_and2, ite_or2, ite_andB, ite_orB, cE, varE, shE, shr, bi2, un1, opE, unE, rd, List.getElem?_cons_zero, List.getElem?_cons_succ, List.set_cons_zero, List.set_cons_succ, leD, ltD, gtD, geD, cmpD, eqD_str, neD_str, eqD_int, neD_int, inD_sign, isD, isNone, ifB, caE, consA, nilA, ca1, rdAll, dAll, lenD, intF, tupF, lstF, Option.map_some, Option.map_none, Option.bind_some, addD, intD, subI, modI, divI, adI, negD, mulD, revND, revD, tupE, lstE, mtE, okTy, isStr, isLst, stripF, callE, callI, truT, tru1, tru, truD, blT, notT, andT, orT, ifE, notE, andE, orE, if_true, Bool.not_true, Bool.not_false, Bool.true_and, Bool.and_true, Bool.false_and, Bool.or_false, Bool.false_or, Bool.true_or, Bool.or_true, Bool.and_false, Bool.false_xor, Bool.true_xor, slE, noP, someP, sl1, slD, seqI, its1, optI, forS, turn, lcE, wipeS, restS, plainAt, List.getD_cons_zero, List.getD_cons_succ, List.all_cons, List.all_nil, muE, mu1, lstAt, dArgs, appF, popF, rvsF, extF, rng1I, rng2I, enI, zipI, zip2, starA, subS, decide_true, decide_false, Int.reduceLT, Int.reduceLE, Nat.reduceLT, Nat.reduceLeDiff, true_and, and_true, Bool.false_eq_true, if_false, ite_true, ite_false, reduceIte, reduceCtorEq, Option.some.injEq, z2, g0, le, nL, g2, r2, nf9]
  have g1 := fun s => good1 k2 k6 (u := u) (.str v) s
  rw [← hbu] at g1
  obtain ⟨y1, r1⟩ : ∃ y, reprF [TD (.bool bu)] = some (.d (.str y)) := repr_of (easy_told (Easy.bool bu (n := 1) (k := 0)) (by decide)) (by decide) (by decide)
  have r1' : reprF [.tuple [.str "told", .bool bu]] = some (.d (.str y1)) := r1
  have h12 : T12 (Q0 ns ds7 k (some (.d (.str u))) (some (.d (.str v))) (some (.d (.int wr))) x6 (some (.o true (.L [.bool bu, .bool bv]))) (some (.d X2)) none none none none) = .nx (Q0 ns ds7 k (some (.d (.str u))) (some (.d (.str v))) (some (.d (.int wr))) x6 (some (.o true (.L [.bool bu, .bool bv]))) (some (.d X2)) none none none none) := by
    simp only [T12, Q0, Gv, Gio, ins, List.map_cons, List.map_nil, List.length_cons, List.length_nil, Nat.sub_self, List.replicate_zero, List.append_nil, List.nil_append, List.cons_append, List.replicate_succ, Nat.reduceSub, Nat.reduceAdd, retS, retN, ret1, setS, sto, stoO, freeAt, free_dv, dv_some, dv_none, free_d, free_n, free_o, plain_dv, plain_dd, plain_n, dropS, seqS, ifS, raiS, nextS, brkS, cntS, unpS, tpG, itsOf, bindAll, optO, nmG, augS, chE, bind_ok, bind_er, out_ok, out_er, seq_nx, seq_rt, seq_er, seq_bk, seq_ct, ite_and, ite_or, ite_and2, ite_or2, ite_andB, ite_orB, cE, varE, shE, shr, bi2, un1, opE, unE, rd, List.getElem?_cons_zero, List.getElem?_cons_succ, List.set_cons_zero, List.set_cons_succ, leD, ltD, gtD, geD, cmpD, eqD_str, neD_str, eqD_int, neD_int, inD_sign, isD, isNone, ifB, caE, consA, nilA, ca1, rdAll, dAll, lenD, intF, tupF, lstF, Option.map_some, Option.map_none, Option.bind_some, addD, intD, subI, modI, divI, adI, negD, mulD, revND, revD, tupE, lstE, mtE, okTy, isStr, isLst, stripF, callE, callI, truT, tru1, tru, truD, blT, notT, andT, orT, ifE, notE, andE, orE, if_true, Bool.not_true, Bool.not_false, Bool.true_and, Bool.and_true, Bool.false_and, Bool.or_false, Bool.false_or, Bool.true_or, Bool.or_true, Bool.and_false, Bool.false_xor, Bool.true_xor, slE, noP, someP, sl1, slD, seqI, its1, optI, forS, turn, lcE, wipeS, restS, plainAt, List.getD_cons_zero, List.getD_cons_succ, List.all_cons, List.all_nil, muE, mu1, lstAt, dArgs, appF, popF, rvsF, extF, rng1I, rng2I, enI, zipI, zip2, starA, subS, decide_true, decide_false, Int.reduceLT, Int.reduceLE, Nat.reduceLT, Nat.reduceLeDiff, true_and, and_true, Bool.false_eq_true, if_false, ite_true, ite_false, reduceIte, reduceCtorEq, Option.some.injEq, z2, g1, rt0, r1, r1', nf9]
  have h13 : T13 (Q0 ns ds7 k (some (.d (.str u))) (some (.d (.str v))) (some (.d (.int wr))) x6 (some (.o true (.L [.bool bu, .bool bv]))) (some (.d X2)) none none none none) = .nx (Q0 ns ds7 k (some (.d (.str u))) (some (.d (.str v))) (some (.d (.int wr))) x6 (some (.o true (.L [.bool bu, .bool bv]))) (some (.d (RF 0 1))) none none none none) := by
    simp only [T13, Q0, Gv, Gio, ins, List.map_cons, List.map_nil, List.length_cons, List.length_nil, Nat.sub_self, List.replicate_zero, List.append_nil, List.nil_append, List.cons_append, List.replicate_succ, Nat.reduceSub, Nat.reduceAdd, retS, retN, ret1, setS, sto, stoO, freeAt, free_dv, dv_some, dv_none, free_d, free_n, free_o, plain_dv, plain_dd, plain_n, dropS, seqS, ifS, raiS, nextS, brkS, cntS, unpS, tpG, itsOf, bindAll, optO, nmG, augS, chE, bind_ok, bind_er, out_ok, out_er, seq_nx, seq_rt, seq_er, seq_bk, seq_ct, ite_and, ite_or, ite_and2, ite_or2, ite_andB, ite_orB, cE, varE, shE, shr, bi2, un1, opE, unE, rd, List.getElem?_cons_zero, List.getElem?_cons_succ, List.set_cons_zero, List.set_cons_succ, leD, ltD, gtD, geD, cmpD, eqD_str, neD_str, eqD_int, neD_int, inD_sign, isD, isNone, ifB, caE, consA, nilA, ca1, rdAll, dAll, lenD, intF, tupF, lstF, Option.map_some, Option.map_none, Option.bind_some, addD, intD, subI, modI, divI, adI, negD, mulD, revND, revD, tupE, lstE, mtE, okTy, isStr, isLst, stripF, callE, callI, truT, tru1, tru, truD, blT, notT, andT, orT, ifE, notE, andE, orE, if_true, Bool.not_true, Bool.not_false, Bool.true_and, Bool.and_true, Bool.false_and, Bool.or_false, Bool.false_or, Bool.true_or, Bool.or_true, Bool.and_false, Bool.false_xor, Bool.true_xor, slE, noP, someP, sl1, slD, seqI, its1, optI, forS, turn, lcE, wipeS, restS, plainAt, List.getD_cons_zero, List.getD_cons_succ, List.all_cons, List.all_nil, muE, mu1, lstAt, dArgs, appF, popF, rvsF, extF, rng1I, rng2I, enI, zipI, zip2, starA, subS, decide_true, decide_false, Int.reduceLT, Int.reduceLE, Nat.reduceLT, Nat.reduceLeDiff, true_and, and_true, Bool.false_eq_true, if_false, ite_true, ite_false, reduceIte, reduceCtorEq, Option.some.injEq, z2, RF]
  obtain ⟨X3, hX3⟩ : ∃ X, X = (if (bu && bv) = true then TD (.bool (befB u v)) else RF 0 1) := ⟨_, rfl⟩
  have pu := fun s => law_size_place_c u s
  have pv := fun s => law_size_place_c v s
  have lp := lt_place u v
  have h14 : T14 (Q0 ns ds7 k (some (.d (.str u))) (some (.d (.str v))) (some (.d (.int wr))) x6 (some (.o true (.L [.bool bu, .bool bv]))) (some (.d (RF 0 1))) none none none none) = .nx (Q0 ns ds7 k (some (.d (.str u))) (some (.d (.str v))) (some (.d (.int wr))) x6 (some (.o true (.L [.bool bu, .bool bv]))) (some (.d X3)) none none none none) := by
    rw [hX3]
    cases bu
    · simp only [T14, Q0, Gv, Gio, ins, List.map_cons, List.map_nil, List.length_cons, List.length_nil, Nat.sub_self, List.replicate_zero, List.append_nil, List.nil_append, List.cons_append, List.replicate_succ, Nat.reduceSub, Nat.reduceAdd, retS, retN, ret1, setS, sto, stoO, freeAt, free_dv, dv_some, dv_none, free_d, free_n, free_o, plain_dv, plain_dd, plain_n, dropS, seqS, ifS, raiS, nextS, brkS, cntS, unpS, tpG, itsOf, bindAll, optO, nmG, augS, chE, bind_ok, bind_er, out_ok, out_er, seq_nx, seq_rt, seq_er, seq_bk, seq_ct, ite_and, ite_or, ite_and2, ite_or2, ite_andB, ite_orB, cE, varE, shE, shr, bi2, un1, opE, unE, rd, List.getElem?_cons_zero, List.getElem?_cons_succ, List.set_cons_zero, List.set_cons_succ, leD, ltD, gtD, geD, cmpD, eqD_str, neD_str, eqD_int, neD_int, inD_sign, isD, isNone, ifB, caE, consA, nilA, ca1, rdAll, dAll, lenD, intF, tupF, lstF, Option.map_some, Option.map_none, Option.bind_some, addD, intD, subI, modI, divI, adI, negD, mulD, revND, revD, tupE, lstE, mtE, okTy, isStr, isLst, stripF, callE, callI, truT, tru1, tru, truD, blT, notT, andT, orT, ifE, notE, andE, orE, if_true, Bool.not_true, Bool.not_false, Bool.true_and, Bool.and_true, Bool.false_and, Bool.or_false, Bool.false_or, Bool.true_or, Bool.or_true, Bool.and_false, Bool.false_xor, Bool.true_xor, slE, noP, someP, sl1, slD, seqI, its1, optI, forS, turn, lcE, wipeS, restS, plainAt, List.getD_cons_zero, List.getD_cons_succ, List.all_cons, List.all_nil, muE, mu1, lstAt, dArgs, appF, popF, rvsF, extF, rng1I, rng2I, enI, zipI, zip2, starA, subS, decide_true, decide_false, Int.reduceLT, Int.reduceLE, Nat.reduceLT, Nat.reduceLeDiff, true_and, and_true, Bool.false_eq_true, if_false, ite_true, ite_false, reduceIte, reduceCtorEq, Option.some.injEq, rt0, rt1]
    · cases bv
      · simp only [T14, Q0, Gv, Gio, ins, List.map_cons, List.map_nil, List.length_cons, List.length_nil, Nat.sub_self, List.replicate_zero, List.append_nil, List.nil_append, List.cons_append, List.replicate_succ, Nat.reduceSub, Nat.reduceAdd, retS, retN, ret1, setS, sto, stoO, freeAt, free_dv, dv_some, dv_none, free_d, free_n, free_o, plain_dv, plain_dd, plain_n, dropS, seqS, ifS, raiS, nextS, brkS, cntS, unpS, tpG, itsOf, bindAll, optO, nmG, augS, chE, bind_ok, bind_er, out_ok, out_er, seq_nx, seq_rt, seq_er, seq_bk, seq_ct, ite_and, ite_or, ite_and2, ite_or2, ite_andB, ite_orB, cE, varE, shE, shr, bi2, un1, opE, unE, rd, List.getElem?_cons_zero, List.getElem?_cons_succ, List.set_cons_zero, List.set_cons_succ, leD, ltD, gtD, geD, cmpD, eqD_str, neD_str, eqD_int, neD_int, inD_sign, isD, isNone, ifB, caE, consA, nilA, ca1, rdAll, dAll, lenD, intF, tupF, lstF, Option.map_some, Option.map_none, Option.bind_some, addD, intD, subI, modI, divI, adI, negD, mulD, revND, revD, tupE, lstE, mtE, okTy, isStr, isLst, stripF, callE, callI, truT, tru1, tru, truD, blT, notT, andT, orT, ifE, notE, andE, orE, if_true, Bool.not_true, Bool.not_false, Bool.true_and, Bool.and_true, Bool.false_and, Bool.or_false, Bool.false_or, Bool.true_or, Bool.or_true, Bool.and_false, Bool.false_xor, Bool.true_xor, slE, noP, someP, sl1, slD, seqI, its1, optI, forS, turn, lcE, wipeS, restS, plainAt, List.getD_cons_zero, List.getD_cons_succ, List.all_cons, List.all_nil, muE, mu1, lstAt, dArgs, appF, popF, rvsF, extF, rng1I, rng2I, enI, zipI, zip2, starA, subS, decide_true, decide_false, Int.reduceLT, Int.reduceLE, Nat.reduceLT, Nat.reduceLeDiff, true_and, and_true, Bool.false_eq_true, if_false, ite_true, ite_false, reduceIte, reduceCtorEq, Option.some.injEq, rt0, rt1]
      · simp only [T14, Q0, Gv, Gio, ins, List.map_cons, List.map_nil, List.length_cons, List.length_nil, Nat.sub_self, List.replicate_zero, List.append_nil, List.nil_append, List.cons_append, List.replicate_succ, Nat.reduceSub, Nat.reduceAdd, retS, retN, ret1, setS, sto, stoO, freeAt, free_dv, dv_some, dv_none, free_d, free_n, free_o, plain_dv, plain_dd, plain_n, dropS, seqS, ifS, raiS, nextS, brkS, cntS, unpS, tpG, itsOf, bindAll, optO, nmG, augS, chE, bind_ok, bind_er, out_ok, out_er, seq_nx, seq_rt, seq_er, seq_bk, seq_ct, ite_and, ite_or, ite_and2, ite_or2, ite_andB, ite_orB, cE, varE, shE, shr, bi2, un1, opE, unE, rd, List.getElem?_cons_zero, List.getElem?_cons_succ, List.set_cons_zero, List.set_cons_succ, leD, ltD, gtD, geD, cmpD, eqD_str, neD_str, eqD_int, neD_int, inD_sign, isD, isNone, ifB, caE, consA, nilA, ca1, rdAll, dAll, lenD, intF, tupF, lstF, Option.map_some, Option.map_none, Option.bind_some, addD, intD, subI, modI, divI, adI, negD, mulD, revND, revD, tupE, lstE, mtE, okTy, isStr, isLst, stripF, callE, callI, truT, tru1, tru, truD, blT, notT, andT, orT, ifE, notE, andE, orE, if_true, Bool.not_true, Bool.not_false, Bool.true_and, Bool.and_true, Bool.false_and, Bool.or_false, Bool.false_or, Bool.true_or, Bool.or_true, Bool.and_false, Bool.false_xor, Bool.true_xor, slE, noP, someP, sl1, slD, seqI, its1, optI, forS, turn, lcE, wipeS, restS, plainAt, List.getD_cons_zero, List.getD_cons_succ, List.all_cons, List.all_nil, muE, mu1, lstAt, dArgs, appF, popF, rvsF, extF, rng1I, rng2I, enI, zipI, zip2, starA, subS, decide_true, decide_false, Int.reduceLT, Int.reduceLE, Nat.reduceLT, Nat.reduceLeDiff, true_and, and_true, Bool.false_eq_true, if_false, ite_true, ite_false, reduceIte, reduceCtorEq, Option.some.injEq, rt0, rt1, pu, pv, lp, z2, TD]
  have g3 := fun s => good3 k2 k6 (u := u) (v := v) s
  rw [← hbu, ← hbv, ← hX3] at g3
  obtain ⟨y3, r3⟩ : ∃ y, reprF [X3] = some (.d (.str y)) := by
    rw [hX3]
    cases (bu && bv)
    · exact repr_of (easy_rf 0 1 (by decide) (by decide)) (by decide) (by decide)
    · exact repr_of (easy_told (Easy.bool (befB u v) (n := 1) (k := 0)) (by decide)) (by decide) (by decide)
  have h15 : T15 (Q0 ns ds7 k (some (.d (.str u))) (some (.d (.str v))) (some (.d (.int wr))) x6 (some (.o true (.L [.bool bu, .bool bv]))) (some (.d X3)) none none none none) = .nx (Q0 ns ds7 k (some (.d (.str u))) (some (.d (.str v))) (some (.d (.int wr))) x6 (some (.o true (.L [.bool bu, .bool bv]))) (some (.d X3)) none none none none) := by
    simp only [T15, Q0, Gv, Gio, ins, List.map_cons, List.map_nil, List.length_cons, List.length_nil, Nat.sub_self, List.replicate_zero, List.append_nil, List.nil_append, List.cons_append, List.replicate_succ, Nat.reduceSub, Nat.reduceAdd, retS, retN, ret1, setS, sto, stoO, freeAt, free_dv, dv_some, dv_none, free_d, free_n, free_o, plain_dv, plain_dd, plain_n, dropS, seqS, ifS, raiS, nextS, brkS, cntS, unpS, tpG, itsOf, bindAll, optO, nmG, augS, chE, bind_ok, bind_er, out_ok, out_er, seq_nx, seq_rt, seq_er, seq_bk, seq_ct, ite_and, ite_or, ite_and2, ite_or2, ite_andB, ite_orB, cE, varE, shE, shr, bi2, un1, opE, unE, rd, List.getElem?_cons_zero, List.getElem?_cons_succ, List.set_cons_zero, List.set_cons_succ, leD, ltD, gtD, geD, cmpD, eqD_str, neD_str, eqD_int, neD_int, inD_sign, isD, isNone, ifB, caE, consA, nilA, ca1, rdAll, dAll, lenD, intF, tupF, lstF, Option.map_some, Option.map_none, Option.bind_some, addD, intD, subI, modI, divI, adI, negD, mulD, revND, revD, tupE, lstE, mtE, okTy, isStr, isLst, stripF, callE, callI, truT, tru1, tru, truD, blT, notT, andT, orT, ifE, notE, andE, orE, if_true, Bool.not_true, Bool.not_false, Bool.true_and, Bool.and_true, Bool.false_and, Bool.or_false, Bool.false_or, Bool.true_or, Bool.or_true, Bool.and_false, Bool.false_xor, Bool.true_xor, slE, noP, someP, sl1, slD, seqI, its1, optI, forS, turn, lcE, wipeS, restS, plainAt, List.getD_cons_zero, List.getD_cons_succ, List.all_cons, List.all_nil, muE, mu1, lstAt, dArgs, appF, popF, rvsF, extF, rng1I, rng2I, enI, zipI, zip2, starA, subS, decide_true, decide_false, Int.reduceLT, Int.reduceLE, Nat.reduceLT, Nat.reduceLeDiff, true_and, and_true, Bool.false_eq_true, if_false, ite_true, ite_false, reduceIte, reduceCtorEq, Option.some.injEq, g3, r3, nf9]
  obtain ⟨n, hn⟩ : ∃ n : Nat, n8 % 4 = ((n : Nat) : Int) := ⟨(n8 % 4).toNat, by omega⟩
  have n3 : n ≤ 3 := by omega
  have h16 : T16 (Q0 ns ds7 k (some (.d (.str u))) (some (.d (.str v))) (some (.d (.int wr))) x6 (some (.o true (.L [.bool bu, .bool bv]))) (some (.d X3)) none none none none) = .nx (Q0 ns ds8 k (some (.d (.str u))) (some (.d (.str v))) (some (.d (.int wr))) x6 (some (.o true (.L [.bool bu, .bool bv]))) (some (.d X3)) (some (.d (.int ((n : Nat) : Int)))) none none none) := by
    simp only [T16, Q0, Gv, Gio, ins, List.map_cons, List.map_nil, List.length_cons, List.length_nil, Nat.sub_self, List.replicate_zero, List.append_nil, List.nil_append, List.cons_append, List.replicate_succ, Nat.reduceSub, Nat.reduceAdd, retS, retN, ret1, setS, sto, stoO, freeAt, free_dv, dv_some, dv_none, free_d, free_n, free_o, plain_dv, plain_dd, plain_n, dropS, seqS, ifS, raiS, nextS, brkS, cntS, unpS, tpG, itsOf, bindAll, optO, nmG, augS, chE, bind_ok, bind_er, out_ok, out_er, seq_nx, seq_rt, seq_er, seq_bk, seq_ct, ite_and, ite_or, ite_and2, ite_or2, ite_andB, ite_orB, cE, varE, shE, shr, bi2, un1, opE, unE, rd, List.getElem?_cons_zero, List.getElem?_cons_succ, List.set_cons_zero, List.set_cons_succ, leD, ltD, gtD, geD, cmpD, eqD_str, neD_str, eqD_int, neD_int, inD_sign, isD, isNone, ifB, caE, consA, nilA, ca1, rdAll, dAll, lenD, intF, tupF, lstF, Option.map_some, Option.map_none, Option.bind_some, addD, intD, subI, modI, divI, adI, negD, mulD, revND, revD, tupE, lstE, mtE, okTy, isStr, isLst, stripF, callE, callI, truT, tru1, tru, truD, blT, notT, andT, orT, ifE, notE, andE, orE, if_true, Bool.not_true, Bool.not_false, Bool.true_and, Bool.and_true, Bool.false_and, Bool.or_false, Bool.false_or, Bool.true_or, Bool.or_true, Bool.and_false, Bool.false_xor, Bool.true_xor, slE, noP, someP, sl1, slD, seqI, its1, optI, forS, turn, lcE, wipeS, restS, plainAt, List.getD_cons_zero, List.getD_cons_succ, List.all_cons, List.all_nil, muE, mu1, lstAt, dArgs, appF, popF, rvsF, extF, rng1I, rng2I, enI, zipI, zip2, starA, subS, decide_true, decide_false, Int.reduceLT, Int.reduceLE, Nat.reduceLT, Nat.reduceLeDiff, true_and, and_true, Bool.false_eq_true, if_false, ite_true, ite_false, reduceIte, reduceCtorEq, Option.some.injEq, e8.p, mod_pos p4, hn]
  have g4 := fun s => good4 k2 k6 n3 (.str "") s
  obtain ⟨r, hr, ll⟩ := law_listed_c k2 k6 n3
  obtain ⟨y4, r4⟩ : ∃ y, reprF [TD (.list ((wl k n).map .str))] = some (.d (.str y)) := by
    have ws := wl_size k n
    have p1 : 6 ^ n ≤ 6 ^ 3 := Nat.pow_le_pow_right (by decide) (by omega)
    have p1 : 6 ^ n ≤ 216 := p1
    refine repr_of (easy_told (Easy.list (n := 10) (k := 0) (m := 10000) (fun d md => ?_) (by rw [List.length_map]; omega)) (by decide)) (by decide) (by decide)
    obtain ⟨w, mw, rfl⟩ := List.mem_map.mp md
    exact Easy.str (LetK.small k6 (wl_let k2 k6 mw)) (by rw [wl_len mw]; omega)
  obtain ⟨W0, hW0⟩ : ∃ W, W = (wl k n).map PyData.str := ⟨_, rfl⟩
  rw [← hW0] at g4 r4 hr
  have r4' : reprF [.tuple [.str "told", .list W0]] = some (.d (.str y4)) := r4
  have h17 : T17 (Q0 ns ds8 k (some (.d (.str u))) (some (.d (.str v))) (some (.d (.int wr))) x6 (some (.o true (.L [.bool bu, .bool bv]))) (some (.d X3)) (some (.d (.int ((n : Nat) : Int)))) none none none) = .nx (Q0 ns ds8 k (some (.d (.str u))) (some (.d (.str v))) (some (.d (.int wr))) x6 (some (.o true (.L [.bool bu, .bool bv]))) (some (.d X3)) (some (.d (.int ((n : Nat) : Int)))) none none none) := by
    rcases hr with rfl | rfl
    · simp only [T17, Q0, Gv, Gio, ins, List.map_cons, List.map_nil, List.length_cons, List.length_nil, Nat.sub_self, List.replicate_zero, List.append_nil, List.nil_append, List.cons_append, List.replicate_succ, Nat.reduceSub, Nat.reduceAdd, retS, retN, ret1, setS, sto, stoO, freeAt, free_dv, dv_some, dv_none, free_d, free_n, free_o, plain_dv, plain_dd, plain_n, dropS, seqS, ifS, raiS, nextS, brkS, cntS, unpS, tpG, itsOf, bindAll, optO, nmG, augS, chE, bind_ok, bind_er, out_ok, out_er, seq_nx, seq_rt, seq_er, seq_bk, seq_ct, ite_and, ite_or, ite_and2, ite_or2, ite_andB, ite_orB, cE, varE, shE, shr, bi2, un1, opE, unE, rd, List.getElem?_cons_zero, List.getElem?_cons_succ, List.set_cons_zero, List.set_cons_succ, leD, ltD, gtD, geD, cmpD, eqD_str, neD_str, eqD_int, neD_int, inD_sign, isD, isNone, ifB, caE, consA, nilA, ca1, rdAll, dAll, lenD, intF, tupF, lstF, Option.map_some, Option.map_none, Option.bind_some, addD, intD, subI, modI, divI, adI, negD, mulD, revND, revD, tupE, lstE, mtE, okTy, isStr, isLst, stripF, callE, callI, truT, tru1, tru, truD, blT, notT, andT, orT, ifE, notE, andE, orE, if_true, Bool.not_true, Bool.not_false, Bool.true_and, Bool.and_true, Bool.false_and, Bool.or_false, Bool.false_or, Bool.true_or, Bool.or_true, Bool.and_false, Bool.false_xor, Bool.true_xor, slE, noP, someP, sl1, slD, seqI, its1, optI, forS, turn, lcE, wipeS, restS, plainAt, List.getD_cons_zero, List.getD_cons_succ, List.all_cons, List.all_nil, muE, mu1, lstAt, dArgs, appF, popF, rvsF, extF, rng1I, rng2I, enI, zipI, zip2, starA, subS, decide_true, decide_false, Int.reduceLT, Int.reduceLE, Nat.reduceLT, Nat.reduceLeDiff, true_and, and_true, Bool.false_eq_true, if_false, ite_true, ite_false, reduceIte, reduceCtorEq, Option.some.injEq, g4, ll, z2, r4, r4', nf9]
    · simp only [T17, Q0, Gv, Gio, ins, List.map_cons, List.map_nil, List.length_cons, List.length_nil, Nat.sub_self, List.replicate_zero, List.append_nil, List.nil_append, List.cons_append, List.replicate_succ, Nat.reduceSub, Nat.reduceAdd, retS, retN, ret1, setS, sto, stoO, freeAt, free_dv, dv_some, dv_none, free_d, free_n, free_o, plain_dv, plain_dd, plain_n, dropS, seqS, ifS, raiS, nextS, brkS, cntS, unpS, tpG, itsOf, bindAll, optO, nmG, augS, chE, bind_ok, bind_er, out_ok, out_er, seq_nx, seq_rt, seq_er, seq_bk, seq_ct, ite_and, ite_or, ite_and2, ite_or2, ite_andB, ite_orB, cE, varE, shE, shr, bi2, un1, opE, unE, rd, List.getElem?_cons_zero, List.getElem?_cons_succ, List.set_cons_zero, List.set_cons_succ, leD, ltD, gtD, geD, cmpD, eqD_str, neD_str, eqD_int, neD_int, inD_sign, isD, isNone, ifB, caE, consA, nilA, ca1, rdAll, dAll, lenD, intF, tupF, lstF, Option.map_some, Option.map_none, Option.bind_some, addD, intD, subI, modI, divI, adI, negD, mulD, revND, revD, tupE, lstE, mtE, okTy, isStr, isLst, stripF, callE, callI, truT, tru1, tru, truD, blT, notT, andT, orT, ifE, notE, andE, orE, if_true, Bool.not_true, Bool.not_false, Bool.true_and, Bool.and_true, Bool.false_and, Bool.or_false, Bool.false_or, Bool.true_or, Bool.or_true, Bool.and_false, Bool.false_xor, Bool.true_xor, slE, noP, someP, sl1, slD, seqI, its1, optI, forS, turn, lcE, wipeS, restS, plainAt, List.getD_cons_zero, List.getD_cons_succ, List.all_cons, List.all_nil, muE, mu1, lstAt, dArgs, appF, popF, rvsF, extF, rng1I, rng2I, enI, zipI, zip2, starA, subS, decide_true, decide_false, Int.reduceLT, Int.reduceLE, Nat.reduceLT, Nat.reduceLeDiff, true_and, and_true, Bool.false_eq_true, if_false, ite_true, ite_false, reduceIte, reduceCtorEq, Option.some.injEq, g4, ll, z2, r4, r4', nf9]
  have g5 := fun s => neg4 k2 k6 (.str "") s
  have g6 := fun s => big4 k2 k6 (.str "") s
  have h18 : T18 (Q0 ns ds8 k (some (.d (.str u))) (some (.d (.str v))) (some (.d (.int wr))) x6 (some (.o true (.L [.bool bu, .bool bv]))) (some (.d X3)) (some (.d (.int ((n : Nat) : Int)))) none none none) = .nx (Q0 ns ds8 k (some (.d (.str u))) (some (.d (.str v))) (some (.d (.int wr))) x6 (some (.o true (.L [.bool bu, .bool bv]))) (some (.d X3)) (some (.d (.int ((n : Nat) : Int)))) none none none) := by
    simp only [T18, Q0, Gv, Gio, ins, List.map_cons, List.map_nil, List.length_cons, List.length_nil, Nat.sub_self, List.replicate_zero, List.append_nil, List.nil_append, List.cons_append, List.replicate_succ, Nat.reduceSub, Nat.reduceAdd, retS, retN, ret1, setS, sto, stoO, freeAt, free_dv, dv_some, dv_none, free_d, free_n, free_o, plain_dv, plain_dd, plain_n, dropS, seqS, ifS, raiS, nextS, brkS, cntS, unpS, tpG, itsOf, bindAll, optO, nmG, augS, chE, bind_ok, bind_er, out_ok, out_er, seq_nx, seq_rt, seq_er, seq_bk, seq_ct, ite_and, ite_or, ite_and2, ite_or2, ite_andB, ite_orB, cE, varE, shE, shr, bi2, un1, opE, unE, rd, List.getElem?_cons_zero, List.getElem?_cons_succ, List.set_cons_zero, List.set_cons_succ, leD, ltD, gtD, geD, cmpD, eqD_str, neD_str, eqD_int, neD_int, inD_sign, isD, isNone, ifB, caE, consA, nilA, ca1, rdAll, dAll, lenD, intF, tupF, lstF, Option.map_some, Option.map_none, Option.bind_some, addD, intD, subI, modI, divI, adI, negD, mulD, revND, revD, tupE, lstE, mtE, okTy, isStr, isLst, stripF, callE, callI, truT, tru1, tru, truD, blT, notT, andT, orT, ifE, notE, andE, orE, if_true, Bool.not_true, Bool.not_false, Bool.true_and, Bool.and_true, Bool.false_and, Bool.or_false, Bool.false_or, Bool.true_or, Bool.or_true, Bool.and_false, Bool.false_xor, Bool.true_xor, slE, noP, someP, sl1, slD, seqI, its1, optI, forS, turn, lcE, wipeS, restS, plainAt, List.getD_cons_zero, List.getD_cons_succ, List.all_cons, List.all_nil, muE, mu1, lstAt, dArgs, appF, popF, rvsF, extF, rng1I, rng2I, enI, zipI, zip2, starA, subS, decide_true, decide_false, Int.reduceLT, Int.reduceLE, Nat.reduceLT, Nat.reduceLeDiff, true_and, and_true, Bool.false_eq_true, if_false, ite_true, ite_false, reduceIte, reduceCtorEq, Option.some.injEq, n1', g5, g6, z2, nRF]
  -- six words
  obtain ⟨u2, hu2⟩ : ∃ w, w = cutS u none (some 2) := ⟨_, rfl⟩
  obtain ⟨rv, hrv⟩ : ∃ w, w = revS v := ⟨_, rfl⟩
  have tu2' : Txt 100 u2 := by
    have e : cutS u none (some 2) = tx (u.cps.toList.take 2) := cutS_take u 2
    rw [hu2, e]
    refine ⟨by rw [tx_len, List.length_take]; omega, fun c mc => ?_⟩
    rw [tx_list] at mc
    exact tu2 c (List.mem_of_mem_take mc)
  have trv : Txt 100 rv := by
    rw [hrv]
    refine ⟨by rw [revS_len]; omega, fun c mc => ?_⟩
    unfold revS at mc
    rw [tx_list] at mc
    exact tv2 c (List.mem_reverse.mp mc)
  obtain ⟨S6, hS6⟩ : ∃ S : List Str, S = [u, v, u2, rv, u, "zz"] := ⟨_, rfl⟩
  have l6 : S6.length = 6 := by rw [hS6]; rfl
  have t6 : ∀ w ∈ S6, Txt 100 w := fun w mw => by
    rw [hS6] at mw
    rcases List.mem_cons.mp mw with rfl | mw
    · exact ⟨by omega, tu2⟩
    rcases List.mem_cons.mp mw with rfl | mw
    · exact ⟨by omega, tv2⟩
    rcases List.mem_cons.mp mw with rfl | mw
    · exact tu2'
    rcases List.mem_cons.mp mw with rfl | mw
    · exact trv
    rcases List.mem_cons.mp mw with rfl | mw
    · exact ⟨by omega, tu2⟩
    · rw [List.mem_singleton.mp mw]; exact ⟨by decide +kernel, by decide +kernel⟩
  have m6 : [PyData.str u, .str v, .str u2, .str rv, .str u, .str "zz"] = S6.map .str := by rw [hS6]; rfl
  have h19 : T19 (Q0 ns ds8 k (some (.d (.str u))) (some (.d (.str v))) (some (.d (.int wr))) x6 (some (.o true (.L [.bool bu, .bool bv]))) (some (.d X3)) (some (.d (.int ((n : Nat) : Int)))) none none none) = .nx (Q0 ns ds8 k (some (.d (.str u))) (some (.d (.str v))) (some (.d (.int wr))) x6 (some (.o true (.L [.bool bu, .bool bv]))) (some (.d X3)) (some (.d (.int ((n : Nat) : Int)))) (some (.o true (.L (S6.map .str)))) none none) := by
    rw [← m6]
    simp only [T19, Q0, Gv, Gio, ins, List.map_cons, List.map_nil, List.length_cons, List.length_nil, Nat.sub_self, List.replicate_zero, List.append_nil, List.nil_append, List.cons_append, List.replicate_succ, Nat.reduceSub, Nat.reduceAdd, retS, retN, ret1, setS, sto, stoO, freeAt, free_dv, dv_some, dv_none, free_d, free_n, free_o, plain_dv, plain_dd, plain_n, dropS, seqS, ifS, raiS, nextS, brkS, cntS, unpS, tpG, itsOf, bindAll, optO, nmG, augS, chE, bind_ok, bind_er, out_ok, out_er, seq_nx, seq_rt, seq_er, seq_bk, seq_ct, ite_and, ite_or, ite_and2, ite_or2, ite_andB, ite_orB, cE, varE, shE, shr, bi2, un1, opE, unE, rd, List.getElem?_cons_zero, List.getElem?_cons_succ, List.set_cons_zero, List.set_cons_succ, leD, ltD, gtD, geD, cmpD, eqD_str, neD_str, eqD_int, neD_int, inD_sign, isD, isNone, ifB, caE, consA, nilA, ca1, rdAll, dAll, lenD, intF, tupF, lstF, Option.map_some, Option.map_none, Option.bind_some, addD, intD, subI, modI, divI, adI, negD, mulD, revND, revD, tupE, lstE, mtE, okTy, isStr, isLst, stripF, callE, callI, truT, tru1, tru, truD, blT, notT, andT, orT, ifE, notE, andE, orE, if_true, Bool.not_true, Bool.not_false, Bool.true_and, Bool.and_true, Bool.false_and, Bool.or_false, Bool.false_or, Bool.true_or, Bool.or_true, Bool.and_false, Bool.false_xor, Bool.true_xor, slE, noP, someP, sl1, slD, seqI, its1, optI, forS, turn, lcE, wipeS, restS, plainAt, List.getD_cons_zero, List.getD_cons_succ, List.all_cons, List.all_nil, muE, mu1, lstAt, dArgs, appF, popF, rvsF, extF, rng1I, rng2I, enI, zipI, zip2, starA, subS, decide_true, decide_false, Int.reduceLT, Int.reduceLE, Nat.reduceLT, Nat.reduceLeDiff, true_and, and_true, Bool.false_eq_true, if_false, ite_true, ite_false, reduceIte, reduceCtorEq, Option.some.injEq, ← hu2, ← hrv, z6]
  have h20 : T20 (Q0 ns ds8 k (some (.d (.str u))) (some (.d (.str v))) (some (.d (.int wr))) x6 (some (.o true (.L [.bool bu, .bool bv]))) (some (.d X3)) (some (.d (.int ((n : Nat) : Int)))) (some (.o true (.L (S6.map .str)))) none none) = .nx (Q0 ns ds8 k (some (.d (.str u))) (some (.d (.str v))) (some (.d (.int wr))) x6 (some (.o true (.L [.bool bu, .bool bv]))) (some (.o true (.L []))) (some (.d (.int ((n : Nat) : Int)))) (some (.o true (.L (S6.map .str)))) none none) := by
    simp only [T20, Q0, Gv, Gio, ins, List.map_cons, List.map_nil, List.length_cons, List.length_nil, Nat.sub_self, List.replicate_zero, List.append_nil, List.nil_append, List.cons_append, List.replicate_succ, Nat.reduceSub, Nat.reduceAdd, retS, retN, ret1, setS, sto, stoO, freeAt, free_dv, dv_some, dv_none, free_d, free_n, free_o, plain_dv, plain_dd, plain_n, dropS, seqS, ifS, raiS, nextS, brkS, cntS, unpS, tpG, itsOf, bindAll, optO, nmG, augS, chE, bind_ok, bind_er, out_ok, out_er, seq_nx, seq_rt, seq_er, seq_bk, seq_ct, ite_and, ite_or, ite_and2, ite_or2, ite_andB, ite_orB, cE, varE, shE, shr, bi2, un1, opE, unE, rd, List.getElem?_cons_zero, List.getElem?_cons_succ, List.set_cons_zero, List.set_cons_succ, leD, ltD, gtD, geD, cmpD, eqD_str, neD_str, eqD_int, neD_int, inD_sign, isD, isNone, ifB, caE, consA, nilA, ca1, rdAll, dAll, lenD, intF, tupF, lstF, Option.map_some, Option.map_none, Option.bind_some, addD, intD, subI, modI, divI, adI, negD, mulD, revND, revD, tupE, lstE, mtE, okTy, isStr, isLst, stripF, callE, callI, truT, tru1, tru, truD, blT, notT, andT, orT, ifE, notE, andE, orE, if_true, Bool.not_true, Bool.not_false, Bool.true_and, Bool.and_true, Bool.false_and, Bool.or_false, Bool.false_or, Bool.true_or, Bool.or_true, Bool.and_false, Bool.false_xor, Bool.true_xor, slE, noP, someP, sl1, slD, seqI, its1, optI, forS, turn, lcE, wipeS, restS, plainAt, List.getD_cons_zero, List.getD_cons_succ, List.all_cons, List.all_nil, muE, mu1, lstAt, dArgs, appF, popF, rvsF, extF, rng1I, rng2I, enI, zipI, zip2, starA, subS, decide_true, decide_false, Int.reduceLT, Int.reduceLE, Nat.reduceLT, Nat.reduceLeDiff, true_and, and_true, Bool.false_eq_true, if_false, ite_true, ite_false, reduceIte, reduceCtorEq, Option.some.injEq, z0]
  have ks : (sortKW S6).length = 6 := by rw [← l6]; exact (List.mergeSort_perm S6 _).length_eq
  obtain ⟨x11, e21⟩ := due_loop (ns := ns) (ds := ds8) (k := k) (x3 := some (.d (.str u))) (x4 := some (.d (.str v))) (x5 := some (.d (.int wr))) (x6 := x6) (x7 := some (.o true (.L [.bool bu, .bool bv]))) (x9 := some (.d (.int ((n : Nat) : Int)))) (x10 := some (.o true (.L (S6.map .str)))) (sortKW S6) [] none (by rw [ks]; decide)
  rw [order_eq] at e21
  have st6 := strs_all S6
  have h21 : T21 (Q0 ns ds8 k (some (.d (.str u))) (some (.d (.str v))) (some (.d (.int wr))) x6 (some (.o true (.L [.bool bu, .bool bv]))) (some (.o true (.L []))) (some (.d (.int ((n : Nat) : Int)))) (some (.o true (.L (S6.map .str)))) none none) = .nx (Q0 ns ds8 k (some (.d (.str u))) (some (.d (.str v))) (some (.d (.int wr))) x6 (some (.o true (.L [.bool bu, .bool bv]))) (some (.o true (.L ((sortLL (sortL (onceL S6))).map .str)))) (some (.d (.int ((n : Nat) : Int)))) (some (.o true (.L (S6.map .str)))) x11 none) := by
    obtain ⟨I, hI⟩ : ∃ I, I = S6.map PyData.str := ⟨_, rfl⟩
    obtain ⟨J, hJ⟩ : ∃ J, J = (sortKW S6).map PyData.str := ⟨_, rfl⟩
    rw [← hI] at st6 e21 ⊢
    rw [← hJ] at e21
    simp only [Q0, dv_none, List.map_nil] at e21 ⊢
    simp only [T21, Gv, Gio, ins, List.map_cons, List.map_nil, List.length_cons, List.length_nil, Nat.sub_self, List.replicate_zero, List.append_nil, List.nil_append, List.cons_append, List.replicate_succ, Nat.reduceSub, Nat.reduceAdd, retS, retN, ret1, setS, sto, stoO, freeAt, free_dv, dv_some, dv_none, free_d, free_n, free_o, plain_dv, plain_dd, plain_n, dropS, seqS, ifS, raiS, nextS, brkS, cntS, unpS, tpG, itsOf, bindAll, optO, nmG, augS, chE, bind_ok, bind_er, out_ok, out_er, seq_nx, seq_rt, seq_er, seq_bk, seq_ct, ite_and, ite_or, ite_and2, ite_or2, ite_andB, ite_orB, cE, varE, shE, shr, bi2, un1, opE, unE, rd, List.getElem?_cons_zero, List.getElem?_cons_succ, List.set_cons_zero, List.set_cons_succ, leD, ltD, gtD, geD, cmpD, eqD_str, neD_str, eqD_int, neD_int, inD_sign, isD, isNone, ifB, caE, consA, nilA, ca1, rdAll, dAll, lenD, intF, tupF, lstF, Option.map_some, Option.map_none, Option.bind_some, addD, intD, subI, modI, divI, adI, negD, mulD, revND, revD, tupE, lstE, mtE, okTy, isStr, isLst, stripF, callE, callI, truT, tru1, tru, truD, blT, notT, andT, orT, ifE, notE, andE, orE, if_true, Bool.not_true, Bool.not_false, Bool.true_and, Bool.and_true, Bool.false_and, Bool.or_false, Bool.false_or, Bool.true_or, Bool.or_true, Bool.and_false, Bool.false_xor, Bool.true_xor, slE, noP, someP, sl1, slD, seqI, its1, optI, forS, turn, lcE, wipeS, restS, plainAt, List.getD_cons_zero, List.getD_cons_succ, List.all_cons, List.all_nil, muE, mu1, lstAt, dArgs, appF, popF, rvsF, extF, rng1I, rng2I, enI, zipI, zip2, starA, subS, decide_true, decide_false, Int.reduceLT, Int.reduceLE, Nat.reduceLT, Nat.reduceLeDiff, true_and, and_true, Bool.false_eq_true, if_false, ite_true, ite_false, reduceIte, reduceCtorEq, Option.some.injEq, skeyE, st6, ← hJ, itl]
    exact e21
  have io := fun s => in_order_g (xs := S6) (by rw [l6]; decide) s
  obtain ⟨y5, r5⟩ : ∃ y, reprF [.list ((sortLL (sortL (onceL S6))).map .str)] = some (.d (.str y)) := by
    have mem : ∀ w ∈ sortLL (sortL (onceL S6)), w ∈ S6 := fun w mw => once_mem.mp ((sortL_perm _).mem_iff.mp ((List.mergeSort_perm _ leL).mem_iff.mp mw))
    have len : (sortLL (sortL (onceL S6))).length ≤ 6 := by
      have nd : (sortLL (sortL (onceL S6))).Nodup := (List.mergeSort_perm _ leL).nodup_iff.mpr ((sortL_perm _).nodup_iff.mpr (once_nd S6))
      have := nd_sub (sortLL (sortL (onceL S6))) S6 nd mem
      omega
    refine repr_of (Easy.list (n := 100) (k := 0) (m := 10000) (fun d md => ?_) (by rw [List.length_map]; omega)) (by decide) (by decide)
    obtain ⟨w, mw, rfl⟩ := List.mem_map.mp md
    have := t6 w (mem w mw)
    exact Easy.str this.2 (by have := this.1; omega)
  obtain ⟨B0, hB0⟩ : ∃ B, B = (sortLL (sortL (onceL S6))).map PyData.str := ⟨_, rfl⟩
  obtain ⟨I6, hI6⟩ : ∃ I, I = S6.map PyData.str := ⟨_, rfl⟩
  rw [← hB0] at h21 io r5
  rw [← hI6] at h19 h20 h21 io
  have h22 : T22 (Q0 ns ds8 k (some (.d (.str u))) (some (.d (.str v))) (some (.d (.int wr))) x6 (some (.o true (.L [.bool bu, .bool bv]))) (some (.o true (.L B0))) (some (.d (.int ((n : Nat) : Int)))) (some (.o true (.L I6))) x11 none) = .nx (Q0 ns ds8 k (some (.d (.str u))) (some (.d (.str v))) (some (.d (.int wr))) x6 (some (.o true (.L [.bool bu, .bool bv]))) (some (.o true (.L B0))) (some (.d (.int ((n : Nat) : Int)))) (some (.o true (.L I6))) x11 none) := by
    simp only [T22, Q0, Gv, Gio, ins, List.map_cons, List.map_nil, List.length_cons, List.length_nil, Nat.sub_self, List.replicate_zero, List.append_nil, List.nil_append, List.cons_append, List.replicate_succ, Nat.reduceSub, Nat.reduceAdd, retS, retN, ret1, setS, sto, stoO, freeAt, free_dv, dv_some, dv_none, free_d, free_n, free_o, plain_dv, plain_dd, plain_n, dropS, seqS, ifS, raiS, nextS, brkS, cntS, unpS, tpG, itsOf, bindAll, optO, nmG, augS, chE, bind_ok, bind_er, out_ok, out_er, seq_nx, seq_rt, seq_er, seq_bk, seq_ct, ite_and, ite_or, ite_and2, ite_or2, ite_andB, ite_orB, cE, varE, shE, shr, bi2, un1, opE, unE, rd, List.getElem?_cons_zero, List.getElem?_cons_succ, List.set_cons_zero, List.set_cons_succ, leD, ltD, gtD, geD, cmpD, eqD_str, neD_str, eqD_int, neD_int, inD_sign, isD, isNone, ifB, caE, consA, nilA, ca1, rdAll, dAll, lenD, intF, tupF, lstF, Option.map_some, Option.map_none, Option.bind_some, addD, intD, subI, modI, divI, adI, negD, mulD, revND, revD, tupE, lstE, mtE, okTy, isStr, isLst, stripF, callE, callI, truT, tru1, tru, truD, blT, notT, andT, orT, ifE, notE, andE, orE, if_true, Bool.not_true, Bool.not_false, Bool.true_and, Bool.and_true, Bool.false_and, Bool.or_false, Bool.false_or, Bool.true_or, Bool.or_true, Bool.and_false, Bool.false_xor, Bool.true_xor, slE, noP, someP, sl1, slD, seqI, its1, optI, forS, turn, lcE, wipeS, restS, plainAt, List.getD_cons_zero, List.getD_cons_succ, List.all_cons, List.all_nil, muE, mu1, lstAt, dArgs, appF, popF, rvsF, extF, rng1I, rng2I, enI, zipI, zip2, starA, subS, decide_true, decide_false, Int.reduceLT, Int.reduceLE, Nat.reduceLT, Nat.reduceLeDiff, true_and, and_true, Bool.false_eq_true, if_false, ite_true, ite_false, reduceIte, reduceCtorEq, Option.some.injEq, lfL, io, r5, nf9]
  -- what they have in common
  obtain ⟨mn, hmn⟩ : ∃ m : Nat, m = min u.length v.length := ⟨_, rfl⟩
  have mf : minF [.int ((u.length : Nat) : Int), .int ((v.length : Nat) : Int)] = some (.d (.int ((mn : Nat) : Int))) := by
    show some (Vl.d (.int (if ((v.length : Nat) : Int) < ((u.length : Nat) : Int) then ((v.length : Nat) : Int) else ((u.length : Nat) : Int)))) = _
    split <;> (congr 3; omega)
  obtain ⟨cp, hcp⟩ : ∃ c, c = cpre u.cps.toList v.cps.toList := ⟨_, rfl⟩
  have cle := cpre_le u.cps.toList v.cps.toList
  have lu' : u.cps.toList.length = u.length := Array.length_toList
  have lv' : v.cps.toList.length = v.length := Array.length_toList
  rw [← hcp, lu', lv'] at cle
  have lc : lcL (nmG 13) (blT (opE eqD (slE (varE 3) noP (someP (opE addD (varE 13) (cE (.int 1))))) (slE (varE 4) noP (someP (opE addD (varE 13) (cE (.int 1))))))) (shE (varE 13)) [13] ((List.range mn).map fun j : Nat => PyData.int ((j : Nat) : Int)) [] (Q0 ns ds8 k (some (.d (.str u))) (some (.d (.str v))) (some (.d (.int wr))) x6 (some (.o true (.L [.bool bu, .bool bv]))) (some (.o true (.L B0))) (some (.d (.int ((n : Nat) : Int)))) (some (.o true (.L I6))) x11 none) =
      .ok (.o true (.L ([] ++ ((List.range mn).filter fun j => decide (j < cp)).map fun j : Nat => PyData.int ((j : Nat) : Int)))) (Q0 ns ds8 k (some (.d (.str u))) (some (.d (.str v))) (some (.d (.int wr))) x6 (some (.o true (.L [.bool bu, .bool bv]))) (some (.o true (.L B0))) (some (.d (.int ((n : Nat) : Int)))) (some (.o true (.L I6))) x11 none) := by
    refine lcL_p (i := fun j : Nat => PyData.int ((j : Nat) : Int)) (f := fun j : Nat => PyData.int ((j : Nat) : Int)) (P := fun j => decide (j < cp)) (by rw [List.length_range]; show 0 + mn ≤ _; omega) fun j mj => ?_
    have jm := List.mem_range.mp mj
    have ej : decide (cutS u none (some (((j : Nat) : Int) + 1)) = cutS v none (some (((j : Nat) : Int) + 1))) = decide (j < cp) := by
      have e1 := cutS_take u (j + 1)
      have e2 := cutS_take v (j + 1)
      have ec : ((j + 1 : Nat) : Int) = ((j : Nat) : Int) + 1 := by omega
      rw [ec] at e1 e2
      rw [e1, e2]
      refine decide_eq_decide.mpr ?_
      rw [hcp, ← take_cpre j u.cps.toList v.cps.toList (by omega) (by omega)]
      constructor
      · intro e
        have := congrArg (fun t : Str => t.cps.toList) e
        simpa [tx_list] using this
      · intro e
        rw [e]
    obtain ⟨b, hb⟩ : ∃ b, b = decide (j < cp) := ⟨_, rfl⟩
    rw [← hb] at ej ⊢
    refine ⟨[some (.s ns), some (.o true (.L ds8)), some (.d (.int k)), some (.d (.str u)), some (.d (.str v)), some (.d (.int wr)), dv x6, some (.o true (.L [.bool bu, .bool bv])), some (.o true (.L B0)), some (.d (.int ((n : Nat) : Int))), some (.o true (.L I6)), dv x11, none, some (.d (.int ((j : Nat) : Int)))], ?_, ?_, ?_, fun _ => ?_⟩
    · simp only [Q0, Gv, Gio, ins, List.map_cons, List.map_nil, List.length_cons, List.length_nil, Nat.sub_self, List.replicate_zero, List.append_nil, List.nil_append, List.cons_append, List.replicate_succ, Nat.reduceSub, Nat.reduceAdd, retS, retN, ret1, setS, sto, stoO, freeAt, free_dv, dv_some, dv_none, free_d, free_n, free_o, plain_dv, plain_dd, plain_n, dropS, seqS, ifS, raiS, nextS, brkS, cntS, unpS, tpG, itsOf, bindAll, optO, nmG, augS, chE, bind_ok, bind_er, out_ok, out_er, seq_nx, seq_rt, seq_er, seq_bk, seq_ct, ite_and, ite_or, ite_and2, ite_or2, ite_andB, ite_orB, cE, varE, shE, shr, bi2, un1, opE, unE, rd, List.getElem?_cons_zero, List.getElem?_cons_succ, List.set_cons_zero, List.set_cons_succ, leD, ltD, gtD, geD, cmpD, eqD_str, neD_str, eqD_int, neD_int, inD_sign, isD, isNone, ifB, caE, consA, nilA, ca1, rdAll, dAll, lenD, intF, tupF, lstF, Option.map_some, Option.map_none, Option.bind_some, addD, intD, subI, modI, divI, adI, negD, mulD, revND, revD, tupE, lstE, mtE, okTy, isStr, isLst, stripF, callE, callI, truT, tru1, tru, truD, blT, notT, andT, orT, ifE, notE, andE, orE, if_true, Bool.not_true, Bool.not_false, Bool.true_and, Bool.and_true, Bool.false_and, Bool.or_false, Bool.false_or, Bool.true_or, Bool.or_true, Bool.and_false, Bool.false_xor, Bool.true_xor, slE, noP, someP, sl1, slD, seqI, its1, optI, forS, turn, lcE, wipeS, restS, plainAt, List.getD_cons_zero, List.getD_cons_succ, List.all_cons, List.all_nil, muE, mu1, lstAt, dArgs, appF, popF, rvsF, extF, rng1I, rng2I, enI, zipI, zip2, starA, subS, decide_true, decide_false, Int.reduceLT, Int.reduceLE, Nat.reduceLT, Nat.reduceLeDiff, true_and, and_true, Bool.false_eq_true, if_false, ite_true, ite_false, reduceIte, reduceCtorEq, Option.some.injEq, free_n]
    · simp only [Q0, Gv, Gio, ins, List.map_cons, List.map_nil, List.length_cons, List.length_nil, Nat.sub_self, List.replicate_zero, List.append_nil, List.nil_append, List.cons_append, List.replicate_succ, Nat.reduceSub, Nat.reduceAdd, retS, retN, ret1, setS, sto, stoO, freeAt, free_dv, dv_some, dv_none, free_d, free_n, free_o, plain_dv, plain_dd, plain_n, dropS, seqS, ifS, raiS, nextS, brkS, cntS, unpS, tpG, itsOf, bindAll, optO, nmG, augS, chE, bind_ok, bind_er, out_ok, out_er, seq_nx, seq_rt, seq_er, seq_bk, seq_ct, ite_and, ite_or, ite_and2, ite_or2, ite_andB, ite_orB, cE, varE, shE, shr, bi2, un1, opE, unE, rd, List.getElem?_cons_zero, List.getElem?_cons_succ, List.set_cons_zero, List.set_cons_succ, leD, ltD, gtD, geD, cmpD, eqD_str, neD_str, eqD_int, neD_int, inD_sign, isD, isNone, ifB, caE, consA, nilA, ca1, rdAll, dAll, lenD, intF, tupF, lstF, Option.map_some, Option.map_none, Option.bind_some, addD, intD, subI, modI, divI, adI, negD, mulD, revND, revD, tupE, lstE, mtE, okTy, isStr, isLst, stripF, callE, callI, truT, tru1, tru, truD, blT, notT, andT, orT, ifE, notE, andE, orE, if_true, Bool.not_true, Bool.not_false, Bool.true_and, Bool.and_true, Bool.false_and, Bool.or_false, Bool.false_or, Bool.true_or, Bool.or_true, Bool.and_false, Bool.false_xor, Bool.true_xor, slE, noP, someP, sl1, slD, seqI, its1, optI, forS, turn, lcE, wipeS, restS, plainAt, List.getD_cons_zero, List.getD_cons_succ, List.all_cons, List.all_nil, muE, mu1, lstAt, dArgs, appF, popF, rvsF, extF, rng1I, rng2I, enI, zipI, zip2, starA, subS, decide_true, decide_false, Int.reduceLT, Int.reduceLE, Nat.reduceLT, Nat.reduceLeDiff, true_and, and_true, Bool.false_eq_true, if_false, ite_true, ite_false, reduceIte, reduceCtorEq, Option.some.injEq]
    · simp only [Gv, Gio, ins, List.map_cons, List.map_nil, List.length_cons, List.length_nil, Nat.sub_self, List.replicate_zero, List.append_nil, List.nil_append, List.cons_append, List.replicate_succ, Nat.reduceSub, Nat.reduceAdd, retS, retN, ret1, setS, sto, stoO, freeAt, free_dv, dv_some, dv_none, free_d, free_n, free_o, plain_dv, plain_dd, plain_n, dropS, seqS, ifS, raiS, nextS, brkS, cntS, unpS, tpG, itsOf, bindAll, optO, nmG, augS, chE, bind_ok, bind_er, out_ok, out_er, seq_nx, seq_rt, seq_er, seq_bk, seq_ct, ite_and, ite_or, ite_and2, ite_or2, ite_andB, ite_orB, cE, varE, shE, shr, bi2, un1, opE, unE, rd, List.getElem?_cons_zero, List.getElem?_cons_succ, List.set_cons_zero, List.set_cons_succ, leD, ltD, gtD, geD, cmpD, eqD_str, neD_str, eqD_int, neD_int, inD_sign, isD, isNone, ifB, caE, consA, nilA, ca1, rdAll, dAll, lenD, intF, tupF, lstF, Option.map_some, Option.map_none, Option.bind_some, addD, intD, subI, modI, divI, adI, negD, mulD, revND, revD, tupE, lstE, mtE, okTy, isStr, isLst, stripF, callE, callI, truT, tru1, tru, truD, blT, notT, andT, orT, ifE, notE, andE, orE, if_true, Bool.not_true, Bool.not_false, Bool.true_and, Bool.and_true, Bool.false_and, Bool.or_false, Bool.false_or, Bool.true_or, Bool.or_true, Bool.and_false, Bool.false_xor, Bool.true_xor, slE, noP, someP, sl1, slD, seqI, its1, optI, forS, turn, lcE, wipeS, restS, plainAt, List.getD_cons_zero, List.getD_cons_succ, List.all_cons, List.all_nil, muE, mu1, lstAt, dArgs, appF, popF, rvsF, extF, rng1I, rng2I, enI, zipI, zip2, starA, subS, decide_true, decide_false, Int.reduceLT, Int.reduceLE, Nat.reduceLT, Nat.reduceLeDiff, true_and, and_true, Bool.false_eq_true, if_false, ite_true, ite_false, reduceIte, reduceCtorEq, Option.some.injEq, ej]
    · simp only [Gv, Gio, ins, List.map_cons, List.map_nil, List.length_cons, List.length_nil, Nat.sub_self, List.replicate_zero, List.append_nil, List.nil_append, List.cons_append, List.replicate_succ, Nat.reduceSub, Nat.reduceAdd, retS, retN, ret1, setS, sto, stoO, freeAt, free_dv, dv_some, dv_none, free_d, free_n, free_o, plain_dv, plain_dd, plain_n, dropS, seqS, ifS, raiS, nextS, brkS, cntS, unpS, tpG, itsOf, bindAll, optO, nmG, augS, chE, bind_ok, bind_er, out_ok, out_er, seq_nx, seq_rt, seq_er, seq_bk, seq_ct, ite_and, ite_or, ite_and2, ite_or2, ite_andB, ite_orB, cE, varE, shE, shr, bi2, un1, opE, unE, rd, List.getElem?_cons_zero, List.getElem?_cons_succ, List.set_cons_zero, List.set_cons_succ, leD, ltD, gtD, geD, cmpD, eqD_str, neD_str, eqD_int, neD_int, inD_sign, isD, isNone, ifB, caE, consA, nilA, ca1, rdAll, dAll, lenD, intF, tupF, lstF, Option.map_some, Option.map_none, Option.bind_some, addD, intD, subI, modI, divI, adI, negD, mulD, revND, revD, tupE, lstE, mtE, okTy, isStr, isLst, stripF, callE, callI, truT, tru1, tru, truD, blT, notT, andT, orT, ifE, notE, andE, orE, if_true, Bool.not_true, Bool.not_false, Bool.true_and, Bool.and_true, Bool.false_and, Bool.or_false, Bool.false_or, Bool.true_or, Bool.or_true, Bool.and_false, Bool.false_xor, Bool.true_xor, slE, noP, someP, sl1, slD, seqI, its1, optI, forS, turn, lcE, wipeS, restS, plainAt, List.getD_cons_zero, List.getD_cons_succ, List.all_cons, List.all_nil, muE, mu1, lstAt, dArgs, appF, popF, rvsF, extF, rng1I, rng2I, enI, zipI, zip2, starA, subS, decide_true, decide_false, Int.reduceLT, Int.reduceLE, Nat.reduceLT, Nat.reduceLeDiff, true_and, and_true, Bool.false_eq_true, if_false, ite_true, ite_false, reduceIte, reduceCtorEq, Option.some.injEq]
  rw [List.nil_append] at lc
  have fl : (((List.range mn).filter fun j => decide (j < cp)).map fun j : Nat => PyData.int ((j : Nat) : Int)).length = cp := by
    rw [List.length_map, count_lt]
    omega
  obtain ⟨FL, hFL⟩ : ∃ F, F = ((List.range mn).filter fun j => decide (j < cp)).map fun j : Nat => PyData.int ((j : Nat) : Int) := ⟨_, rfl⟩
  rw [← hFL] at lc fl
  have hsm : smI ((mn : Nat) : Int) = true := smI_of (by omega) (by omega)
  have h23 : T23 (Q0 ns ds8 k (some (.d (.str u))) (some (.d (.str v))) (some (.d (.int wr))) x6 (some (.o true (.L [.bool bu, .bool bv]))) (some (.o true (.L B0))) (some (.d (.int ((n : Nat) : Int)))) (some (.o true (.L I6))) x11 none) = .nx (Q0 ns ds8 k (some (.d (.str u))) (some (.d (.str v))) (some (.d (.int wr))) x6 (some (.o true (.L [.bool bu, .bool bv]))) (some (.o true (.L B0))) (some (.d (.int ((n : Nat) : Int)))) (some (.o true (.L I6))) x11 (some (.d (.int ((cp : Nat) : Int))))) := by
    simp only [Q0] at lc ⊢
    simp only [T23, Gv, Gio, ins, List.map_cons, List.map_nil, List.length_cons, List.length_nil, Nat.sub_self, List.replicate_zero, List.append_nil, List.nil_append, List.cons_append, List.replicate_succ, Nat.reduceSub, Nat.reduceAdd, retS, retN, ret1, setS, sto, stoO, freeAt, free_dv, dv_some, dv_none, free_d, free_n, free_o, plain_dv, plain_dd, plain_n, dropS, seqS, ifS, raiS, nextS, brkS, cntS, unpS, tpG, itsOf, bindAll, optO, nmG, augS, chE, bind_ok, bind_er, out_ok, out_er, seq_nx, seq_rt, seq_er, seq_bk, seq_ct, ite_and, ite_or, ite_and2, ite_or2, ite_andB, ite_orB, cE, varE, shE, shr, bi2, un1, opE, unE, rd, List.getElem?_cons_zero, List.getElem?_cons_succ, List.set_cons_zero, List.set_cons_succ, leD, ltD, gtD, geD, cmpD, eqD_str, neD_str, eqD_int, neD_int, inD_sign, isD, isNone, ifB, caE, consA, nilA, ca1, rdAll, dAll, lenD, intF, tupF, lstF, Option.map_some, Option.map_none, Option.bind_some, addD, intD, subI, modI, divI, adI, negD, mulD, revND, revD, tupE, lstE, mtE, okTy, isStr, isLst, stripF, callE, callI, truT, tru1, tru, truD, blT, notT, andT, orT, ifE, notE, andE, orE, if_true, Bool.not_true, Bool.not_false, Bool.true_and, Bool.and_true, Bool.false_and, Bool.or_false, Bool.false_or, Bool.true_or, Bool.or_true, Bool.and_false, Bool.false_xor, Bool.true_xor, slE, noP, someP, sl1, slD, seqI, its1, optI, forS, turn, lcE, wipeS, restS, plainAt, List.getD_cons_zero, List.getD_cons_succ, List.all_cons, List.all_nil, muE, mu1, lstAt, dArgs, appF, popF, rvsF, extF, rng1I, rng2I, enI, zipI, zip2, starA, subS, decide_true, decide_false, Int.reduceLT, Int.reduceLE, Nat.reduceLT, Nat.reduceLeDiff, true_and, and_true, Bool.false_eq_true, if_false, ite_true, ite_false, reduceIte, reduceCtorEq, Option.some.injEq, mf, hsm, rng_zero, Int.toNat_natCast]
    rw [lc]
    simp only [Gv, Gio, ins, List.map_cons, List.map_nil, List.length_cons, List.length_nil, Nat.sub_self, List.replicate_zero, List.append_nil, List.nil_append, List.cons_append, List.replicate_succ, Nat.reduceSub, Nat.reduceAdd, retS, retN, ret1, setS, sto, stoO, freeAt, free_dv, dv_some, dv_none, free_d, free_n, free_o, plain_dv, plain_dd, plain_n, dropS, seqS, ifS, raiS, nextS, brkS, cntS, unpS, tpG, itsOf, bindAll, optO, nmG, augS, chE, bind_ok, bind_er, out_ok, out_er, seq_nx, seq_rt, seq_er, seq_bk, seq_ct, ite_and, ite_or, ite_and2, ite_or2, ite_andB, ite_orB, cE, varE, shE, shr, bi2, un1, opE, unE, rd, List.getElem?_cons_zero, List.getElem?_cons_succ, List.set_cons_zero, List.set_cons_succ, leD, ltD, gtD, geD, cmpD, eqD_str, neD_str, eqD_int, neD_int, inD_sign, isD, isNone, ifB, caE, consA, nilA, ca1, rdAll, dAll, lenD, intF, tupF, lstF, Option.map_some, Option.map_none, Option.bind_some, addD, intD, subI, modI, divI, adI, negD, mulD, revND, revD, tupE, lstE, mtE, okTy, isStr, isLst, stripF, callE, callI, truT, tru1, tru, truD, blT, notT, andT, orT, ifE, notE, andE, orE, if_true, Bool.not_true, Bool.not_false, Bool.true_and, Bool.and_true, Bool.false_and, Bool.or_false, Bool.false_or, Bool.true_or, Bool.or_true, Bool.and_false, Bool.false_xor, Bool.true_xor, slE, noP, someP, sl1, slD, seqI, its1, optI, forS, turn, lcE, wipeS, restS, plainAt, List.getD_cons_zero, List.getD_cons_succ, List.all_cons, List.all_nil, muE, mu1, lstAt, dArgs, appF, popF, rvsF, extF, rng1I, rng2I, enI, zipI, zip2, starA, subS, decide_true, decide_false, Int.reduceLT, Int.reduceLE, Nat.reduceLT, Nat.reduceLeDiff, true_and, and_true, Bool.false_eq_true, if_false, ite_true, ite_false, reduceIte, reduceCtorEq, Option.some.injEq, fl]
  have cc := fun s => common_c u v s
  rw [← hcp] at cc
  have h24 : T24 (Q0 ns ds8 k (some (.d (.str u))) (some (.d (.str v))) (some (.d (.int wr))) x6 (some (.o true (.L [.bool bu, .bool bv]))) (some (.o true (.L B0))) (some (.d (.int ((n : Nat) : Int)))) (some (.o true (.L I6))) x11 (some (.d (.int ((cp : Nat) : Int))))) = .rt (.d (.bool true)) (Q0 ns ds8 k (some (.d (.str u))) (some (.d (.str v))) (some (.d (.int wr))) x6 (some (.o true (.L [.bool bu, .bool bv]))) (some (.o true (.L B0))) (some (.d (.int ((n : Nat) : Int)))) (some (.o true (.L I6))) x11 (some (.d (.int ((cp : Nat) : Int))))) := by
    obtain ⟨C0, hC0⟩ : ∃ C, C = cutS u none (some ((cp : Nat) : Int)) := ⟨_, rfl⟩
    rw [← hC0] at cc
    have ec := ef9 C0
    simp only [T24, Q0, Gv, Gio, ins, List.map_cons, List.map_nil, List.length_cons, List.length_nil, Nat.sub_self, List.replicate_zero, List.append_nil, List.nil_append, List.cons_append, List.replicate_succ, Nat.reduceSub, Nat.reduceAdd, retS, retN, ret1, setS, sto, stoO, freeAt, free_dv, dv_some, dv_none, free_d, free_n, free_o, plain_dv, plain_dd, plain_n, dropS, seqS, ifS, raiS, nextS, brkS, cntS, unpS, tpG, itsOf, bindAll, optO, nmG, augS, chE, bind_ok, bind_er, out_ok, out_er, seq_nx, seq_rt, seq_er, seq_bk, seq_ct, ite_and, ite_or, ite_and2, ite_or2, ite_andB, ite_orB, cE, varE, shE, shr, bi2, un1, opE, unE, rd, List.getElem?_cons_zero, List.getElem?_cons_succ, List.set_cons_zero, List.set_cons_succ, leD, ltD, gtD, geD, cmpD, eqD_str, neD_str, eqD_int, neD_int, inD_sign, isD, isNone, ifB, caE, consA, nilA, ca1, rdAll, dAll, lenD, intF, tupF, lstF, Option.map_some, Option.map_none, Option.bind_some, addD, intD, subI, modI, divI, adI, negD, mulD, revND, revD, tupE, lstE, mtE, okTy, isStr, isLst, stripF, callE, callI, truT, tru1, tru, truD, blT, notT, andT, orT, ifE, notE, andE, orE, if_true, Bool.not_true, Bool.not_false, Bool.true_and, Bool.and_true, Bool.false_and, Bool.or_false, Bool.false_or, Bool.true_or, Bool.or_true, Bool.and_false, Bool.false_xor, Bool.true_xor, slE, noP, someP, sl1, slD, seqI, its1, optI, forS, turn, lcE, wipeS, restS, plainAt, List.getD_cons_zero, List.getD_cons_succ, List.all_cons, List.all_nil, muE, mu1, lstAt, dArgs, appF, popF, rvsF, extF, rng1I, rng2I, enI, zipI, zip2, starA, subS, decide_true, decide_false, Int.reduceLT, Int.reduceLE, Nat.reduceLT, Nat.reduceLeDiff, true_and, and_true, Bool.false_eq_true, if_false, ite_true, ite_false, reduceIte, reduceCtorEq, Option.some.injEq, cc, ← hC0, ec]
  rw [b_law_eq, n13]
  refine ⟨Q0 ns ds8 k (some (.d (.str u))) (some (.d (.str v))) (some (.d (.int wr))) x6 (some (.o true (.L [.bool bu, .bool bv]))) (some (.o true (.L B0))) (some (.d (.int ((n : Nat) : Int)))) (some (.o true (.L I6))) x11 (some (.d (.int ((cp : Nat) : Int)))), ?_⟩
  refine (sqM h1).trans ?_
  refine (sqM h2).trans ?_
  refine (sqM h3).trans ?_
  refine (sqM h4).trans ?_
  refine (sqM h5).trans ?_
  refine (sqM hu).trans ?_
  refine (sqM h7).trans ?_
  refine (sqM h8).trans ?_
  refine (sqM h9).trans ?_
  refine (sqM h10).trans ?_
  refine (sqM h11).trans ?_
  refine (sqM h12).trans ?_
  refine (sqM h13).trans ?_
  refine (sqM h14).trans ?_
  refine (sqM h15).trans ?_
  refine (sqM h16).trans ?_
  refine (sqM h17).trans ?_
  refine (sqM h18).trans ?_
  refine (sqM h19).trans ?_
  refine (sqM h20).trans ?_
  refine (sqM h21).trans ?_
  refine (sqM h22).trans ?_
  refine (sqM h23).trans ?_
  exact h24
end K
set_option Elab.async false
set_option linter.all false
set_option maxRecDepth 100000
set_option maxHeartbeats 4000000
namespace K
open PySem PySem.Spec PyProof.Rows L2 Sv M
def top (i : Nat) : Stmt := PySem.Challenge.pw_soundturns_k00_words_and_their_order.main.body.getD i (.Pass ⟨0, 0, 0, 0⟩)
structure Tops (K : PySem.W.Frag) (mg : Str → Option Value) : Prop where
  c_LEAST_LETTERS : ∃ u, mg "LEAST_LETTERS" = some u ∧ RelV (.int 2) u
  c_LETTERS : ∃ u, mg "LETTERS" = some u ∧ RelV (.str "abcdef") u
  c_LONGEST : ∃ u, mg "LONGEST" = some u ∧ RelV (.int 60) u
  c_MOST_LISTED : ∃ u, mg "MOST_LISTED" = some u ∧ RelV (.int 4096) u
  f_all : mg "all" = none
  f_int : mg "int" = none
  f_isinstance : mg "isinstance" = none
  f_len : mg "len" = none
  f_list : mg "list" = none
  f_min : mg "min" = none
  f_range : mg "range" = none
  f_repr : mg "repr" = none
  f_set : mg "set" = none
  f_sorted : mg "sorted" = none
  f_zip : mg "zip" = none
  e_ShiftError : ExcF K mg "ShiftError"
  e_NotWord : ExcF K mg "NotWord"
  e_BadNumber : ExcF K mg "BadNumber"
  x_kit : kitsB K tabY = true
  x_exm : exmsB K tabY = true
section
variable {P : Program} [Wd] {K : PySem.W.Frag} {mg : Str → Option Value} {base : Heap} {f : Addr} {fd : FuncData}
abbrev s_is_number_of_letters : Stmt := top 9
theorem sc_is_number_of_letters : FnScope ["k"] ["k"] (defScope s_is_number_of_letters) := ⟨rfl, rfl, rfl, by decide +kernel, rfl, by decide +kernel, by decide +kernel⟩
theorem ok_is_number_of_letters (T : Tops K mg) (F : Fun K "is_number_of_letters" "is_number_of_letters" s_is_number_of_letters f fd) : FnOk P Wd.w K mg base (L2N.CX P Wd.w) 1 f fd ["k"] (spF K 1 F_is_number_of_letters) :=
  okN F sc_is_number_of_letters rfl fun cdv A outer s H E hr => (rs_one (rs_ret (re_chain op_le of_le op_le of_le (re_c (pe_gl rfl T.c_LEAST_LETTERS) fun _ => .int _) (re_var (pv 0)) (re_callB cr_lenK ca_len rfl T.f_len boot_len (ra_cons (re_c (pe_gl rfl T.c_LETTERS) fun _ => .str (by rw [sizeLine_eq]; decide +kernel)) ra_nil)))))
abbrev s_check_number : Stmt := top 10
theorem sc_check_number : FnScope ["k"] ["k"] (defScope s_check_number) := ⟨rfl, rfl, rfl, by decide +kernel, rfl, by decide +kernel, by decide +kernel⟩
theorem ok_check_number (T : Tops K mg) (C_is_number_of_letters : CalN P Wd.w K mg base 1 "is_number_of_letters" (spF K 1 F_is_number_of_letters)) (F : Fun K "check_number" "check_number" s_check_number f fd) : FnOk P Wd.w K mg base (L2N.CX P Wd.w) 2 f fd ["k"] (spF K 1 F_check_number) :=
  okN F sc_check_number rfl fun cdv A outer s H E hr => (rs_one (rs_if (rt_not (rt_tru rfl (re_call C_is_number_of_letters (hr.mono (by decide)) rfl (L2N.takes_of rfl rfl rfl rfl) (ra_cons (re_sh (re_var (pv 0))) ra_nil)) (fun _ => rfl))) (rs_one (rs_raise T.e_BadNumber rfl (L2N.takes_of rfl rfl rfl rfl) rfl)) rs_nil))
abbrev s_letters_of : Stmt := top 11
theorem sc_letters_of : FnScope ["k"] ["k"] (defScope s_letters_of) := ⟨rfl, rfl, rfl, by decide +kernel, rfl, by decide +kernel, by decide +kernel⟩
theorem ok_letters_of (T : Tops K mg) (C_check_number : CalN P Wd.w K mg base 2 "check_number" (spF K 1 F_check_number)) (F : Fun K "letters_of" "letters_of" s_letters_of f fd) : FnOk P Wd.w K mg base (L2N.CX P Wd.w) 3 f fd ["k"] (spF K 1 F_letters_of) :=
  okN F sc_letters_of rfl fun cdv A outer s H E hr => (rs_cons (rs_expr (re_call C_check_number (hr.mono (by decide)) rfl (L2N.takes_of rfl rfl rfl rfl) (ra_cons (re_sh (re_var (pv 0))) ra_nil)))
 (rs_one (rs_ret (re_slice rfl (re_c (pe_gl rfl T.c_LETTERS) fun _ => .str (by rw [sizeLine_eq]; decide +kernel)) ro_none (ro_some (re_var (pv 0)))))))
abbrev s_is_word : Stmt := top 12
theorem sc_is_word : FnScope ["k", "word", "letters"] ["k", "word"] (defScope s_is_word) := ⟨rfl, rfl, rfl, by decide +kernel, rfl, by decide +kernel, by decide +kernel⟩
theorem ok_is_word (T : Tops K mg) (C_letters_of : CalN P Wd.w K mg base 3 "letters_of" (spF K 1 F_letters_of)) (F : Fun K "is_word" "is_word" s_is_word f fd) : FnOk P Wd.w K mg base (L2N.CX P Wd.w) 4 f fd ["k", "word"] (spF K 2 F_is_word) :=
  okN F sc_is_word rfl fun cdv A outer s H E hr => (rs_cons (rs_set (i := 2) sc_is_word.nd rfl (Or.inl rfl) (re_call C_letters_of (hr.mono (by decide)) rfl (L2N.takes_of rfl rfl rfl rfl) (ra_cons (re_sh (re_var (pv 0))) ra_nil)))
 (rs_one (rs_ret (re_and rfl (re_cmp op_le of_le (re_callB cr_lenK ca_len rfl T.f_len boot_len (ra_cons (re_var (pv 1)) ra_nil)) (re_c (pe_gl rfl T.c_LONGEST) fun _ => .int _) (nomark _)) (re_one (re_cmp (op_eqU (hu64 hr)) of_eq (re_mt rfl PySem.F.plainAttrs_str PySem.F.slot_str_strip PySem.F.type_str_strip mt_stripChars ca_strip ty_str (re_var (pv 1)) (ra_cons (re_var (pv 2)) ra_nil)) re_str (nomark _)))))))
abbrev s_check_word : Stmt := top 13
theorem sc_check_word : FnScope ["k", "word"] ["k", "word"] (defScope s_check_word) := ⟨rfl, rfl, rfl, by decide +kernel, rfl, by decide +kernel, by decide +kernel⟩
theorem ok_check_word (T : Tops K mg) (C_is_word : CalN P Wd.w K mg base 4 "is_word" (spF K 2 F_is_word)) (F : Fun K "check_word" "check_word" s_check_word f fd) : FnOk P Wd.w K mg base (L2N.CX P Wd.w) 5 f fd ["k", "word"] (spF K 2 F_check_word) :=
  okN F sc_check_word rfl fun cdv A outer s H E hr => (rs_one (rs_if (rt_not (rt_tru rfl (re_call C_is_word (hr.mono (by decide)) rfl (L2N.takes_of rfl rfl rfl rfl) (ra_cons (re_sh (re_var (pv 0))) (ra_cons (re_sh (re_var (pv 1))) ra_nil))) (fun _ => rfl))) (rs_one (rs_raise T.e_NotWord rfl (L2N.takes_of rfl rfl rfl rfl) rfl)) rs_nil))
abbrev s_is_before : Stmt := top 14
theorem sc_is_before : FnScope ["k", "one", "other"] ["k", "one", "other"] (defScope s_is_before) := ⟨rfl, rfl, rfl, by decide +kernel, rfl, by decide +kernel, by decide +kernel⟩
theorem ok_is_before (T : Tops K mg) (C_check_word : CalN P Wd.w K mg base 5 "check_word" (spF K 2 F_check_word)) (F : Fun K "is_before" "is_before" s_is_before f fd) : FnOk P Wd.w K mg base (L2N.CX P Wd.w) 6 f fd ["k", "one", "other"] (spF K 3 F_is_before) :=
  okN F sc_is_before rfl fun cdv A outer s H E hr => (rs_cons (rs_expr (re_call C_check_word (hr.mono (by decide)) rfl (L2N.takes_of rfl rfl rfl rfl) (ra_cons (re_sh (re_var (pv 0))) (ra_cons (re_sh (re_var (pv 1))) ra_nil))))
 (rs_cons (rs_expr (re_call C_check_word (hr.mono (by decide)) rfl (L2N.takes_of rfl rfl rfl rfl) (ra_cons (re_sh (re_var (pv 0))) (ra_cons (re_sh (re_var (pv 2))) ra_nil))))
 (rs_one (rs_ret (re_cmp (op_ltA (hu64 hr)) of_ltA (re_tup (ra_cons (re_callB cr_lenK ca_len rfl T.f_len boot_len (ra_cons (re_var (pv 1)) ra_nil)) (ra_cons (re_sh (re_var (pv 1))) ra_nil))) (re_tup (ra_cons (re_callB cr_lenK ca_len rfl T.f_len boot_len (ra_cons (re_var (pv 2)) ra_nil)) (ra_cons (re_sh (re_var (pv 2))) ra_nil))) (nomark _))))))
abbrev s_in_order : Stmt := top 15
theorem sc_in_order : FnScope ["words"] ["words"] (defScope s_in_order) := ⟨rfl, rfl, rfl, by decide +kernel, rfl, by decide +kernel, by decide +kernel⟩
theorem ok_in_order (T : Tops K mg) (F : Fun K "in_order" "in_order" s_in_order f fd) : FnOk P Wd.w K mg base (L2N.CX P Wd.w) 1 f fd ["words"] (spF K 1 F_in_order) :=
  okN F sc_in_order rfl fun cdv A outer s H E hr => (rs_one (rs_ret (re_slen (hu64 hr) rfl T.f_sorted rfl T.f_len (re_sset rfl (hu64 hr) rfl T.f_sorted rfl T.f_set (re_sh (re_var (pv 0)))))))
abbrev s_has_at_most : Stmt := top 16
theorem sc_has_at_most : FnScope ["k", "length", "most", "many", "_"] ["k", "length", "most"] (defScope s_has_at_most) := ⟨rfl, rfl, rfl, by decide +kernel, rfl, by decide +kernel, by decide +kernel⟩
theorem ok_has_at_most (T : Tops K mg) (F : Fun K "_has_at_most" "_has_at_most" s_has_at_most f fd) : FnOk P Wd.w K mg base (L2N.CX P Wd.w) 1 f fd ["k", "length", "most"] (spF K 3 F_has_at_most) :=
  okN F sc_has_at_most rfl fun cdv A outer s H E hr => (rs_cons (rs_set (i := 3) sc_has_at_most.nd rfl (Or.inl rfl) re_int)
 (rs_cons (rs_for (passes_of rfl) rfl (ri_rng1 rfl T.f_range (ra_cons (re_var (pv 1)) ra_nil)) (rg_name (i := 4) sc_has_at_most.nd rfl (Or.inl rfl))
 (rs_cons (rs_aug (i := 3) ip_mulI of_imul sc_has_at_most.nd rfl (Or.inl rfl) (re_var (pv 0)))
 (rs_one (rs_if (rt_cmp op_gt of_gt (re_var (pv 3)) (re_var (pv 2)) (nomark _)) (rs_one (rs_ret re_bl)) rs_nil))))
 (rs_one (rs_ret re_bl))))
abbrev s_words_of_length : Stmt := top 17
theorem sc_words_of_length : FnScope ["k", "length", "letters", "words", "_", "word", "letter"] ["k", "length"] (defScope s_words_of_length) := ⟨rfl, rfl, rfl, by decide +kernel, rfl, by decide +kernel, by decide +kernel⟩
theorem ok_words_of_length (T : Tops K mg) (C_has_at_most : CalN P Wd.w K mg base 1 "_has_at_most" (spF K 3 F_has_at_most)) (C_letters_of : CalN P Wd.w K mg base 3 "letters_of" (spF K 1 F_letters_of)) (F : Fun K "words_of_length" "words_of_length" s_words_of_length f fd) : FnOk P Wd.w K mg base (L2N.CX P Wd.w) 4 f fd ["k", "length"] (spF K 2 F_words_of_length) :=
  okN F sc_words_of_length rfl fun cdv A outer s H E hr => (rs_cons (rs_set (i := 2) sc_words_of_length.nd rfl (Or.inr rfl) (re_call C_letters_of (hr.mono (by decide)) rfl (L2N.takes_of rfl rfl rfl rfl) (ra_cons (re_sh (re_var (pv 0))) ra_nil)))
 (rs_cons (rs_if (rt_cmp op_ltU of_lt (re_var (pv 1)) re_int (nomark _)) (rs_one (rs_raise T.e_BadNumber rfl (L2N.takes_of rfl rfl rfl rfl) rfl)) rs_nil)
 (rs_cons (rs_if (rt_not (rt_tru rfl (re_call C_has_at_most (hr.mono (by decide)) rfl (L2N.takes_of rfl rfl rfl rfl) (ra_cons (re_sh (re_var (pv 0))) (ra_cons (re_sh (re_var (pv 1))) (ra_cons (re_c (pe_gl rfl T.c_MOST_LISTED) fun _ => .int _) ra_nil)))) (fun _ => rfl))) (rs_one (rs_raise T.e_BadNumber rfl (L2N.takes_of rfl rfl rfl rfl) rfl)) rs_nil)
 (rs_cons (rs_set (i := 3) sc_words_of_length.nd rfl (Or.inl rfl) (re_lst (ra_cons re_str ra_nil)))
 (rs_cons (rs_for (passes_of rfl) rfl (ri_rng1 rfl T.f_range (ra_cons (re_var (pv 1)) ra_nil)) (rg_name (i := 4) sc_words_of_length.nd rfl (Or.inl rfl))
 (rs_one (rs_setLc2 (i := 3) (own := [("word", 5), ("letter", 6)]) (vs1 := [6]) (by rfl) sc_words_of_length.nd rfl rfl (sw_true rfl rfl rfl (by decide +kernel)) (ri_seq (re_sh (re_var (pv 3)))) (blkOk_by (N := ["k", "length", "letters", "words", "_", "word", "letter"]) (sc := defScope s_words_of_length) (by decide +kernel)) (fun _ _ _ _ _ => (rg_name (i := 5) sc_words_of_length.nd rfl (Or.inl rfl))) (fun _ _ _ _ _ => (ri_seq (re_sh (re_var (pv 2))))) (fun _ _ _ _ _ => (rg_name (i := 6) sc_words_of_length.nd rfl (Or.inl rfl))) (fun _ _ _ _ _ => (re_sh (re_op op_addU of_add (re_var (pv 5)) (re_var (pv 6))))) (by decide) (by decide) (by decide) (fun _ _ _ _ _ => rt_yes))))
 (rs_one (rs_ret (re_var (pv 3)))))))))
abbrev s_common : Stmt := top 18
theorem sc_common : FnScope ["one", "other", "many", "left", "right"] ["one", "other"] (defScope s_common) := ⟨rfl, rfl, rfl, by decide +kernel, rfl, by decide +kernel, by decide +kernel⟩
theorem ok_common (T : Tops K mg) (F : Fun K "common" "common" s_common f fd) : FnOk P Wd.w K mg base (L2N.CX P Wd.w) 1 f fd ["one", "other"] (spF K 2 F_common) :=
  okN F sc_common rfl fun cdv A outer s H E hr => (rs_cons (rs_set (i := 2) sc_common.nd rfl (Or.inl rfl) re_int)
 (rs_cons (rs_for (passes_of rfl) rfl (ri_zip rfl T.f_zip (ra_cons (re_sh (re_var (pv 0))) (ra_cons (re_sh (re_var (pv 1))) ra_nil))) (rg_tup rfl (rgs_cons (rg_name (i := 3) sc_common.nd rfl (Or.inl rfl)) (rgs_cons (rg_name (i := 4) sc_common.nd rfl (Or.inl rfl)) rgs_nil)))
 (rs_cons (rs_if (rt_cmp (op_neU (hu64 hr)) of_ne (re_var (pv 3)) (re_var (pv 4)) (nomark _)) (rs_one rs_brk) rs_nil)
 (rs_one (rs_aug (i := 2) ip_add of_iadd sc_common.nd rfl (Or.inl rfl) re_int))))
 (rs_one (rs_ret (re_slice rfl (re_var (pv 0)) ro_none (ro_some (re_var (pv 2))))))))
abbrev s_law_number : Stmt := top 20
theorem sc_law_number : FnScope ["cell"] ["cell"] (defScope s_law_number) := ⟨rfl, rfl, rfl, by decide +kernel, rfl, by decide +kernel, by decide +kernel⟩
theorem ok_law_number (T : Tops K mg) (F : Fun K "_law_number" "_law_number" s_law_number f fd) : FnOk P Wd.w K mg base (L2N.CX P Wd.w) 1 f fd ["cell"] (spF K 1 F_law_number) :=
  okN F sc_law_number rfl fun cdv A outer s H E hr => (rs_cons (rs_if (rt_cmp op_ltU of_lt (re_var (pv 0)) re_int (nomark _)) (rs_one (rs_ret (re_op op_sub of_sub re_int (re_var (pv 0))))) rs_nil)
 (rs_one (rs_ret (re_var (pv 0)))))
abbrev s_law_draws : Stmt := top 21
theorem sc_law_draws : FnScope ["script", "draws", "cell", "rest", "k", "once", "twice"] ["script"] (defScope s_law_draws) := ⟨rfl, rfl, rfl, by decide +kernel, rfl, by decide +kernel, by decide +kernel⟩
theorem ok_law_draws (T : Tops K mg) (C_law_number : CalN P Wd.w K mg base 1 "_law_number" (spF K 1 F_law_number)) (F : Fun K "_law_draws" "_law_draws" s_law_draws f fd) : FnOk P Wd.w K mg base (L2N.CX P Wd.w) 2 f fd ["script"] (spF K 1 F_law_draws) :=
  okN F sc_law_draws rfl fun cdv A outer s H E hr => (rs_cons (rs_set (i := 1) sc_law_draws.nd rfl (Or.inl rfl) (re_lst ra_nil))
 (rs_cons (rs_for (passes_of rfl) rfl (ri_seq (re_var (pv 0))) (rg_name (i := 2) sc_law_draws.nd rfl (Or.inl rfl))
 (rs_cons (rs_set (i := 3) sc_law_draws.nd rfl (Or.inl rfl) (re_call C_law_number (hr.mono (by decide)) rfl (L2N.takes_of rfl rfl rfl rfl) (ra_cons (re_sh (re_var (pv 2))) ra_nil)))
 (rs_one (rs_if (rt_cmp op_ge of_ge (re_var (pv 3)) re_int (nomark _)) (rs_one (rs_for (passes_of rfl) rfl (ri_rng1 rfl T.f_range (ra_cons re_int ra_nil)) (rg_name (i := 4) sc_law_draws.nd rfl (Or.inl rfl))
 (rs_cons (rs_if (rt_cmp (op_eqU (hu64 hr)) of_eq (re_var (pv 3)) re_int (nomark _)) (rs_one rs_brk) rs_nil)
 (rs_cons (rs_expr (re_app rfl (pv 1) (ra_cons (re_op op_mod of_mod (re_callTy call_int1 ca_int rfl T.f_int boot_int (ra_cons (re_var (pv 3)) ra_nil)) re_int) ra_nil)))
 (rs_one (rs_set (i := 3) sc_law_draws.nd rfl (Or.inl rfl) (re_op op_fdiv of_div (re_var (pv 3)) re_int))))))) (rs_cons (rs_set (i := 5) sc_law_draws.nd rfl (Or.inl rfl) (re_op op_mod of_mod (re_callTy call_int1 ca_int rfl T.f_int boot_int (ra_cons (re_op op_addU of_add (re_op op_mulU of_mul (re_var (pv 3)) re_int) re_int) ra_nil)) re_int))
 (rs_cons (rs_set (i := 6) sc_law_draws.nd rfl (Or.inl rfl) (re_op op_mod of_mod (re_callTy call_int1 ca_int rfl T.f_int boot_int (ra_cons (re_op op_addU of_add (re_op op_mulU of_mul (re_var (pv 5)) re_int) (re_var (pv 3))) ra_nil)) re_int))
 (rs_one (rs_expr (re_ext rfl (pv 1) (ra_cons (re_lst (ra_cons (re_op op_mod of_mod (re_callTy call_int1 ca_int rfl T.f_int boot_int (ra_cons (re_var (pv 3)) ra_nil)) re_int) (ra_cons (re_op op_mod of_mod (re_callTy call_int1 ca_int rfl T.f_int boot_int (ra_cons (re_var (pv 5)) ra_nil)) re_int) (ra_cons (re_op op_mod of_mod (re_callTy call_int1 ca_int rfl T.f_int boot_int (ra_cons (re_var (pv 6)) ra_nil)) re_int) ra_nil)))) ra_nil))))))))))
 (rs_one (rs_ret (re_var (pv 1))))))
abbrev s_law_next : Stmt := top 22
theorem sc_law_next : FnScope ["draws"] ["draws"] (defScope s_law_next) := ⟨rfl, rfl, rfl, by decide +kernel, rfl, by decide +kernel, by decide +kernel⟩
theorem ok_law_next (T : Tops K mg) (F : Fun K "_law_next" "_law_next" s_law_next f fd) : FnOk P Wd.w K mg base (L2N.CX P Wd.w) 1 f fd ["draws"] (spF K 1 F_law_next) :=
  okN F sc_law_next rfl fun cdv A outer s H E hr => (rs_cons (rs_if (rt_tru rfl (re_var (pv 0)) (fun _ => rfl)) (rs_one (rs_ret (re_pop rfl (pv 0)))) rs_nil)
 (rs_one (rs_ret re_int)))
abbrev s_law_string : Stmt := top 23
theorem sc_law_string : FnScope ["draws", "k", "most", "signs", "j"] ["draws", "k", "most"] (defScope s_law_string) := ⟨rfl, rfl, rfl, by decide +kernel, rfl, by decide +kernel, by decide +kernel⟩
theorem ok_law_string (T : Tops K mg) (C_law_next : CalN P Wd.w K mg base 1 "_law_next" (spF K 1 F_law_next)) (F : Fun K "_law_string" "_law_string" s_law_string f fd) : FnOk P Wd.w K mg base (L2N.CX P Wd.w) 2 f fd ["draws", "k", "most"] (spF K 3 F_law_string) :=
  okN F sc_law_string rfl fun cdv A outer s H E hr => (rs_cons (rs_set (i := 3) sc_law_string.nd rfl (Or.inr rfl) (re_op op_addU of_add (re_slice rfl re_str ro_none (ro_some (re_var (pv 1)))) (re_ix rfl (re_lst (ra_cons re_str (ra_cons re_str ra_nil))) (re_callTy call_int1 ca_int rfl T.f_int boot_int (ra_cons (re_cmp (op_eqU (hu64 hr)) of_eq (re_op op_mod of_mod (re_callTy call_int1 ca_int rfl T.f_int boot_int (ra_cons (re_call C_law_next (hr.mono (by decide)) rfl (L2N.takes_of rfl rfl rfl rfl) (ra_cons (re_var (pv 0)) ra_nil)) ra_nil)) re_int) re_int (nomark _)) ra_nil)) (fun _ _ => rfl))))
 (rs_one (rs_ret (re_mt rfl PySem.F.plainAttrs_str PySem.F.slot_str_join PySem.F.type_str_join mt_joinK ca_join ty_str re_str (ra_cons (re_lc (own := [("j", 4)]) rfl sc_law_string.nd (ri_rng1 rfl T.f_range (ra_cons (re_op op_mod of_mod (re_callTy call_int1 ca_int rfl T.f_int boot_int (ra_cons (re_call C_law_next (hr.mono (by decide)) rfl (L2N.takes_of rfl rfl rfl rfl) (ra_cons (re_var (pv 0)) ra_nil)) ra_nil)) (re_op op_addU of_add (re_var (pv 2)) re_int)) ra_nil)) (blkOk_by (N := ["draws", "k", "most", "signs", "j"]) (sc := defScope s_law_string) (by decide +kernel)) (fun _ _ _ _ _ => (rg_name (i := 4) sc_law_string.nd rfl (Or.inl rfl))) (fun _ _ _ _ _ => rt_yes) (fun _ _ _ _ _ => (re_ix rfl (re_var (pv 3)) (re_op op_mod of_mod (re_callTy call_int1 ca_int rfl T.f_int boot_int (ra_cons (re_call C_law_next (hr.mono (by decide)) rfl takesF (ra_cons (re_var (pv 0)) ra_nil)) ra_nil)) (re_callB cr_lenK ca_len rfl T.f_len boot_len (ra_cons (re_var (pv 3)) ra_nil))) (fun _ _ => rfl))) (by decide)) ra_nil)))))
abbrev s_law_told : Stmt := top 24
theorem sc_law_told : FnScope ["way", "k", "one", "other", "error"] ["way", "k", "one", "other"] (defScope s_law_told) := ⟨rfl, rfl, rfl, by decide +kernel, rfl, by decide +kernel, by decide +kernel⟩
theorem ok_law_told (T : Tops K mg) (C_check_word : CalN P Wd.w K mg base 5 "check_word" (spF K 2 F_check_word)) (C_is_before : CalN P Wd.w K mg base 6 "is_before" (spF K 3 F_is_before)) (C_is_word : CalN P Wd.w K mg base 4 "is_word" (spF K 2 F_is_word)) (C_letters_of : CalN P Wd.w K mg base 3 "letters_of" (spF K 1 F_letters_of)) (C_words_of_length : CalN P Wd.w K mg base 4 "words_of_length" (spF K 2 F_words_of_length)) (F : Fun K "_law_told" "_law_told" s_law_told f fd) : FnOk P Wd.w K mg base (L2N.CX P Wd.w) 7 f fd ["way", "k", "one", "other"] (spF K 4 F_law_told) :=
  okN F sc_law_told rfl fun cdv A outer s H E hr => (rs_one (rs_try_as (i := 4) rfl rfl sc_law_told.nd rfl rfl ⟨rfl, by decide, Or.inl T.e_ShiftError.g⟩ (L2N.takes_of rfl rfl rfl rfl) (cm_ok T.x_exm)
 (fun W pn xe tk pas => (rs_cons (rs_if (rt_cmp (op_eqU (hu64 hr)) of_eq (re_var (pv 0)) re_int (nomark _)) (rs_one (rs_ret (re_tup (ra_cons re_str (ra_cons (re_sh (re_call C_letters_of (hr.mono (by decide)) rfl tk (ra_cons (re_sh (re_var (pv 1))) ra_nil))) ra_nil))))) rs_nil)
 (rs_cons (rs_if (rt_cmp (op_eqU (hu64 hr)) of_eq (re_var (pv 0)) re_int (nomark _)) (rs_one (rs_ret (re_tup (ra_cons re_str (ra_cons (re_sh (re_call C_is_word (hr.mono (by decide)) rfl tk (ra_cons (re_sh (re_var (pv 1))) (ra_cons (re_sh (re_var (pv 2))) ra_nil)))) ra_nil))))) rs_nil)
 (rs_cons (rs_if (rt_cmp (op_eqU (hu64 hr)) of_eq (re_var (pv 0)) re_int (nomark _)) (rs_one (rs_ret (re_tup (ra_cons re_str (ra_cons (re_sh (re_call C_check_word (hr.mono (by decide)) rfl tk (ra_cons (re_sh (re_var (pv 1))) (ra_cons (re_sh (re_var (pv 2))) ra_nil)))) ra_nil))))) rs_nil)
 (rs_cons (rs_if (rt_cmp (op_eqU (hu64 hr)) of_eq (re_var (pv 0)) re_int (nomark _)) (rs_one (rs_ret (re_tup (ra_cons re_str (ra_cons (re_sh (re_call C_is_before (hr.mono (by decide)) rfl tk (ra_cons (re_sh (re_var (pv 1))) (ra_cons (re_sh (re_var (pv 2))) (ra_cons (re_sh (re_var (pv 3))) ra_nil))))) ra_nil))))) rs_nil)
 (rs_one (rs_ret (re_tup (ra_cons re_str (ra_cons (re_sh (re_call C_words_of_length (hr.mono (by decide)) rfl tk (ra_cons (re_sh (re_var (pv 1))) (ra_cons (re_sh (re_var (pv 2))) ra_nil)))) ra_nil))))))))))
 (fun a oe cls d pn hz hf => (rs_one (rs_ret (re_tup (ra_cons re_str (ra_cons (re_sh (re_lst (ra_cons (re_callTy call_int1 ca_int rfl T.f_int boot_int (ra_cons (re_isx (a := a) (oe := oe) List.mem_cons_self hz.zc hf rfl T.f_isinstance (pv 4) (pe_gl rfl (gX T.e_BadNumber)) (km_ok T.x_kit)) ra_nil)) (ra_cons (re_callTy call_int1 ca_int rfl T.f_int boot_int (ra_cons (re_isx (a := a) (oe := oe) List.mem_cons_self hz.zc hf rfl T.f_isinstance (pv 4) (pe_gl rfl (gX T.e_NotWord)) (km_ok T.x_kit)) ra_nil)) ra_nil)))) ra_nil))))))))
abbrev s_law_is_word : Stmt := top 25
theorem sc_law_is_word : FnScope ["k", "word", "letter"] ["k", "word"] (defScope s_law_is_word) := ⟨rfl, rfl, rfl, by decide +kernel, rfl, by decide +kernel, by decide +kernel⟩
theorem ok_law_is_word (T : Tops K mg) (F : Fun K "_law_is_word" "_law_is_word" s_law_is_word f fd) : FnOk P Wd.w K mg base (L2N.CX P Wd.w) 1 f fd ["k", "word"] (spF K 2 F_law_is_word) :=
  okN F sc_law_is_word rfl fun cdv A outer s H E hr => (rs_one (rs_ret (re_and rfl (re_cmp op_ltU of_lt (re_callB cr_lenK ca_len rfl T.f_len boot_len (ra_cons (re_var (pv 1)) ra_nil)) re_int (nomark _)) (re_one (re_callB cr_allK ca_all rfl T.f_all boot_all (ra_cons (re_lc (own := [("letter", 2)]) rfl sc_law_is_word.nd (ri_seq (re_sh (re_var (pv 1)))) (blkOk_by (N := ["k", "word", "letter"]) (sc := defScope s_law_is_word) (by decide +kernel)) (fun _ _ _ _ _ => (rg_name (i := 2) sc_law_is_word.nd rfl (Or.inl rfl))) (fun _ _ _ _ _ => rt_yes) (fun _ _ _ _ _ => (re_cmp (op_inU (hu64 hr)) of_in (re_var (pv 2)) (re_slice rfl re_str ro_none (ro_some (re_var (pv 0)))) (by rfl))) (by decide)) ra_nil))))))
abbrev s_law_size_place : Stmt := top 26
theorem sc_law_size_place : FnScope ["word"] ["word"] (defScope s_law_size_place) := ⟨rfl, rfl, rfl, by decide +kernel, rfl, by decide +kernel, by decide +kernel⟩
theorem ok_law_size_place (T : Tops K mg) (F : Fun K "_law_place" "_law_place" s_law_size_place f fd) : FnOk P Wd.w K mg base (L2N.CX P Wd.w) 1 f fd ["word"] (spF K 1 F_law_size_place) :=
  okN F sc_law_size_place rfl fun cdv A outer s H E hr => (rs_one (rs_ret (re_tup (ra_cons (re_callB cr_lenK ca_len rfl T.f_len boot_len (ra_cons (re_var (pv 0)) ra_nil)) (ra_cons (re_sh (re_var (pv 0))) ra_nil)))))
abbrev s_law_listed : Stmt := top 27
theorem sc_law_listed : FnScope ["k", "length", "words", "j", "longer", "word", "letter"] ["k", "length"] (defScope s_law_listed) := ⟨rfl, rfl, rfl, by decide +kernel, rfl, by decide +kernel, by decide +kernel⟩
theorem ok_law_listed (T : Tops K mg) (F : Fun K "_law_listed" "_law_listed" s_law_listed f fd) : FnOk P Wd.w K mg base (L2N.CX P Wd.w) 1 f fd ["k", "length"] (spF K 2 F_law_listed) :=
  okN F sc_law_listed rfl fun cdv A outer s H E hr => (rs_cons (rs_set (i := 2) sc_law_listed.nd rfl (Or.inl rfl) (re_lst (ra_cons re_str ra_nil)))
 (rs_cons (rs_for (passes_of rfl) rfl (ri_rng1 rfl T.f_range (ra_cons (re_var (pv 1)) ra_nil)) (rg_name (i := 3) sc_law_listed.nd rfl (Or.inl rfl))
 (rs_cons (rs_set (i := 4) sc_law_listed.nd rfl (Or.inl rfl) (re_lst ra_nil))
 (rs_cons (rs_for (passes_of rfl) rfl (ri_seq (re_sh (re_var (pv 2)))) (rg_name (i := 5) sc_law_listed.nd rfl (Or.inr rfl))
 (rs_one (rs_set (i := 4) sc_law_listed.nd rfl (Or.inl rfl) (re_op op_addU of_add (re_var (pv 4)) (re_lc (own := [("letter", 6)]) rfl sc_law_listed.nd (ri_seq (re_sh (re_slice rfl re_str ro_none (ro_some (re_var (pv 0)))))) (blkOk_by (N := ["k", "length", "words", "j", "longer", "word", "letter"]) (sc := defScope s_law_listed) (by decide +kernel)) (fun _ _ _ _ _ => (rg_name (i := 6) sc_law_listed.nd rfl (Or.inl rfl))) (fun _ _ _ _ _ => rt_yes) (fun _ _ _ _ _ => (re_sh (re_op op_addU of_add (re_var (pv 5)) (re_var (pv 6))))) (by decide))))))
 (rs_one (rs_set (i := 2) sc_law_listed.nd rfl (Or.inl rfl) (re_sh (re_var (pv 4))))))))
 (rs_one (rs_ret (re_var (pv 2))))))
abbrev s_law : Stmt := top 28
theorem sc_law : FnScope ["script", "draws", "k", "one", "other", "wrong", "way", "right", "due", "length", "some", "word", "size", "j"] ["script"] (defScope s_law) := ⟨rfl, rfl, rfl, by decide +kernel, rfl, by decide +kernel, by decide +kernel⟩
theorem goes_law (T : Tops K mg) (C_law_draws : CalN P Wd.w K mg base 2 "_law_draws" (spF K 1 F_law_draws)) (C_law_is_word : CalN P Wd.w K mg base 1 "_law_is_word" (spF K 2 F_law_is_word)) (C_law_listed : CalN P Wd.w K mg base 1 "_law_listed" (spF K 2 F_law_listed)) (C_law_next : CalN P Wd.w K mg base 1 "_law_next" (spF K 1 F_law_next)) (C_law_size_place : CalN P Wd.w K mg base 1 "_law_place" (spF K 1 F_law_size_place)) (C_law_string : CalN P Wd.w K mg base 2 "_law_string" (spF K 3 F_law_string)) (C_law_told : CalN P Wd.w K mg base 7 "_law_told" (spF K 4 F_law_told)) (C_common : CalN P Wd.w K mg base 1 "common" (spF K 2 F_common)) (C_in_order : CalN P Wd.w K mg base 1 "in_order" (spF K 1 F_in_order)) (Q_law_size_place : KeyN K mg "_law_place" "word" s_law_size_place) (F : Fun K "law" "law" s_law f fd) : LawN P Wd.w K mg base f fd "script" (spF K 1 F_law) :=
  lawN F sc_law fun cdv s H E hr => by
    have hg : (callerA.deeper (envOfC "law" (defScope s_law) s.heap.objs.size f cdv)).guards = some [] := rfl
    exact (rs_cons (rs_set (i := 1) sc_law.nd rfl (Or.inl rfl) (re_call C_law_draws (hr.mono (by decide)) rfl (L2N.takes_of rfl rfl rfl rfl) (ra_cons (re_var (pv 0)) ra_nil)))
 (rs_cons (rs_expr (re_rvs rfl (pv 1)))
 (rs_cons (rs_set (i := 2) sc_law.nd rfl (Or.inl rfl) (re_op op_addU of_add re_int (re_op op_mod of_mod (re_callTy call_int1 ca_int rfl T.f_int boot_int (ra_cons (re_call C_law_next (hr.mono (by decide)) rfl (L2N.takes_of rfl rfl rfl rfl) (ra_cons (re_var (pv 1)) ra_nil)) ra_nil)) re_int)))
 (rs_cons (rs_set (i := 3) sc_law.nd rfl (Or.inr rfl) (re_call C_law_string (hr.mono (by decide)) rfl (L2N.takes_of rfl rfl rfl rfl) (ra_cons (re_var (pv 1)) (ra_cons (re_sh (re_var (pv 2))) (ra_cons re_int ra_nil)))))
 (rs_cons (rs_set (i := 4) sc_law.nd rfl (Or.inr rfl) (re_ix rfl (re_lst (ra_cons (re_sh (re_call C_law_string (hr.mono (by decide)) rfl (L2N.takes_of rfl rfl rfl rfl) (ra_cons (re_var (pv 1)) (ra_cons (re_sh (re_var (pv 2))) (ra_cons re_int ra_nil))))) (ra_cons (re_sh (re_op op_addU of_add (re_var (pv 3)) (re_ix rfl re_str (re_op op_mod of_mod (re_callTy call_int1 ca_int rfl T.f_int boot_int (ra_cons (re_call C_law_next (hr.mono (by decide)) rfl (L2N.takes_of rfl rfl rfl rfl) (ra_cons (re_var (pv 1)) ra_nil)) ra_nil)) re_int) (fun _ _ => rfl)))) (ra_cons (re_sh (re_var (pv 3))) ra_nil)))) (re_op op_mod of_mod (re_callTy call_int1 ca_int rfl T.f_int boot_int (ra_cons (re_call C_law_next (hr.mono (by decide)) rfl (L2N.takes_of rfl rfl rfl rfl) (ra_cons (re_var (pv 1)) ra_nil)) ra_nil)) re_int) (fun _ _ => rfl)))
 (rs_cons (rs_if (rt_cmp (op_eqU (hu64 hr)) of_eq (re_op op_mod of_mod (re_callTy call_int1 ca_int rfl T.f_int boot_int (ra_cons (re_call C_law_next (hr.mono (by decide)) rfl (L2N.takes_of rfl rfl rfl rfl) (ra_cons (re_var (pv 1)) ra_nil)) ra_nil)) re_int) re_int (nomark _)) (rs_one (rs_set (i := 3) sc_law.nd rfl (Or.inr rfl) (re_op op_addU of_add (re_op op_mulU of_mul re_str re_int) (re_slice rfl (re_var (pv 3)) ro_none (ro_some re_int))))) rs_nil)
 (rs_cons (rs_set (i := 5) sc_law.nd rfl (Or.inl rfl) (re_ix rfl (re_lst (ra_cons re_int (ra_cons re_int (ra_cons re_int (ra_cons (re_un un_neg uf_neg re_int) ra_nil))))) (re_op op_mod of_mod (re_callTy call_int1 ca_int rfl T.f_int boot_int (ra_cons (re_call C_law_next (hr.mono (by decide)) rfl (L2N.takes_of rfl rfl rfl rfl) (ra_cons (re_var (pv 1)) ra_nil)) ra_nil)) re_int) (fun _ _ => rfl)))
 (rs_cons (rs_for (passes_of rfl) rfl (ri_rng1 rfl T.f_range (ra_cons re_int ra_nil)) (rg_name (i := 6) sc_law.nd rfl (Or.inl rfl))
 (rs_one (rs_if (rt_cmp (op_neU (hu64 hr)) of_ne (re_call C_law_told (hr.mono (by decide)) rfl (L2N.takes_of rfl rfl rfl rfl) (ra_cons (re_sh (re_var (pv 6))) (ra_cons (re_sh (re_var (pv 5))) (ra_cons (re_ix rfl (re_lst (ra_cons (re_sh (re_var (pv 3))) (ra_cons re_int ra_nil))) (re_callTy call_int1 ca_int rfl T.f_int boot_int (ra_cons (re_cmp (op_eqU (hu64 hr)) of_eq (re_var (pv 6)) re_int (nomark _)) ra_nil)) (fun _ _ => rfl)) (ra_cons (re_sh (re_var (pv 4))) ra_nil))))) (re_tup (ra_cons re_str (ra_cons (re_sh (re_lst (ra_cons re_int (ra_cons re_int ra_nil)))) ra_nil))) (nomark _)) (rs_one (rs_ret re_bl)) rs_nil)))
 (rs_cons (rs_set (i := 7) sc_law.nd rfl (Or.inl rfl) (re_lst (ra_cons (re_sh (re_call C_law_is_word (hr.mono (by decide)) rfl (L2N.takes_of rfl rfl rfl rfl) (ra_cons (re_sh (re_var (pv 2))) (ra_cons (re_sh (re_var (pv 3))) ra_nil)))) (ra_cons (re_sh (re_call C_law_is_word (hr.mono (by decide)) rfl (L2N.takes_of rfl rfl rfl rfl) (ra_cons (re_sh (re_var (pv 2))) (ra_cons (re_sh (re_var (pv 4))) ra_nil)))) ra_nil))))
 (rs_cons (rs_set (i := 8) sc_law.nd rfl (Or.inl rfl) (re_ix rfl (re_lst (ra_cons (re_tup (ra_cons re_str (ra_cons (re_sh (re_lst (ra_cons re_int (ra_cons re_int ra_nil)))) ra_nil))) (ra_cons (re_tup (ra_cons re_str (ra_cons re_non ra_nil))) ra_nil))) (re_callTy call_int1 ca_int rfl T.f_int boot_int (ra_cons (re_ix rfl (re_var (pv 7)) re_int (fun _ _ => rfl)) ra_nil)) (fun _ _ => rfl)))
 (rs_cons (rs_if (PW.pt (rw_or (rt_cmp (op_neU (hu64 hr)) of_ne (re_call C_law_told (hr.mono (by decide)) rfl (L2N.takes_of rfl rfl rfl rfl) (ra_cons re_int (ra_cons (re_sh (re_var (pv 2))) (ra_cons (re_sh (re_var (pv 3))) (ra_cons (re_sh (re_var (pv 4))) ra_nil))))) (re_tup (ra_cons re_str (ra_cons (re_sh (re_slice rfl re_str ro_none (ro_some (re_var (pv 2))))) ra_nil))) (nomark _)) (rw_or1 (rt_cmp (op_neU (hu64 hr)) of_ne (re_callB (cr_reprK hg (hu64 hr)) ca_repr rfl T.f_repr boot_repr (ra_cons (re_call C_law_told (hr.mono (by decide)) rfl (L2N.takes_of rfl rfl rfl rfl) (ra_cons re_int (ra_cons (re_sh (re_var (pv 2))) (ra_cons (re_sh (re_var (pv 3))) (ra_cons (re_sh (re_var (pv 4))) ra_nil))))) ra_nil)) (re_callB (cr_reprK hg (hu64 hr)) ca_repr rfl T.f_repr boot_repr (ra_cons (re_var (pv 8)) ra_nil)) (nomark _))))) (rs_one (rs_ret re_bl)) rs_nil)
 (rs_cons (rs_if (rt_cmp (op_neU (hu64 hr)) of_ne (re_callB (cr_reprK hg (hu64 hr)) ca_repr rfl T.f_repr boot_repr (ra_cons (re_call C_law_told (hr.mono (by decide)) rfl (L2N.takes_of rfl rfl rfl rfl) (ra_cons re_int (ra_cons (re_sh (re_var (pv 2))) (ra_cons (re_sh (re_var (pv 3))) (ra_cons (re_sh (re_var (pv 4))) ra_nil))))) ra_nil)) (re_callB (cr_reprK hg (hu64 hr)) ca_repr rfl T.f_repr boot_repr (ra_cons (re_tup (ra_cons re_str (ra_cons (re_ix rfl (re_var (pv 7)) re_int (fun _ _ => rfl)) ra_nil))) ra_nil)) (nomark _)) (rs_one (rs_ret re_bl)) rs_nil)
 (rs_cons (rs_set (i := 8) sc_law.nd rfl (Or.inl rfl) (re_tup (ra_cons re_str (ra_cons (re_sh (re_lst (ra_cons re_int (ra_cons re_int ra_nil)))) ra_nil))))
 (rs_cons (rs_if (PW.pt (rw_and (rt_tru rfl (re_ix rfl (re_var (pv 7)) re_int (fun _ _ => rfl)) (fun _ => rfl)) (rw_and1 (rt_tru rfl (re_ix rfl (re_var (pv 7)) re_int (fun _ _ => rfl)) (fun _ => rfl))))) (rs_one (rs_set (i := 8) sc_law.nd rfl (Or.inl rfl) (re_tup (ra_cons re_str (ra_cons (re_cmp (op_ltA (hu64 hr)) of_ltA (re_call C_law_size_place (hr.mono (by decide)) rfl (L2N.takes_of rfl rfl rfl rfl) (ra_cons (re_sh (re_var (pv 3))) ra_nil)) (re_call C_law_size_place (hr.mono (by decide)) rfl (L2N.takes_of rfl rfl rfl rfl) (ra_cons (re_sh (re_var (pv 4))) ra_nil)) (nomark _)) ra_nil))))) rs_nil)
 (rs_cons (rs_if (rt_cmp (op_neU (hu64 hr)) of_ne (re_callB (cr_reprK hg (hu64 hr)) ca_repr rfl T.f_repr boot_repr (ra_cons (re_call C_law_told (hr.mono (by decide)) rfl (L2N.takes_of rfl rfl rfl rfl) (ra_cons re_int (ra_cons (re_sh (re_var (pv 2))) (ra_cons (re_sh (re_var (pv 3))) (ra_cons (re_sh (re_var (pv 4))) ra_nil))))) ra_nil)) (re_callB (cr_reprK hg (hu64 hr)) ca_repr rfl T.f_repr boot_repr (ra_cons (re_var (pv 8)) ra_nil)) (nomark _)) (rs_one (rs_ret re_bl)) rs_nil)
 (rs_cons (rs_set (i := 9) sc_law.nd rfl (Or.inl rfl) (re_op op_mod of_mod (re_callTy call_int1 ca_int rfl T.f_int boot_int (ra_cons (re_call C_law_next (hr.mono (by decide)) rfl (L2N.takes_of rfl rfl rfl rfl) (ra_cons (re_var (pv 1)) ra_nil)) ra_nil)) re_int))
 (rs_cons (rs_if (rt_cmp (op_neU (hu64 hr)) of_ne (re_callB (cr_reprK hg (hu64 hr)) ca_repr rfl T.f_repr boot_repr (ra_cons (re_call C_law_told (hr.mono (by decide)) rfl (L2N.takes_of rfl rfl rfl rfl) (ra_cons re_int (ra_cons (re_sh (re_var (pv 2))) (ra_cons (re_sh (re_var (pv 9))) (ra_cons re_str ra_nil))))) ra_nil)) (re_callB (cr_reprK hg (hu64 hr)) ca_repr rfl T.f_repr boot_repr (ra_cons (re_tup (ra_cons re_str (ra_cons (re_sh (re_call C_law_listed (hr.mono (by decide)) rfl (L2N.takes_of rfl rfl rfl rfl) (ra_cons (re_sh (re_var (pv 2))) (ra_cons (re_sh (re_var (pv 9))) ra_nil)))) ra_nil))) ra_nil)) (nomark _)) (rs_one (rs_ret re_bl)) rs_nil)
 (rs_cons (rs_if (PW.pt (rw_or (rt_cmp (op_neU (hu64 hr)) of_ne (re_call C_law_told (hr.mono (by decide)) rfl (L2N.takes_of rfl rfl rfl rfl) (ra_cons re_int (ra_cons (re_sh (re_var (pv 2))) (ra_cons (re_un un_neg uf_neg re_int) (ra_cons re_str ra_nil))))) (re_tup (ra_cons re_str (ra_cons (re_sh (re_lst (ra_cons re_int (ra_cons re_int ra_nil)))) ra_nil))) (nomark _)) (rw_or1 (rt_cmp (op_neU (hu64 hr)) of_ne (re_call C_law_told (hr.mono (by decide)) rfl (L2N.takes_of rfl rfl rfl rfl) (ra_cons re_int (ra_cons (re_sh (re_var (pv 2))) (ra_cons re_int (ra_cons re_str ra_nil))))) (re_tup (ra_cons re_str (ra_cons (re_sh (re_lst (ra_cons re_int (ra_cons re_int ra_nil)))) ra_nil))) (nomark _))))) (rs_one (rs_ret re_bl)) rs_nil)
 (rs_cons (rs_set (i := 10) sc_law.nd rfl (Or.inl rfl) (re_lst (ra_cons (re_sh (re_var (pv 3))) (ra_cons (re_sh (re_var (pv 4))) (ra_cons (re_sh (re_slice rfl (re_var (pv 3)) ro_none (ro_some re_int))) (ra_cons (re_sh (re_revN (re_var (pv 4)))) (ra_cons (re_sh (re_var (pv 3))) (ra_cons re_str ra_nil))))))))
 (rs_cons (rs_set (i := 8) sc_law.nd rfl (Or.inl rfl) (re_lst ra_nil))
 (rs_cons (rs_for (passes_of rfl) rfl (ri_seq (re_sh (re_skey Q_law_size_place sc_law_size_place rfl rfl rfl (fun _ _ _ => rfl) rfl (hr.mono (by decide)) rfl T.f_sorted rfl T.f_len (re_var (pv 10))))) (rg_name (i := 11) sc_law.nd rfl (Or.inl rfl))
 (rs_one (rs_if (rt_cmp (op_notInU (hu64 hr)) of_in (re_var (pv 11)) (re_var (pv 8)) (by rfl)) (rs_one (rs_expr (re_app rfl (pv 8) (ra_cons (re_sh (re_var (pv 11))) ra_nil)))) rs_nil)))
 (rs_cons (rs_if (rt_cmp (op_neU (hu64 hr)) of_ne (re_callB (cr_reprK hg (hu64 hr)) ca_repr rfl T.f_repr boot_repr (ra_cons (re_call C_in_order (hr.mono (by decide)) rfl (L2N.takes_of rfl rfl rfl rfl) (ra_cons (re_sh (re_callTy cr_lstU ca_lst rfl T.f_list boot_list (ra_cons (re_var (pv 10)) ra_nil))) ra_nil)) ra_nil)) (re_callB (cr_reprK hg (hu64 hr)) ca_repr rfl T.f_repr boot_repr (ra_cons (re_var (pv 8)) ra_nil)) (nomark _)) (rs_one (rs_ret re_bl)) rs_nil)
 (rs_cons (rs_set (i := 12) sc_law.nd rfl (Or.inl rfl) (re_callB cr_lenK ca_len rfl T.f_len boot_len (ra_cons (re_lc (own := [("j", 13)]) rfl sc_law.nd (ri_rng1 rfl T.f_range (ra_cons (re_callB (call_min2 rfl) ca_min rfl T.f_min boot_min (ra_cons (re_callB cr_lenK ca_len rfl T.f_len boot_len (ra_cons (re_var (pv 3)) ra_nil)) (ra_cons (re_callB cr_lenK ca_len rfl T.f_len boot_len (ra_cons (re_var (pv 4)) ra_nil)) ra_nil))) ra_nil)) (blkOk_by (N := ["script", "draws", "k", "one", "other", "wrong", "way", "right", "due", "length", "some", "word", "size", "j"]) (sc := defScope s_law) (by decide +kernel)) (fun _ _ _ _ _ => (rg_name (i := 13) sc_law.nd rfl (Or.inl rfl))) (fun _ _ _ _ _ => (rt_one (rt_cmp (op_eqU (hu64 hr)) of_eq (re_slice rfl (re_var (pv 3)) ro_none (ro_some (re_op op_addU of_add (re_var (pv 13)) re_int))) (re_slice rfl (re_var (pv 4)) ro_none (ro_some (re_op op_addU of_add (re_var (pv 13)) re_int))) (nomark _)))) (fun _ _ _ _ _ => (re_sh (re_var (pv 13)))) (by decide)) ra_nil)))
 (rs_one (rs_ret (re_cmp (op_eqU (hu64 hr)) of_eq (re_call C_common (hr.mono (by decide)) rfl (L2N.takes_of rfl rfl rfl rfl) (ra_cons (re_sh (re_var (pv 3))) (ra_cons (re_sh (re_var (pv 4))) ra_nil))) (re_slice rfl (re_var (pv 3)) ro_none (ro_some (re_var (pv 12)))) (nomark _)))))))))))))))))))))))))))
end
set_option maxHeartbeats 0
def exs (K : PySem.W.Frag) : Bool := kitsB K tabY && exmsB K tabY
def d_is_number_of_letters : He.DefD := ⟨("is_number_of_letters", none), "is_number_of_letters", "is_number_of_letters", defArgs s_is_number_of_letters, defBody s_is_number_of_letters, defScope s_is_number_of_letters, [], []⟩
def d_check_number : He.DefD := ⟨("check_number", none), "check_number", "check_number", defArgs s_check_number, defBody s_check_number, defScope s_check_number, [], []⟩
def d_letters_of : He.DefD := ⟨("letters_of", none), "letters_of", "letters_of", defArgs s_letters_of, defBody s_letters_of, defScope s_letters_of, [], []⟩
def d_is_word : He.DefD := ⟨("is_word", none), "is_word", "is_word", defArgs s_is_word, defBody s_is_word, defScope s_is_word, [], []⟩
def d_check_word : He.DefD := ⟨("check_word", none), "check_word", "check_word", defArgs s_check_word, defBody s_check_word, defScope s_check_word, [], []⟩
def d_is_before : He.DefD := ⟨("is_before", none), "is_before", "is_before", defArgs s_is_before, defBody s_is_before, defScope s_is_before, [], []⟩
def d_in_order : He.DefD := ⟨("in_order", none), "in_order", "in_order", defArgs s_in_order, defBody s_in_order, defScope s_in_order, [], []⟩
def d_has_at_most : He.DefD := ⟨("_has_at_most", none), "_has_at_most", "_has_at_most", defArgs s_has_at_most, defBody s_has_at_most, defScope s_has_at_most, [], []⟩
def d_words_of_length : He.DefD := ⟨("words_of_length", none), "words_of_length", "words_of_length", defArgs s_words_of_length, defBody s_words_of_length, defScope s_words_of_length, [], []⟩
def d_common : He.DefD := ⟨("common", none), "common", "common", defArgs s_common, defBody s_common, defScope s_common, [], []⟩
def d_law_number : He.DefD := ⟨("_law_number", none), "_law_number", "_law_number", defArgs s_law_number, defBody s_law_number, defScope s_law_number, [], []⟩
def d_law_draws : He.DefD := ⟨("_law_draws", none), "_law_draws", "_law_draws", defArgs s_law_draws, defBody s_law_draws, defScope s_law_draws, [], []⟩
def d_law_next : He.DefD := ⟨("_law_next", none), "_law_next", "_law_next", defArgs s_law_next, defBody s_law_next, defScope s_law_next, [], []⟩
def d_law_string : He.DefD := ⟨("_law_string", none), "_law_string", "_law_string", defArgs s_law_string, defBody s_law_string, defScope s_law_string, [], []⟩
def d_law_told : He.DefD := ⟨("_law_told", none), "_law_told", "_law_told", defArgs s_law_told, defBody s_law_told, defScope s_law_told, [], []⟩
def d_law_is_word : He.DefD := ⟨("_law_is_word", none), "_law_is_word", "_law_is_word", defArgs s_law_is_word, defBody s_law_is_word, defScope s_law_is_word, [], []⟩
def d_law_size_place : He.DefD := ⟨("_law_place", none), "_law_place", "_law_place", defArgs s_law_size_place, defBody s_law_size_place, defScope s_law_size_place, [], []⟩
def d_law_listed : He.DefD := ⟨("_law_listed", none), "_law_listed", "_law_listed", defArgs s_law_listed, defBody s_law_listed, defScope s_law_listed, [], []⟩
def d_law : He.DefD := ⟨("law", none), "law", "law", defArgs s_law, defBody s_law, defScope s_law, [], []⟩
def fns : List He.DefD := [d_is_number_of_letters, d_check_number, d_letters_of, d_is_word, d_check_word, d_is_before, d_in_order, d_has_at_most, d_words_of_length, d_common, d_law_number, d_law_draws, d_law_next, d_law_string, d_law_told, d_law_is_word, d_law_size_place, d_law_listed, d_law]
def fas : List He.Fa := ([.glo "is_number_of_letters", .glo "check_number", .glo "letters_of", .glo "is_word", .glo "check_word", .glo "is_before", .glo "in_order", .glo "_has_at_most", .glo "words_of_length", .glo "common", .glo "_law_number", .glo "_law_draws", .glo "_law_next", .glo "_law_string", .glo "_law_told", .glo "_law_is_word", .glo "_law_place", .glo "_law_listed", .glo "law", .glo "ShiftError", .exc "ShiftError", .glo "NotWord", .exc "NotWord", .glo "BadNumber", .exc "BadNumber", .free "all", .free "int", .free "isinstance", .free "len", .free "list"] : List He.Fa) ++ ([.free "min", .free "range", .free "repr", .free "set", .free "sorted", .free "zip", .int "LEAST_LETTERS" 2, .str "LETTERS" "abcdef", .int "LONGEST" 60, .int "MOST_LISTED" 4096] : List He.Fa)
abbrev R : PySem.W.OpenRow := PySem.W.OpenLaw.row PySem.Challenge.rw_soundturns_k00_words_and_their_order
abbrev hk : PySem.W.Hook := He.hookX 4 fas fns [] [] exs
def ob (s : PySem.W.SharedT) : He.AlX := He.obsX 4 fas fns [] [] exs (HandSHeadRun.getT s)
theorem ob_eq (s : PySem.W.SharedT) : ob s = hk.obs s.abs := He.obsX_eq (HandSHeadRun.getT_eq s)
def loose : List PySem.Str := (["ShiftError", "NotWord", "BadNumber", "LETTERS", "LEAST_LETTERS", "LONGEST", "MOST_LISTED", "is_number_of_letters", "check_number", "letters_of", "is_word", "check_word", "is_before", "in_order", "_has_at_most", "words_of_length", "common", "_law_number", "_law_draws", "_law_next", "_law_string", "_law_told", "_law_is_word", "_law_place", "_law_listed"] : List PySem.Str)
theorem run (w : World) : HandSHeadRun.RunEq R (PySem.W.view R.prog [28]) hk ob 4500 loose w := by
  intro os
  kernel_rfl
section
variable {P : Program} [Wd] {K : PySem.W.Frag} {h base : Heap} {mg : Str → Option Value}
theorem tops (X : K.In h) (G : h.Ns mainGlobals mg) {hh : Heap} (c : He.SaysX fas fns [] [] exs Wd.w hh K) : Tops K mg := by
  have d := c.t.d
  have gl : ∀ x : Str, He.Fa.glo x ∈ fas → mg x = some (.ref (He.ga K x)) := fun x m => He.glo_ok X G (d.facts m)
  have fr : ∀ x : Str, He.Fa.free x ∈ fas → mg x = none := fun x m => He.free_ok X G (d.facts m)
  have st : ∀ x z : Str, He.Fa.str x z ∈ fas → ∃ u, mg x = some u ∧ RelV (.str z) u := fun x z m => gS (He.str_ok X G (d.facts m))
  have it : ∀ (x : Str) (i : Int), He.Fa.int x i ∈ fas → ∃ u, mg x = some u ∧ RelV (.int i) u := fun x i m => gI (He.int_ok X G (d.facts m))
  have ec : ∀ x : Str, He.Fa.glo x ∈ fas → He.Fa.exc x ∈ fas → ExcF K mg x := fun x m1 m2 => by
    obtain ⟨a, b, e, f⟩ := He.exc_ok (d.facts m2)
    exact ⟨gl x m1, a, b, e, f⟩
  have xx : exs K = true := c.more
  obtain ⟨x1, x2⟩ := He.ba xx
  exact Tops.mk (c_LEAST_LETTERS := it "LEAST_LETTERS" 2 (by simp [fas]))
    (c_LETTERS := st "LETTERS" "abcdef" (by simp [fas]))
    (c_LONGEST := it "LONGEST" 60 (by simp [fas]))
    (c_MOST_LISTED := it "MOST_LISTED" 4096 (by simp [fas]))
    (f_all := fr "all" (by simp [fas]))
    (f_int := fr "int" (by simp [fas]))
    (f_isinstance := fr "isinstance" (by simp [fas]))
    (f_len := fr "len" (by simp [fas]))
    (f_list := fr "list" (by simp [fas]))
    (f_min := fr "min" (by simp [fas]))
    (f_range := fr "range" (by simp [fas]))
    (f_repr := fr "repr" (by simp [fas]))
    (f_set := fr "set" (by simp [fas]))
    (f_sorted := fr "sorted" (by simp [fas]))
    (f_zip := fr "zip" (by simp [fas]))
    (e_ShiftError := ec "ShiftError" (by simp [fas]) (by simp [fas]))
    (e_NotWord := ec "NotWord" (by simp [fas]) (by simp [fas]))
    (e_BadNumber := ec "BadNumber" (by simp [fas]) (by simp [fas]))
    (x_kit := x1)
    (x_exm := x2)
theorem law_ok (X : K.In h) (G : h.Ns mainGlobals mg) {hh : Heap} (c : He.SaysX fas fns [] [] exs Wd.w hh K) {f : Addr} (hf : mg ("law" : Str) = some (.ref f)) :
    ∃ fd : FuncData, (∀ (s : Shared) (v : Value), BindsTo s fd ⟨[v], []⟩ [("script", v)]) ∧ ∀ base : Heap, K.In base → base.Ns mainGlobals mg → LawN P Wd.w K mg base f fd "script" (spF K 1 F_law) := by
  have T := tops X G c
  have d := c.t.d
  obtain ⟨fd_is_number_of_letters, D_is_number_of_letters⟩ := d.defs (d := d_is_number_of_letters) (by simp [fns])
  obtain ⟨fd_in_order, D_in_order⟩ := d.defs (d := d_in_order) (by simp [fns])
  obtain ⟨fd_has_at_most, D_has_at_most⟩ := d.defs (d := d_has_at_most) (by simp [fns])
  obtain ⟨fd_common, D_common⟩ := d.defs (d := d_common) (by simp [fns])
  obtain ⟨fd_law_number, D_law_number⟩ := d.defs (d := d_law_number) (by simp [fns])
  obtain ⟨fd_law_next, D_law_next⟩ := d.defs (d := d_law_next) (by simp [fns])
  obtain ⟨fd_law_is_word, D_law_is_word⟩ := d.defs (d := d_law_is_word) (by simp [fns])
  obtain ⟨fd_law_size_place, D_law_size_place⟩ := d.defs (d := d_law_size_place) (by simp [fns])
  obtain ⟨fd_law_listed, D_law_listed⟩ := d.defs (d := d_law_listed) (by simp [fns])
  obtain ⟨fd_check_number, D_check_number⟩ := d.defs (d := d_check_number) (by simp [fns])
  obtain ⟨fd_law_draws, D_law_draws⟩ := d.defs (d := d_law_draws) (by simp [fns])
  obtain ⟨fd_law_string, D_law_string⟩ := d.defs (d := d_law_string) (by simp [fns])
  obtain ⟨fd_letters_of, D_letters_of⟩ := d.defs (d := d_letters_of) (by simp [fns])
  obtain ⟨fd_is_word, D_is_word⟩ := d.defs (d := d_is_word) (by simp [fns])
  obtain ⟨fd_words_of_length, D_words_of_length⟩ := d.defs (d := d_words_of_length) (by simp [fns])
  obtain ⟨fd_check_word, D_check_word⟩ := d.defs (d := d_check_word) (by simp [fns])
  obtain ⟨fd_is_before, D_is_before⟩ := d.defs (d := d_is_before) (by simp [fns])
  obtain ⟨fd_law_told, D_law_told⟩ := d.defs (d := d_law_told) (by simp [fns])
  obtain ⟨fd_law, D_law⟩ := d.defs (d := d_law) (by simp [fns])
  have e := hf.symm.trans (He.glo_ok X G (d.facts (f := .glo "law") (by simp [fas])))
  cases e
  refine ⟨fd_law, fun s v => FunD.bindsA (ps := ["script"]) D_law (fun _ _ _ _ _ _ us hl => match us, hl with | [_], _ => rfl) s [v] rfl, fun base Xb Gb => ?_⟩
  have C_is_number_of_letters : CalN P Wd.w K mg base 1 "is_number_of_letters" (spF K 1 F_is_number_of_letters) := ⟨_, fd_is_number_of_letters, ["k"], ok_is_number_of_letters T  (He5.fun_of D_is_number_of_letters), He.glo_ok X G (d.facts (f := .glo "is_number_of_letters") (by simp [fas])), D_is_number_of_letters.kp, D_is_number_of_letters.bindsN fun _ _ _ _ _ _ us hl => match us, hl with | [_], _ => rfl⟩
  have C_in_order : CalN P Wd.w K mg base 1 "in_order" (spF K 1 F_in_order) := ⟨_, fd_in_order, ["words"], ok_in_order T  (He5.fun_of D_in_order), He.glo_ok X G (d.facts (f := .glo "in_order") (by simp [fas])), D_in_order.kp, D_in_order.bindsN fun _ _ _ _ _ _ us hl => match us, hl with | [_], _ => rfl⟩
  have C_has_at_most : CalN P Wd.w K mg base 1 "_has_at_most" (spF K 3 F_has_at_most) := ⟨_, fd_has_at_most, ["k", "length", "most"], ok_has_at_most T  (He5.fun_of D_has_at_most), He.glo_ok X G (d.facts (f := .glo "_has_at_most") (by simp [fas])), D_has_at_most.kp, D_has_at_most.bindsN fun _ _ _ _ _ _ us hl => match us, hl with | [_, _, _], _ => rfl⟩
  have C_common : CalN P Wd.w K mg base 1 "common" (spF K 2 F_common) := ⟨_, fd_common, ["one", "other"], ok_common T  (He5.fun_of D_common), He.glo_ok X G (d.facts (f := .glo "common") (by simp [fas])), D_common.kp, D_common.bindsN fun _ _ _ _ _ _ us hl => match us, hl with | [_, _], _ => rfl⟩
  have C_law_number : CalN P Wd.w K mg base 1 "_law_number" (spF K 1 F_law_number) := ⟨_, fd_law_number, ["cell"], ok_law_number T  (He5.fun_of D_law_number), He.glo_ok X G (d.facts (f := .glo "_law_number") (by simp [fas])), D_law_number.kp, D_law_number.bindsN fun _ _ _ _ _ _ us hl => match us, hl with | [_], _ => rfl⟩
  have C_law_next : CalN P Wd.w K mg base 1 "_law_next" (spF K 1 F_law_next) := ⟨_, fd_law_next, ["draws"], ok_law_next T  (He5.fun_of D_law_next), He.glo_ok X G (d.facts (f := .glo "_law_next") (by simp [fas])), D_law_next.kp, D_law_next.bindsN fun _ _ _ _ _ _ us hl => match us, hl with | [_], _ => rfl⟩
  have C_law_is_word : CalN P Wd.w K mg base 1 "_law_is_word" (spF K 2 F_law_is_word) := ⟨_, fd_law_is_word, ["k", "word"], ok_law_is_word T  (He5.fun_of D_law_is_word), He.glo_ok X G (d.facts (f := .glo "_law_is_word") (by simp [fas])), D_law_is_word.kp, D_law_is_word.bindsN fun _ _ _ _ _ _ us hl => match us, hl with | [_, _], _ => rfl⟩
  have Q_law_size_place : KeyN K mg "_law_place" "word" s_law_size_place := ⟨_, fd_law_size_place, He5.fun_of D_law_size_place, He.glo_ok X G (d.facts (f := .glo "_law_place") (by simp [fas])), D_law_size_place.bindsN fun _ _ _ _ _ _ us hl => match us, hl with | [_], _ => rfl⟩
  have C_law_size_place : CalN P Wd.w K mg base 1 "_law_place" (spF K 1 F_law_size_place) := ⟨_, fd_law_size_place, ["word"], ok_law_size_place T  (He5.fun_of D_law_size_place), He.glo_ok X G (d.facts (f := .glo "_law_place") (by simp [fas])), D_law_size_place.kp, D_law_size_place.bindsN fun _ _ _ _ _ _ us hl => match us, hl with | [_], _ => rfl⟩
  have C_law_listed : CalN P Wd.w K mg base 1 "_law_listed" (spF K 2 F_law_listed) := ⟨_, fd_law_listed, ["k", "length"], ok_law_listed T  (He5.fun_of D_law_listed), He.glo_ok X G (d.facts (f := .glo "_law_listed") (by simp [fas])), D_law_listed.kp, D_law_listed.bindsN fun _ _ _ _ _ _ us hl => match us, hl with | [_, _], _ => rfl⟩
  have C_check_number : CalN P Wd.w K mg base 2 "check_number" (spF K 1 F_check_number) := ⟨_, fd_check_number, ["k"], ok_check_number T C_is_number_of_letters (He5.fun_of D_check_number), He.glo_ok X G (d.facts (f := .glo "check_number") (by simp [fas])), D_check_number.kp, D_check_number.bindsN fun _ _ _ _ _ _ us hl => match us, hl with | [_], _ => rfl⟩
  have C_law_draws : CalN P Wd.w K mg base 2 "_law_draws" (spF K 1 F_law_draws) := ⟨_, fd_law_draws, ["script"], ok_law_draws T C_law_number (He5.fun_of D_law_draws), He.glo_ok X G (d.facts (f := .glo "_law_draws") (by simp [fas])), D_law_draws.kp, D_law_draws.bindsN fun _ _ _ _ _ _ us hl => match us, hl with | [_], _ => rfl⟩
  have C_law_string : CalN P Wd.w K mg base 2 "_law_string" (spF K 3 F_law_string) := ⟨_, fd_law_string, ["draws", "k", "most"], ok_law_string T C_law_next (He5.fun_of D_law_string), He.glo_ok X G (d.facts (f := .glo "_law_string") (by simp [fas])), D_law_string.kp, D_law_string.bindsN fun _ _ _ _ _ _ us hl => match us, hl with | [_, _, _], _ => rfl⟩
  have C_letters_of : CalN P Wd.w K mg base 3 "letters_of" (spF K 1 F_letters_of) := ⟨_, fd_letters_of, ["k"], ok_letters_of T C_check_number (He5.fun_of D_letters_of), He.glo_ok X G (d.facts (f := .glo "letters_of") (by simp [fas])), D_letters_of.kp, D_letters_of.bindsN fun _ _ _ _ _ _ us hl => match us, hl with | [_], _ => rfl⟩
  have C_is_word : CalN P Wd.w K mg base 4 "is_word" (spF K 2 F_is_word) := ⟨_, fd_is_word, ["k", "word"], ok_is_word T C_letters_of (He5.fun_of D_is_word), He.glo_ok X G (d.facts (f := .glo "is_word") (by simp [fas])), D_is_word.kp, D_is_word.bindsN fun _ _ _ _ _ _ us hl => match us, hl with | [_, _], _ => rfl⟩
  have C_words_of_length : CalN P Wd.w K mg base 4 "words_of_length" (spF K 2 F_words_of_length) := ⟨_, fd_words_of_length, ["k", "length"], ok_words_of_length T C_has_at_most C_letters_of (He5.fun_of D_words_of_length), He.glo_ok X G (d.facts (f := .glo "words_of_length") (by simp [fas])), D_words_of_length.kp, D_words_of_length.bindsN fun _ _ _ _ _ _ us hl => match us, hl with | [_, _], _ => rfl⟩
  have C_check_word : CalN P Wd.w K mg base 5 "check_word" (spF K 2 F_check_word) := ⟨_, fd_check_word, ["k", "word"], ok_check_word T C_is_word (He5.fun_of D_check_word), He.glo_ok X G (d.facts (f := .glo "check_word") (by simp [fas])), D_check_word.kp, D_check_word.bindsN fun _ _ _ _ _ _ us hl => match us, hl with | [_, _], _ => rfl⟩
  have C_is_before : CalN P Wd.w K mg base 6 "is_before" (spF K 3 F_is_before) := ⟨_, fd_is_before, ["k", "one", "other"], ok_is_before T C_check_word (He5.fun_of D_is_before), He.glo_ok X G (d.facts (f := .glo "is_before") (by simp [fas])), D_is_before.kp, D_is_before.bindsN fun _ _ _ _ _ _ us hl => match us, hl with | [_, _, _], _ => rfl⟩
  have C_law_told : CalN P Wd.w K mg base 7 "_law_told" (spF K 4 F_law_told) := ⟨_, fd_law_told, ["way", "k", "one", "other"], ok_law_told T C_check_word C_is_before C_is_word C_letters_of C_words_of_length (He5.fun_of D_law_told), He.glo_ok X G (d.facts (f := .glo "_law_told") (by simp [fas])), D_law_told.kp, D_law_told.bindsN fun _ _ _ _ _ _ us hl => match us, hl with | [_, _, _, _], _ => rfl⟩
  exact goes_law T C_law_draws C_law_is_word C_law_listed C_law_next C_law_size_place C_law_string C_law_told C_common C_in_order Q_law_size_place (He5.fun_of D_law)
end
end K
open PySem PySem.W PySem.Calls PyProof.Rows
theorem PySem.Challenge.cw_soundturns_k00_words_and_their_order_holds : PySem.Challenge.rw_soundturns_k00_words_and_their_order.Holds := by
  w_on; o_law
  refine HandSHeadRun.head_any (r := OpenLaw.row PySem.Challenge.rw_soundturns_k00_words_and_their_order) (q := view (OpenLaw.row PySem.Challenge.rw_soundturns_k00_words_and_their_order).prog [28]) (H := K.hk) (ob := K.ob) (M := 4500) (loose := K.loose) (d := HandSHeadRun.topDef (OpenLaw.row PySem.Challenge.rw_soundturns_k00_words_and_their_order).prog 28) (kwd := []) K.ob_eq
    (by kernel_rfl) (fun s => by kernel_rfl) K.run (by kernel_rfl) (by kernel_rfl) (by kernel_rfl) (by rfl) (by first | assumption | decide +kernel) (by decide +kernel) ⟨rfl, rfl, rfl, rfl, rfl, by decide +kernel⟩ ?hw ?hc
  case hw => w_witness2
  case hc =>
    refine M.claim_walkN (l := PySem.Challenge.rw_soundturns_k00_words_and_their_order) (n := 63) (x := "script") rfl (by decide) (by kernel_rfl) ?F
    intro w mg f h Y G named
    obtain ⟨Kf, KX, c⟩ := Y
    have hmg : mg ("law" : PySem.Str) = some (.ref f) := by
      have e : (HandSHeadRun.topDef (OpenLaw.row PySem.Challenge.rw_soundturns_k00_words_and_their_order).prog 28).name = ("law" : PySem.Str) := by kernel_rfl
      rw [← e]
      exact named
    letI : M.Wd := ⟨w⟩
    obtain ⟨fd, hb, hF⟩ := K.law_ok (P := (PySem.Challenge.rw_soundturns_k00_words_and_their_order).prog) KX G c hmg
    exact ⟨Kf, fd, M.spF Kf 1 K.F_law, KX, hb, fun H a ns hl hS => M.law_sp hS (K.law_true ns hl), hF⟩
