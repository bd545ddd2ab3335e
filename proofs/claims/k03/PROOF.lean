import PyProof.Rows.All
import Wide.All
import OpenK.AllK
import Wide.FinOn
import KE.KStateDown
import Lean
import PyProof.ReprRoads
import HandS.ForMost
import HandS.More
import HandS.Exc
import HandS.ExcOwn
import HandS.ExcIs
import HandS.TryOnly
import HandS.WordsExc
import HandS.Defaults
import HandS.Wide
import HandS.StrMore
import HandS.Replace
import HandS.Style
import HandS.Flow
import HandS.Zip
import HandS.Walk
import HandS.Evl
import HandS.Sort
import HandS.TupAny
import HandS.Head0
import HandS.Head1
import HandS.Head2
import HandS.HeadEnd
import HandS.HeadHook1
import HandS.HeadHook2
import KE.GoesMore
import KE.GoesEnum
import PyProof.CollectStr
import PyProof.ListStr
import HandS.Set
import HandS.TupMul
import KE.KRevSl
import PyProof.StrOps2
import PyProof.ReprLen
import KE.DataEq
import KE.DataFind
import HandS.Steps
import HandS.Deep
import HandS.WideBits
import HandS.Star
import HandS.IsInst
import HandS.ExcCtx
import HandS.HotCalls
import KE.GoesZip
import HandS.HeadHook3
import HandS.HeadHook4
import HandS.HeadNt
import HandS.SortInts
import KE.Datum
import PyProof.Rows.StrLawsPart
import PySem.Challenge.RW_soundturns_k03_whole_renaming_and_turnin
set_option Elab.async false
set_option linter.all false
set_option maxRecDepth 100000
set_option maxHeartbeats 4000000
/-! General words of mine over the layer: a def called by its name, whatever it may raise. -/
namespace Sv
open PySem PySem.Spec PyProof.Rows L2

/-- the def that the module's name x holds keeps the promise sp; it may raise -/
structure CalX (P : Program) (w : World) (K : PySem.W.Frag) (mg : Str → Option Value) (base : Heap) (k : Nat) (x : Str) (sp : Sp) : Prop where
  ex : ∃ (f : Addr) (fd : FuncData) (ps : List Str), FnOk P w K mg base (L2.CX P w) k f fd ps sp ∧ mg x = some (.ref f) ∧ PySem.W.keepIn K (.ref f) = true ∧ Binds K fd ps []
section
variable {X : Cx} {k : Nat} {sp : Sp} {x : Str} {p pos : Pos} {e : Expr} {es : List Expr} {t : TA} {E : XK}
theorem pe_cx (c : CalX X.prog X.w X.K X.mg X.base k x sp) (hr : Room k X.A) (hg : Gl X x) (hx : Passes (L2.CX X.prog X.w) X E) (ha : PA X (e :: es) t) (hdb : (x == ("__debug__" : Str)) = false := by decide)
    (he : starEach (e :: es) X.env = (false, eval e X.env) :: starEach es X.env := by rfl) (hpl : (backTo pos (starEach es X.env)).any (·.1) = false := by rfl) : PE X (.Call (.Name x p) (e :: es) [] pos) (tCall sp [] E t) := by
  obtain ⟨f, fd, ps, F, hm, hk, hb⟩ := c.ex
  exact pe_call F hr hg hm hk hb .nil hx ha hdb he hpl
/-- the same within a try: what is raised is wished for at the slots -/
theorem pe_cxS {W : WX} (c : CalX X.prog X.w X.K X.mg X.base k x sp) (hr : Room k X.A) (hg : Gl X x) (tk : Takes X W) (ha : PA X (e :: es) t) (hdb : (x == ("__debug__" : Str)) = false := by decide)
    (he : starEach (e :: es) X.env = (false, eval e X.env) :: starEach es X.env := by rfl) (hpl : (backTo pos (starEach es X.env)).any (·.1) = false := by rfl) : PE X (.Call (.Name x p) (e :: es) [] pos) (tCallS sp (WE W) t) := by
  obtain ⟨f, fd, ps, F, hm, hk, hb⟩ := c.ex
  exact pe_callS F hr hg hm hk hb (fun σ => passAt tk σ) ha hdb he hpl
theorem pe_gl {y : Str} {v : V} {q : Pos} (hg : Gl X y) (h : ∃ u, X.mg y = some u ∧ RelV v u) (hdb : (y == ("__debug__" : Str)) = false := by decide) : PE X (.Name y q) (tC v) := by
  obtain ⟨u, hm, r⟩ := h
  exact pe_glob hg hm r hdb
end
theorem gS {mg : Str → Option Value} {x z : Str} (h : ∃ t, mg x = some (.str z t)) : ∃ u, mg x = some u ∧ RelV (.str z) u := h.elim fun t e => ⟨_, e, ⟨t, rfl⟩⟩
theorem gI {mg : Str → Option Value} {x : Str} {i : Int} (h : ∃ t, mg x = some (.int i t)) : ∃ u, mg x = some u ∧ RelV (.int i) u := h.elim fun t e => ⟨_, e, ⟨t, rfl⟩⟩
end Sv

set_option Elab.async false
set_option linter.all false
set_option maxRecDepth 100000
set_option maxHeartbeats 4000000
/-! Texts as lists of signs; errors as results. -/
namespace Sv
open PySem PySem.Spec PyProof.Rows L2

/-- the text with these signs -/
abbrev tx (l : List Nat) : Str := ⟨l.toArray⟩
theorem tx_len (l : List Nat) : (tx l).length = l.length := by simp [Str.length]
theorem tx_list (l : List Nat) : (tx l).cps.toList = l := by simp
theorem tx_inj {l m : List Nat} (h : tx l = tx m) : l = m := by
  have e := congrArg (fun s : Str => s.cps.toList) h
  simpa using e
theorem tx_of (s : Str) : s = tx s.cps.toList := by
  cases s
  simp
theorem tx_app (l m : List Nat) : tx l ++ tx m = tx (l ++ m) := by
  show (⟨l.toArray ++ m.toArray⟩ : Str) = _
  simp
/-- the kinds of errors -/
inductive Er where
  | word | rule | machine | number | large
  deriving DecidableEq
def Er.nm : Er → Str
  | .word => "NotWord"
  | .rule => "NotRule"
  | .machine => "NotMachine"
  | .number => "BadNumber"
  | .large => "TooLarge"
/-- what a call has as its end: a value that stands for the data, or an error of this kind; what was there stays -/
def Out (K : PySem.W.Frag) (H : Hp) (Q : VK) (E : XK) : Except Er PyData → Prop
  | .ok d => ∀ v H', Same H H' → Dp K H' v d → Q v H'
  | .error e => ∀ H', Same H H' → E (.ref (He.ga K e.nm)) none H'
theorem Out.mono {K : PySem.W.Frag} {H H1 : Hp} {Q : VK} {E : XK} {r : Except Er PyData} (h : Out K H Q E r) (s : Same H H1) : Out K H1 Q E r := by
  cases r with
  | ok d => exact fun v H' s' hd => h v H' (s.trans s') hd
  | error e => exact fun H' s' => h H' (s.trans s')
theorem Same.new {H : Hp} {p : Addr} {o : HO} (h : H p = none) : Same H (upd H p o) := Evl.Ex.new h
theorem same_t {K : PySem.W.Frag} {H H' : Hp} {a : Addr} {xs : List V} (e : Same H H') (h : SqT K H a xs) : SqT K H' a xs := Evl.ex_t e h
theorem same_l {K : PySem.W.Frag} {H H' : Hp} {a : Addr} {xs : List V} (e : Same H H') (h : SqL K H a xs) : SqL K H' a xs := Evl.ex_l e h
mutual
theorem Dp.same {K : PySem.W.Frag} {H H' : Hp} (e : Same H H') : ∀ {d : PyData} {v : V}, Dp K H v d → Dp K H' v d
  | .none, _, .non => .non
  | .bool _, _, .bl b => .bl b
  | .int _, _, .int i => .int i
  | .str _, _, .str x => .str x
  | .list _, _, .lst h a => .lst (same_l e h) (DpAll.same e a)
  | .tuple _, _, .tup h a => .tup (same_t e h) (DpAll.same e a)
theorem DpAll.same {K : PySem.W.Frag} {H H' : Hp} (e : Same H H') : ∀ {ds : List PyData} {vs : List V}, DpAll K H vs ds → DpAll K H' vs ds
  | [], _, .nil => .nil
  | _ :: _, _, .cons h a => .cons (Dp.same e h) (DpAll.same e a)
end
/-- an error class of the program, as the top has left it -/
structure ExcF (K : PySem.W.Frag) (mg : Str → Option Value) (x : Str) : Prop where
  g : mg x = some (.ref (He.ga K x))
  q : PySem.W.excIn K (He.ga K x) He.veBase "ValueError.__new__" = true
  kp : PySem.W.keepIn K (.ref (He.ga K x)) = true
  sb : PySem.W.subIn K (.ref (He.ga K x)) (.type "BaseException") = some true
  ty : PySem.W.typeIn K (.ref (He.ga K x)) = some (.type "type")
theorem gX {K : PySem.W.Frag} {mg : Str → Option Value} {x : Str} (e : ExcF K mg x) : ∃ u, mg x = some u ∧ RelV (.ref (He.ga K x)) u := ⟨_, e.g, rfl⟩
section
variable {X : Cx} {x m : Str} {j : Nat} {p p2 pos pos2 : Pos} {W : WX}
def tRaiseC (a : Addr) (W : WX) : TS := fun _ σ H => W (.ref a) none σ H
theorem ps_raiseC (c : ExcF X.K X.mg x) (hc : X.calm = true) (tk : Takes X W) (hg : Gl X x) (hdb : (x == ("__debug__" : Str)) = false := by decide) :
    PS X (.Raise (some (.Call (.Name x p) [.Constant (.str m) j p2] [] pos)) none pos2) (tRaiseC (He.ga X.K x) W) :=
  ps_raise hc tk (pmk_own PySem.F.excBase_ValueError c.q c.g c.kp (raises_own c.sb c.ty) hg hdb)
end
/-- E as a wish with slots -/
abbrev WX0 (E : XK) : WX := fun cls d _ H => E cls d H
end Sv

set_option Elab.async false
set_option linter.all false
set_option maxRecDepth 100000
set_option maxHeartbeats 4000000
/-! enumerate of tuples and of texts, over whatever draws. -/
namespace Sv
open PySem PySem.Spec PyProof.Rows L2

/-- n turns, the i-th yields a new pair of i and f i; G stands at each -/
def ItEn (G : Hp → Prop) (n : Nat) (f : Nat → V) : It :=
  ⟨fun i H => G H ∧ i < n, fun i H v H' => ∃ T, v = .ref T ∧ H T = none ∧ H' = upd H T (.tup [.int (i : Nat), f i]), fun i H => G H ∧ i = n⟩
/-- what draws the items, found in each state -/
structure EnSrc (P : Program) (w : World) (K : PySem.W.Frag) (G : Hp → Prop) (n : Nat) (f : Nat → V) (e it : Addr) (Si : Nat → Heap → Prop) : Prop where
  live : ∀ i h, Si i h → ∃ o, h.get? it = some o ∧ ∀ v, o.data ≠ .cell v
  frame : ∀ i h h', Si i h → (∀ o, h.get? it = some o → h'.get? it = some o) → Si i h'
  src : ∀ (X : Cx), X.prog = P → X.w = w → X.K = K → ∀ (pins : List (Addr × Obj)) (s : Shared) (σ : L2.St) (H : Hp), Inv X pins σ H s → G H → ∀ (i : Nat) (old : Value), Si i s.heap → IsEnum s.heap e it ((i : Nat) : Int) old →
    ∃ (fp : List Addr) (Pt : Nat → Value → Prop) (St : Nat → Heap → Prop), (∀ A : Around, A.handled = none → Draws P w A it fp n Pt St) ∧ e ∉ fp ∧ St i s.heap ∧ (∀ j h, St j h → Si j h) ∧ ∀ j x, Pt j x → RelV (f j) x
theorem turn_en {P : Program} {w : World} {K : PySem.W.Frag} {elts : List Expr} {kk : Nat} {tpos : Pos} {G : Hp → Prop} {n : Nat} {f : Nat → V} {e it : Addr} {Si : Nat → Heap → Prop} (S : EnSrc P w K G n f e it Si) :
    Turn P w K (.Tuple elts kk tpos) (ItEn G n f) [e, it] e (fun i h => (∃ old, IsEnum h e it ((i : Nat) : Int) old) ∧ Si i h ∧ e ≠ it) where
  mem := List.mem_cons_self
  obj := fun i h st b hb => by
    obtain ⟨⟨old, hen⟩, hs, _⟩ := st
    rcases List.mem_cons.mp hb with z | z
    · exact ⟨_, z ▸ hen, fun v q => by cases q⟩
    · exact (List.mem_singleton.mp z) ▸ S.live i h hs
  keep := fun i h h' st k => by
    obtain ⟨⟨old, hen⟩, hs, hne⟩ := st
    exact ⟨⟨old, k e List.mem_cons_self _ hen⟩, S.frame i h h' hs (k it (List.mem_cons_of_mem _ List.mem_cons_self)), hne⟩
  item := by
    rintro X rfl rfl rfl calm i pins s σ H E I hfp ⟨⟨old, hen⟩, hs, hne⟩ ⟨hG, hlt⟩
    obtain ⟨fp, Pt, St, D, hef, hst, back, rel⟩ := S.src X rfl rfl rfl pins s σ H I hG i old hs hen
    obtain ⟨oi, hoi, _⟩ := S.live i s.heap hs
    have lE : e < s.heap.objs.size := Heap.lt_size hen
    have lI : it < s.heap.objs.size := Heap.lt_size hoi
    refine wpAny_pyNext_enum_itemD (D X.A.in1 (I.ok.hd calm)) hen hst hlt hne hef fun x h1 tk hx out1 st1 tup1 _ keep1 => ⟨_, rfl, ?_⟩
    refine wpAny_letOwnedTupleGo_enum (s := { s with heap := h1, toks := tk + 1 }) out1 fun h2 en2 same2 => ?_
    have tup2 := (same2.2 s.heap.objs.size (Nat.ne_of_gt lE)).trans tup1
    have fr : H s.heap.objs.size = none := I.hok.fresh (Nat.le_refl _)
    have ob : ObjOk X.prog X.w (upd H s.heap.objs.size (.tup [.int (i : Nat), f i])) h2 s.heap.objs.size (.tup [.int (i : Nat), f i]) :=
      ⟨(by decide : 2 ≤ sizeLine), [.int i tk, x], .cons ⟨_, rfl⟩ (.cons (rel i x hx) .nil), ⟨_, tup2, rfl, _, rfl⟩⟩
    have stays : ∀ (b : Addr) (o : Obj), b ∉ [e, it] → s.heap.get? b = some o → h2.get? b = some o := fun b o hb q => by
      have b1 : b ≠ e := fun z => hb (z ▸ List.mem_cons_self)
      have b2 : b ≠ it := fun z => hb (z ▸ List.mem_cons_of_mem _ List.mem_cons_self)
      exact (same2.2 b b1).trans (keep1 b o b1 b2 q)
    refine ⟨.ref s.heap.objs.size, _, I.turnedNew (t' := tk + 1) stays hfp (Nat.le_refl _) ob, rfl, ⟨_, rfl, fr, rfl⟩, ⟨⟨x, ?_⟩, ?_, hne⟩, fun b hb => ?_⟩
    · rw [Int.natCast_add]
      exact en2
    · exact S.frame (i + 1) h1 h2 (back _ _ st1) fun o q => (same2.2 it (Ne.symm hne)).trans q
    · have hlt' : b < s.heap.objs.size := by
        rcases List.mem_cons.mp hb with z | z
        · exact z ▸ lE
        · exact (List.mem_singleton.mp z) ▸ lI
      exact (upd_ne (Nat.ne_of_lt hlt')).trans (hfp b hb).1
  done := by
    rintro X rfl rfl rfl calm i pins s σ H E I hfp ⟨⟨old, hen⟩, hs, hne⟩ ⟨hG, hle⟩
    obtain ⟨fp, Pt, St, D, hef, hst, back, rel⟩ := S.src X rfl rfl rfl pins s σ H I hG i old hs hen
    obtain ⟨f0, f1, f2, f3, f4, f5⟩ := hfp it (List.mem_cons_of_mem _ List.mem_cons_self)
    rw [hle] at hst
    exact wpAny_pyNext_enum_endD (D X.A.in1 (I.ok.hd calm)) hen hst fun h1 ext => ⟨rfl, I.turned (t' := s.toks) (fun b o hb q => ext b o hb q) f0 f1 f3 f4 f5⟩
  self := fun A i s Q E st h => by
    obtain ⟨⟨old, hen⟩, _⟩ := st
    exact wpAny_pyIter_enum hen h
/-! ### enumerate(v) begins -/
theorem enum_new1 {v : Value} {o : Obj} {Hs : Heap → Prop} (B : Begins v o Hs) :
    Meets (Builtin.«enumerate.__new__» ⟨[.type "enumerate", v], []⟩) (fun _ R s => Hs s.heap ∧
      R (.ok (.ret (.ref (s.heap.push o).objs.size))) { s with heap := (s.heap.push o).push { cls := .type "enumerate", data := .fields #[.none, .bool false, .ref s.heap.objs.size, rawInt 0, .none, .none] } }) :=
  .of_wp fun prog w A R s hyp => by
    obtain ⟨hp, g, d, tk, os⟩ := s
    obtain ⟨start, goal⟩ := hyp
    have sub := sub_enumerate
    have again : ∀ {B' : Around} {E' : Value → Shared → Prop} {Q' : Value → Shared → Prop}, Q' (.ref hp.objs.size) ⟨hp.push o, g, d, tk, os⟩ → wpAny (model prog w) B' (pyIter v) Q' E' ⟨hp, g, d, tk, os⟩ :=
      fun q => B.iter prog w _ _ ⟨hp, g, d, tk, os⟩ _ start q
    wp_walk using again
    refine wpAny_stack_any fun stk => wpAny_pure ?_
    split
    · rename_i c _ _ _ _ _
      cases (c == Value.type "enumerate") <;> (wp_walk using again; exact ⟨_, rfl, goal⟩)
    · wp_walk using again
      exact ⟨_, rfl, goal⟩
section
variable {prog : Program} {w : World} {A : Around} {E : Value → Shared → Prop} {s : Shared}
theorem enum_starts {v : Value} {o : Obj} {Hs : Heap → Prop} {Q : Value → Shared → Prop} (B : Begins v o Hs) (start : Hs s.heap)
    (goal : ∀ h', IsEnum h' (s.heap.objs.size + 1) s.heap.objs.size 0 .none → h'.get? s.heap.objs.size = some o →
      (∀ b u, s.heap.get? b = some u → h'.get? b = some u) → Q (.ref (s.heap.objs.size + 1)) { s with heap := h' }) : wpAny (model prog w) A (call (.type "enumerate") [v]) Q E s := by
  refine callType_new F.called_enumerate (by decide) (F.typeCall_enumerate_1 _) (F.newCall_enumerate_1 _) (fun obj => F.args_object_init_2 obj _) F.entry_enumerate_new (enum_new1 B) ⟨start, ?_⟩
  have size1 : (s.heap.push o).objs.size = s.heap.objs.size + 1 := Heap.size_push ..
  have made := Heap.get?_push_size (s.heap.push o) (o := { cls := .type "enumerate", data := .fields #[.none, .bool false, .ref s.heap.objs.size, rawInt 0, .none, .none] }) rfl
  rw [size1] at made ⊢
  refine ⟨⟨_, made, rfl⟩, goal _ made (Heap.get?_push_of_some _ (Heap.get?_push_size _ B.free)) fun b u q => Heap.get?_push_of_some _ (Heap.get?_push_of_some _ q)⟩
end
section
variable {X : Cx} {e : Expr} {ta : TA} {p pos tpos : Pos} {elts : List Expr} {kk : Nat}
/-- what a value must be to be enumerated: a tuple that is read, a text -/
def iEnumT (K : PySem.W.Frag) (ta : TA) : TI := fun σ H R => ta σ H fun vs H1 => ∃ (a : Addr) (xs : List V), vs = [.ref a] ∧ SqT K H1 a xs ∧ R (ItEn (fun H => SqT K H a xs) xs.length (fun i => xs.getD i .non)) H1
def iEnumS (ta : TA) : TI := fun σ H R => ta σ H fun vs H1 => ∃ x : Str, vs = [.str x] ∧ R (ItEn (fun _ => True) x.cps.size (fun i => .str ⟨#[x.cps.getD i 0]⟩)) H1
theorem src_tup {P : Program} {w : World} {K : PySem.W.Frag} {a e it : Addr} {xs : List V} (hne : e ≠ it) : EnSrc P w K (fun H => SqT K H a xs) xs.length (fun i => xs.getD i .non) e it (fun i h => h.IsTupleIter it a i) where
  live := fun i h st => by
    obtain ⟨o, ho, _, hd⟩ := st
    exact ⟨o, ho, fun v q => by rw [hd] at q; cases q⟩
  frame := fun i h h' st k => by
    obtain ⟨o, ho, r⟩ := st
    exact ⟨o, k o ho, r⟩
  src := by
    rintro X rfl rfl rfl pins s σ H I hG i old st hen
    obtain ⟨its, rv, tup, _⟩ := I.tuple hG
    obtain ⟨o1, h1, c1, _⟩ := id tup
    obtain ⟨o2, h2, c2, _⟩ := id st
    have ne1 : a ≠ it := fun z => by
      rw [z, h2] at h1
      rw [← Option.some.inj h1, c2] at c1
      exact absurd c1 (by decide)
    have ne2 : e ≠ a := fun z => by
      have q : s.heap.get? a = some _ := z ▸ hen
      rw [h1] at q
      rw [Option.some.inj q] at c1
      exact absurd (show Value.type "enumerate" = Value.type "tuple" from c1) (by decide)
    have size : its.toArray.size = xs.length := by rw [List.size_toArray, rv.length]
    refine ⟨[it, a], fun j v => its.toArray[j]? = some v, fun j h => h.IsTupleIter it a j ∧ h.IsTuple a its.toArray, fun A hh => size ▸ Draws.tuple hh it a ne1 its.toArray, ?_, ⟨st, tup⟩, fun j h st => st.1, fun j x q => ?_⟩
    · simp [hne, ne2]
    · have q' : its[j]? = some x := by simpa using q
      have lt : j < xs.length := by
        rw [rv.length]
        exact (List.getElem?_eq_some_iff.mp q').1
      obtain ⟨u, hu, ru⟩ := rv.get (i := j) (x := xs[j]) (by simp [lt])
      rw [q'] at hu
      rw [Option.some.inj hu, List.getD_eq_getElem?_getD, List.getElem?_eq_getElem lt]
      exact ru
theorem src_str {P : Program} {w : World} {K : PySem.W.Frag} {x : Str} {t : Tok} {e it : Addr} (hne : e ≠ it) : EnSrc P w K (fun _ => True) x.cps.size (fun i => .str ⟨#[x.cps.getD i 0]⟩) e it (fun i h => h.IsStrIter it (strIterType x) x t i) where
  live := fun i h st => by
    obtain ⟨o, ho, _, hd⟩ := st
    exact ⟨o, ho, fun v q => by rw [hd] at q; cases q⟩
  frame := fun i h h' st k => by
    obtain ⟨o, ho, r⟩ := st
    exact ⟨o, k o ho, r⟩
  src := by
    rintro X rfl rfl rfl pins s σ H I hG i old st hen
    refine ⟨[it], _, _, fun A hh => Draws.text hh it x t, ?_, st, fun j h st => st, fun j v q => ?_⟩
    · simp [hne]
    · obtain ⟨c, u, hc, rfl⟩ := q
      refine ⟨u, ?_⟩
      rw [Array.getD_eq_getD_getElem?, hc]
      rfl
theorem pi_enumT (hg : Gl X "enumerate") (hm : X.mg "enumerate" = none) (ha : PA X [e] ta) (hs : starEach [e] X.env = [(false, eval e X.env)] := by rfl) : PI X (.Tuple elts kk tpos) (.Call (.Name "enumerate" p) [e] [] pos) (iEnumT X.K ta) := by
  refine ⟨fun pins s σ H R I h => ?_⟩
  refine Call_ (ld_blt I hg hm boot_enumerate (callWith_type1 (thn (ha.run pos pins s σ H _ I h) fun us s1 ⟨vs, H1, I1, r1, a, xs, ev, hq, q⟩ => ?_) hs rfl))
  subst ev
  cases r1 with
  | cons r rr =>
    cases rr
    cases r
    obtain ⟨its, rv, tup, _⟩ := I1.tuple hq
    refine enum_starts (begins_tuple a its.toArray) tup fun h1 hen hit keep => wpAny_pyIter_enum hen ?_
    have ne : s1.heap.objs.size + 1 ≠ s1.heap.objs.size := Nat.succ_ne_self _
    refine ⟨_, _, _, _, H1, rfl, I1.kept (t' := s1.toks) keep, turn_en (src_tup ne), ⟨⟨_, hen⟩, ⟨_, hit, rfl, rfl⟩, ne⟩, fun b hb => ?_, q⟩
    have ge : s1.heap.objs.size ≤ b := by
      rcases List.mem_cons.mp hb with z | z
      · exact z ▸ Nat.le_succ _
      · exact Nat.le_of_eq (List.mem_singleton.mp z).symm
    exact I1.fpOk ge (I1.hok.fresh ge)
theorem pi_enumS (hg : Gl X "enumerate") (hm : X.mg "enumerate" = none) (ha : PA X [e] ta) (hs : starEach [e] X.env = [(false, eval e X.env)] := by rfl) : PI X (.Tuple elts kk tpos) (.Call (.Name "enumerate" p) [e] [] pos) (iEnumS ta) := by
  refine ⟨fun pins s σ H R I h => ?_⟩
  refine Call_ (ld_blt I hg hm boot_enumerate (callWith_type1 (thn (ha.run pos pins s σ H _ I h) fun us s1 ⟨vs, H1, I1, r1, x, ev, q⟩ => ?_) hs rfl))
  subst ev
  cases r1 with
  | cons r rr =>
    cases rr
    obtain ⟨t, rfl⟩ := r
    refine enum_starts (begins_text x t) trivial fun h1 hen hit keep => wpAny_pyIter_enum hen ?_
    have ne : s1.heap.objs.size + 1 ≠ s1.heap.objs.size := Nat.succ_ne_self _
    refine ⟨_, _, _, _, H1, rfl, I1.kept (t' := s1.toks) keep, turn_en (src_str (t := t) ne), ⟨⟨_, hen⟩, ⟨_, hit, rfl, rfl⟩, ne⟩, fun b hb => ?_, q⟩
    have ge : s1.heap.objs.size ≤ b := by
      rcases List.mem_cons.mp hb with z | z
      · exact z ▸ Nat.le_succ _
      · exact Nat.le_of_eq (List.mem_singleton.mp z).symm
    exact I1.fpOk ge (I1.hok.fresh ge)
end
end Sv

set_option Elab.async false
set_option linter.all false
set_option maxRecDepth 100000
set_option maxHeartbeats 4000000
/-! repr of data; list and sorted of a text; isinstance of a caught error. -/
namespace Sv
open PySem PySem.Spec PyProof.Rows L2

/-- what can be shown: ints of bounded size, no dict, not too deep, not too long -/
structure ShowOk (d : PyData) : Prop where
  sh : d.showable = true
  nd : d.hasDict = false
  dp : d.depth ≤ 50
  sz : d.shown.length ≤ sizeLine
section
variable {X : Cx}
theorem call_repr (hg : X.A.guards = some []) (hu : X.A.units + 64 < cLine) : CallR X (.builtin "repr") (fun xs H Q => ∃ x d, xs = [x] ∧ Dp X.K H x d ∧ ShowOk d ∧ Q (.str d.shown) H) := by
  intro pins s σ H xs us Q I r h
  obtain ⟨x, d, rfl, hd, ok, q⟩ := h
  cases r with
  | cons rx rr =>
    rename_i u us'
    cases rr
    have fl : ∀ tk, EP X pins σ Q (.str d.shown s.toks) { s with toks := tk } := fun tk => ⟨.str _, H, I.tok _, ⟨_, rfl⟩, q⟩
    cases hd with
    | non =>
      cases rx
      have e : PyData.shown .none = "None" := by simp only [PyData.shown]
      rw [e] at fl
      exact PySem.P.repr_of_none (fl _)
    | bl b =>
      cases rx
      have e : PyData.shown (.bool b) = (if b = true then Str.ofString "True" else Str.ofString "False") := by simp only [PyData.shown]
      rw [e] at fl
      exact PySem.P.repr_of_bool (fl _)
    | int i =>
      obtain ⟨t, rfl⟩ := rx
      have e : PyData.shown (.int i) = (toString i : String) := by simp only [PyData.shown]
      have s1 := ok.sh
      simp only [PyData.showable] at s1
      rw [e] at fl
      exact PySem.P.repr_of_int (of_decide_eq_true s1) (fl _)
    | str z =>
      obtain ⟨t, rfl⟩ := rx
      have e : PyData.shown (.str z) = reprText z := by simp only [PyData.shown]
      have s1 := ok.sz
      rw [e] at fl s1
      exact PySem.P.repr_of_str (fl _) s1
    | lst h1 h2 =>
      obtain ⟨as, rd⟩ := Dp.reads I _ _ u (.lst h1 h2) rx
      cases rx
      have dp := ok.dp
      exact repr_of_reads' rd ok.sh (fun z => absurd (ok.nd.symm.trans z) Bool.false_ne_true) hg (by omega) (fun _ _ e => e)
        (fun h' u' tk k => ⟨.str _, H, I.kept k, ⟨_, rfl⟩, q⟩) ok.sz
    | tup h1 h2 =>
      obtain ⟨as, rd⟩ := Dp.reads I _ _ u (.tup h1 h2) rx
      cases rx
      have dp := ok.dp
      exact repr_of_reads' rd ok.sh (fun z => absurd (ok.nd.symm.trans z) Bool.false_ne_true) hg (by omega) (fun _ _ e => e)
        (fun h' u' tk k => ⟨.str _, H, I.kept k, ⟨_, rfl⟩, q⟩) ok.sz

/-- the signs of a text, each a text -/
def signs (x : Str) : List Str := x.cps.toList.map fun c => tx [c]
theorem signs_len (x : Str) : (signs x).length = x.cps.size := by simp [signs]
theorem vals_of : ∀ {xs : List V} {us : List Value}, xs.length = us.length → (∀ (i : Nat) (x : V) (u : Value), xs[i]? = some x → us[i]? = some u → RelV x u) → Vals xs us
  | [], [], _, _ => .nil
  | [], _ :: _, h, _ => by simp at h
  | _ :: _, [], h, _ => by simp at h
  | x :: xs, u :: us, h, f => .cons (f 0 x u rfl rfl) (vals_of (by simpa using h) fun i y v h1 h2 => f (i + 1) y v (by simpa using h1) (by simpa using h2))
theorem vals_signs {x : Str} {acc : Array Value} (h : ItemsOf (SignAt x) acc x.cps.size) : Vals ((signs x).map V.str) acc.toList := by
  refine vals_of (by rw [List.length_map, signs_len, Array.length_toList, h.1]) fun i v u h1 h2 => ?_
  obtain ⟨c, k, hc, rfl⟩ := h.2 i u (by simpa using h2)
  have e : x.cps.toList[i]? = some c := by simpa using hc
  unfold signs at h1
  rw [List.getElem?_map, List.getElem?_map, e] at h1
  cases h1
  exact ⟨k, rfl⟩
theorem strs_of_vals : ∀ {ys : List Str} {us : List Value}, Vals (ys.map V.str) us → StrsAre us ys
  | [], _, h => by cases h; exact .nil
  | y :: ys, _, h => by
    cases h with
    | cons r rr =>
      obtain ⟨t, rfl⟩ := r
      exact .cons _ _ (strs_of_vals rr)
theorem vals_of_strs : ∀ {ys : List Str} {us : List Value}, StrsAre us ys → Vals (ys.map V.str) us
  | _, _, .nil => .nil
  | _, _, .cons y t h => .cons ⟨t, rfl⟩ (vals_of_strs h)
theorem call_list_text (hc : X.calm = true) : CallR X (.type "list") (fun xs H Q => ∃ x : Str, xs = [.str x] ∧ x.length ≤ sizeLine ∧ ∀ p, H p = none → Q (.ref p) (upd H p (.lst ((signs x).map V.str)))) := by
  intro pins s σ H xs us Q I r h
  obtain ⟨x, rfl, hz, q⟩ := h
  cases r with
  | cons rx rr =>
    cases rr
    obtain ⟨t, rfl⟩ := rx
    refine call_list_str (I.ok.hd hc) x t (fun h' tk acc c k made its => ?_) hz
    have new : ObjOk X.prog X.w (upd H s.heap.objs.size (.lst ((signs x).map V.str))) h' s.heap.objs.size (.lst ((signs x).map V.str)) :=
      ⟨by rw [List.length_map, signs_len]; exact hz, acc.toList, c, vals_signs its, by simpa using made⟩
    exact ⟨.ref _, _, I.laid k (Nat.le_refl _) new, rfl, q _ (I.hok.fresh (Nat.le_refl _))⟩
theorem sorted_text {prog : Program} {w : World} {A : Around} {E : Value → Shared → Prop} {s : Shared} {x : Str} {t : Tok} {Q : Value → Shared → Prop} (hh : A.handled = none) (h64 : x.cps.size < 64)
    (goal : ∀ (s1 : Shared) (h' : Heap) (out : Array Value) (c : Nat) (ys : List Str), (∀ b o, s.heap.get? b = some o → s1.heap.get? b = some o) → s1.gens = s.gens → s1.os = s.os → (∀ b o, s1.heap.get? b = some o → h'.get? b = some o) →
      h'.get? s1.heap.objs.size = some (seqObj "list" out c) → StrsAre out.toList ys → ys.Perm (signs x) → sortedS ys = true → Q (.ref s1.heap.objs.size) { s1 with heap := h' }) : wpAny (model prog w) A (call (.builtin "sorted") [.str x t]) Q E s := by
  refine Calls.call_function_entry kind_sorted plain_sorted entry_sorted (args_sorted1 _) ?_
  unfold Builtin.«sorted»
  refine wpAny_bind (m := checkCount "sorted" 1 1 _) (wpAny_pure ?_)
  refine wpAny_bind (wpAny_collect_str (A := A.in1) hh x t (fun s1 acc keep g1 d1 o1 its => ?_) (by rw [sizeLine_eq]; omega))
  have vs := vals_signs its
  have st := strs_of_vals vs
  have few : acc.toList.length < 64 := by rw [Array.length_toList, its.1]; exact h64
  refine wpAny_bind (wpAny_newList ?_ (by rw [sizeLine_eq]; omega))
  have at1 : (s1.heap.push (seqObj "list" acc.toList.toArray 0)).get? s1.heap.objs.size = some (seqObj "list" acc.toList.toArray 0) := Heap.get?_push_size _ rfl
  refine wpAny_bind (wpAny_holding (wpAny_call_entry slot_list_sort ⟨_, at1, rfl⟩ entry_list_sort (list_sort_treeK strKind_oneLt at1 st.keysOf (fun v1 v2 rest e => keyKind_strs (by rw [← e]; exact st)) few fun st' a1 a2 => ⟨_, rfl, ?_⟩) (args_list_sort _)))
  obtain ⟨ys, y1, y2, y3⟩ := sorted_out_str st a1 a2
  obtain ⟨c, hc⟩ := sortedHeap_at (vs := acc.toList) (out := (arrOf st').map (·.2)) at1
  refine wpAny_pure ⟨_, rfl, goal s1 _ _ c ys keep g1 o1 (fun b u q => ?_) hc y1 (y2.trans (by exact List.Perm.refl _)) y3⟩
  have lt := Heap.lt_size q
  show (sortedHeap (s1.heap.push (seqObj "list" acc.toList.toArray 0)) s1.heap.objs.size acc.toList _).get? b = some u
  rw [sortedHeap_old (Nat.ne_of_lt lt) (by rw [size_push']; exact Nat.lt_succ_of_lt lt)]
  exact Heap.get?_push_of_some _ q
theorem call_sorted_text (hc : X.calm = true) : CallR X (.builtin "sorted") (fun xs H Q => ∃ x : Str, xs = [.str x] ∧ x.length < 64 ∧ ∀ ys p, ys.Perm (signs x) → sortedS ys = true → H p = none → Q (.ref p) (upd H p (.lst (ys.map V.str)))) := by
  intro pins s σ H xs us Q I r h
  obtain ⟨x, rfl, hz, q⟩ := h
  cases r with
  | cons rx rr =>
    cases rr
    obtain ⟨t, rfl⟩ := rx
    refine sorted_text (I.ok.hd hc) hz fun s1 h' out c ys k g o k2 hg hs pm so => ?_
    have len : (ys.map V.str).length ≤ sizeLine := by
      have z : x.cps.size < 64 := hz
      rw [List.length_map, pm.length_eq, signs_len, sizeLine_eq]
      omega
    have I1 : Inv X pins σ H s1 := I.call' (ch := []) o (Un.kept k) (I.hok.kept k) (by rw [g]; exact I.bare) (fun _ z => nomatch z)
    have ob : ObjOk X.prog X.w (upd H s1.heap.objs.size (.lst (ys.map V.str))) h' s1.heap.objs.size (.lst (ys.map V.str)) := ⟨len, out.toList, c, vals_of_strs hs, hg⟩
    exact ⟨.ref _, _, I1.laid (t' := s1.toks) k2 (Nat.le_refl _) ob, rfl, q ys _ pm so (I1.hok.fresh (Nat.le_refl _))⟩
/-- isinstance of the error that the suite holds -/
theorem call_isEx {K : PySem.W.Frag} {a : Addr} {oe : Obj} {cls : Value} {d : Option Addr} {pn : List (Addr × Obj)} (hK : X.K = K) (hz : Zc cls d oe) (hf : ∃ vs, oe.data = .fields vs) :
    CallR (X.suite a ((a, oe) :: pn)) (.builtin "isinstance") (fun xs H Q => ∃ D, cls = .ref D ∧ d = none ∧ ExcC K D ∧ rIsE K D a xs H Q) := by
  subst hK
  intro pins s σ H xs us Q I r h
  obtain ⟨D, rfl, rfl, c, h⟩ := h
  exact call_isE c hz hf pins s σ H xs us Q I r h
end
theorem hu64 {k : Nat} {A : Around} (hr : Room k A) : A.units + 64 < cLine := hr.units
end Sv

set_option Elab.async false
set_option linter.all false
set_option maxRecDepth 100000
set_option maxHeartbeats 4000000
/-! Texts and tuples turned about; text * int. -/
namespace Sv
open PySem PySem.Spec PyProof.Rows L2 HT
/-- the text turned about -/
def revS (z : Str) : Str := tx z.cps.toList.reverse
theorem strIdx_rev (n : Nat) : Builtin.Str.strSliceIndices none none (-1) n = (List.range n).reverse := by
  show sliceRange ((n : Int) - 1) (-1) (-1) = _
  rw [PySem.W.krv_sliceRange, PySem.W.krv_range]
theorem getStr_rev {x : Str} : (((List.range x.length).reverse).filterMap (x.cps[·]?)).toArray = (revS x).cps := by
  rw [List.filterMap_reverse]
  show ((List.filterMap (fun k => x.cps[k]?) (List.range x.cps.size)).reverse).toArray = _
  rw [PySem.W.krv_all]
  rfl
section
variable {prog : Program} {w : World} {A : Around} {E : Value → Shared → Prop} {s : Shared}
theorem adjust_rev (n : Nat) : Builtin.Slice.sliceAdjust none none (-1) (n : Int) = ((n : Int) - 1, -1) := rfl
theorem places_rev (n : Nat) : Builtin.Slice.slicePlaces ((n : Int) - 1) (-1) (-1) = n := by
  unfold Builtin.Slice.slicePlaces
  have h1 : ¬ ((-1 : Int) > 0) := by decide
  simp only [h1, if_false]
  by_cases h : (n : Int) - 1 > -1
  · rw [if_pos h, show (- -1 : Int) = 1 by decide, Int.ediv_one]
    omega
  · rw [if_neg h]
    omega
theorem sliceApplied_rev {sl : Addr} {vl vu vs : Value} {n : Nat} {Q : Int × Int × Nat → Shared → Prop} (hs : s.heap.IsSliceOf sl vl vu vs) (pl : IsPart vl none) (pu : IsPart vu none) (ps : IsPart vs (some (-1)))
    (h : Q ((n : Int) - 1, -1, n) s) : wpAny (model prog w) A (Builtin.Slice.sliceApplied (.ref sl) (pure (n : Int))) Q E s := by
  obtain ⟨os, hos, hcs, hds⟩ := id hs
  unfold Builtin.Slice.sliceApplied Builtin.Slice.sliceFields
  refine wpAny_bind (wpAny_bind (wpAny_field hos hds (x := vl) rfl (wpAny_bind (wpAny_field hos hds (x := vu) rfl (wpAny_bind (wpAny_field hos hds (x := vs) rfl (wpAny_pure ?_)))))))
  refine wpAny_bind (slicePart_ ps ?_)
  show wpAny _ _ (if ((-1 : Int) == 0) = true then _ else _) _ _ s
  rw [if_neg (by decide)]
  refine wpAny_bind (slicePart_ pl (wpAny_bind (slicePart_ pu (wpAny_bind (wpAny_pure ?_)))))
  show wpAny _ _ (match Builtin.Slice.sliceAdjust none none (-1) (n : Int) with | (lo, hi) => pure (lo, (-1 : Int), Builtin.Slice.slicePlaces lo hi (-1))) _ _ s
  rw [adjust_rev n]
  show wpAny _ _ (pure ((n : Int) - 1, (-1 : Int), Builtin.Slice.slicePlaces ((n : Int) - 1) (-1) (-1))) _ _ s
  rw [places_rev]
  exact wpAny_pure h
theorem pick_rev (xs : Array Value) : ((List.range xs.size).filterMap fun (m : Nat) => xs[(((xs.size : Nat) : Int) - 1 + (m : Int) * (-1)).toNat]?).toArray = xs.toList.reverse.toArray := by
  have e : (List.range xs.size).filterMap (fun (m : Nat) => xs[(((xs.size : Nat) : Int) - 1 + (m : Int) * (-1)).toNat]?) = ((List.range xs.size).map (fun k => xs.size - 1 - k)).filterMap (xs[·]?) := by
    rw [List.filterMap_map]
    refine congrArg (fun f => List.filterMap f (List.range xs.size)) (funext fun m => ?_)
    have e2 : (((xs.size : Nat) : Int) - 1 + (m : Int) * (-1)).toNat = xs.size - 1 - m := by omega
    show xs[(((xs.size : Nat) : Int) - 1 + (m : Int) * (-1)).toNat]? = xs[xs.size - 1 - m]?
    rw [e2]
  rw [e, PySem.W.krv_range, List.filterMap_reverse, PySem.W.krv_all]
theorem getItem_tuple_rev {t sl : Addr} {items : Array Value} {vl vu vs : Value} {Q : Value → Shared → Prop} (ht : IsTup s.heap t items) (hs : s.heap.IsSliceOf sl vl vu vs) (pl : IsPart vl none) (pu : IsPart vu none) (ps : IsPart vs (some (-1)))
    (h : Q (.ref s.heap.objs.size) { s with heap := s.heap.push { cls := .type "tuple", data := .seq items.toList.reverse.toArray } })
    (hsz : items.size ≤ sizeLine) : wpAny (model prog w) A (getItem (.ref t) (.ref sl)) Q E s := by
  have htake : sizeOk (.seq items.toList.reverse.toArray) := by
    show items.toList.reverse.toArray.size ≤ sizeLine
    rw [List.size_toArray, List.length_reverse, Array.length_toList]
    exact hsz
  obtain ⟨os, hos, hcs, hds⟩ := id hs
  have hTs : s.TypeIs (.ref sl) "slice" := ⟨os, hos, hcs⟩
  unfold getItem
  try with_reducible refine wpAny_holding ?_
  first | refine wpAny_bind (wpAny_pure ?_) | skip
  refine wpAny_bind (wpAny_sequenceKey ht.typeIs (by decide) ?_)
  refine wpAny_bind (wpAny_callSpecial?_slot (name := Str.ofString "__getitem__") ht.typeIs PyProof.Rows.slot_tuple_getitem
    (wpAny_call_entry PyProof.Rows.slot_tuple_getitem ht.typeIs entry_tuple_getitem ?_ (args_tuple_getitem _ _)))
  show wpAny _ _ (Builtin.Tuple.tupleItemsOf (.ref t) >>= _) _ _ s
  refine wpAny_bind (tupleItemsOf_ ht ?_)
  refine wpAny_bind (wpAny_typeOf hTs ?_)
  rw [if_pos (by decide)]
  refine wpAny_bind (sliceApplied_rev hs pl pu ps ?_)
  have hno : ¬ ((((((items.size : Nat) : Int) - 1) == 0) && ((-1 : Int) == 1) && (items.size == items.size)) = true) := by
    rw [show ((-1 : Int) == 1) = false by decide, Bool.and_false, Bool.false_and]
    exact Bool.false_ne_true
  show wpAny _ _ (if ((((((items.size : Nat) : Int) - 1) == 0) && ((-1 : Int) == 1) && (items.size == items.size)) = true) then _ else _) _ _ s
  rw [if_neg hno, pick_rev]
  first
    | exact wpAny_bind (m := Builtin.Tuple.tupleExact _) (wpAny_newObj_type (wpAny_pure ⟨_, rfl, wpAny_pure h⟩) htake)
    | exact wpAny_bind (m := Builtin.Tuple.tupleExact _) (wpAny_newObj_type (wpAny_bind (wpAny_pure (wpAny_pure ⟨_, rfl, wpAny_pure h⟩))) htake)
    | exact wpAny_bind (wpAny_bind (m := Builtin.Tuple.tupleExact _) (wpAny_newObj_type (wpAny_pure (wpAny_pure ⟨_, rfl, wpAny_pure h⟩)) htake))
    | exact wpAny_bind (wpAny_bind (m := Builtin.Tuple.tupleExact _) (wpAny_newObj_type (wpAny_pure ⟨_, rfl, wpAny_pure h⟩) htake))
end
section
variable {X : Cx}
def tRevS (te : TE) : TE := fun σ H Q => te σ H fun x H1 => ∃ z, x = .str z ∧ z.length ≤ sizeLine ∧ Q (.str (revS z)) H1
theorem pe_rev_str {e : Expr} {te : TE} {k : Nat} {p1 p2 p3 pos : Pos} (he : PE X e te) : PE X (.Subscript e (.Slice none none (some (.UnaryOp .USub (.Constant (.int 1) k p1) p2)) p3) pos) (tRevS te) := by
  refine ⟨fun pins s σ H Q I h => ?_⟩
  refine Subscript_ (thn (he.run pins s σ H _ I h) fun v s1 ⟨x, H1, I1, r1, q1⟩ => ?_)
  obtain ⟨z, ex, hz, q⟩ := q1
  subst ex
  obtain ⟨t, rfl⟩ := r1
  have hst : PO X (some (.UnaryOp .USub (.Constant (.int 1) k p1) p2)) (tPart (tUn (rU fun i => .int (-i)) (tC (.int 1)))) := po_some (pe_un un_neg pe_int)
  refine wpAny_Slice (thn (po_none.run pins s1 σ H1 (fun o H2 => o = none ∧ H2 = H1) I1 ⟨rfl, rfl⟩) fun vl s2 ⟨l, H2, I2, pl, el, e2⟩ => ?_)
  subst el e2
  refine thn (po_none.run pins s2 σ H2 (fun o H3 => o = none ∧ H3 = H2) I2 ⟨rfl, rfl⟩) fun vu s3 ⟨u, H3, I3, pu, eu, e3⟩ => ?_
  subst eu e3
  refine thn (hst.run pins s3 σ H3 (fun o H4 => o = some (-1) ∧ H4 = H3) I3 ⟨1, rfl, -1, rfl, rfl, rfl⟩) fun vs s4 ⟨o, H4, I4, ps, eo, e4⟩ => ?_
  subst eo e4
  have I5 : Inv X pins σ H4 { s4 with heap := s4.heap.push { cls := .type "slice", data := .fields #[vl, vu, vs] } } := I4.kept (t' := s4.toks) fun b ob q => Heap.get?_push_of_some _ q
  show wpAny (model X.prog X.w) X.A (subscriptTail e (.Slice none none (some (.UnaryOp .USub (.Constant (.int 1) k p1) p2)) p3) (.str z t) (.ref s4.heap.objs.size)) (EP X pins σ Q) X.xe { s4 with heap := s4.heap.push { cls := .type "slice", data := .fields #[vl, vu, vs] } }
  refine tail_any (ops := [.str z t, .ref s4.heap.objs.size]) (typeIs_str _ _ _) (F.slot_str_getitem.lookup) ?_ (by with_unfolding_all rfl)
  obtain ⟨l, rfl, hl⟩ := IsPart.raw pl
  obtain ⟨u, rfl, hu⟩ := IsPart.raw pu
  obtain ⟨st, rfl, hs⟩ := IsPart.raw ps
  refine wpAny_getItem_str_slice (l := l) (u := u) (st := st) ⟨_, Heap.get?_push_size _ rfl, rfl, rfl⟩ (by rw [hs]; rfl) ?_
  unfold sliceMade slicePicked
  rw [hl, hu, hs]
  show Made.post (if ((-1 : Int) == 1 && (Builtin.Str.strSliceIndices none none (-1) z.length).length == z.length) = true then Made.val (.str z t)
    else Made.str ⟨((Builtin.Str.strSliceIndices none none (-1) z.length).filterMap (z.cps[·]?)).toArray⟩) (EP X pins σ Q) _
  rw [if_neg (by rw [show ((-1 : Int) == 1) = false by decide, Bool.false_and]; exact Bool.false_ne_true), strIdx_rev, getStr_rev]
  refine ⟨?_, .str _, H4, I5.tok _, ⟨_, rfl⟩, q⟩
  show (revS z).length ≤ sizeLine
  unfold revS
  rw [tx_len, List.length_reverse, Array.length_toList]
  exact hz
def tRevT (K : PySem.W.Frag) (te : TE) : TE := fun σ H Q => te σ H fun x H1 => ∃ a xs, x = .ref a ∧ SqT K H1 a xs ∧ ∀ p, H1 p = none → Q (.ref p) (upd H1 p (.tup xs.reverse))
theorem pe_rev_tup {e : Expr} {te : TE} {k : Nat} {p1 p2 p3 pos : Pos} (he : PE X e te) : PE X (.Subscript e (.Slice none none (some (.UnaryOp .USub (.Constant (.int 1) k p1) p2)) p3) pos) (tRevT X.K te) := by
  refine ⟨fun pins s σ H Q I h => ?_⟩
  refine Subscript_ (thn (he.run pins s σ H _ I h) fun v s1 ⟨x, H1, I1, r1, q1⟩ => ?_)
  obtain ⟨a, xs, ex, hx, q⟩ := q1
  subst ex
  cases r1
  have hst : PO X (some (.UnaryOp .USub (.Constant (.int 1) k p1) p2)) (tPart (tUn (rU fun i => .int (-i)) (tC (.int 1)))) := po_some (pe_un un_neg pe_int)
  refine wpAny_Slice (thn (po_none.run pins s1 σ H1 (fun o H2 => o = none ∧ H2 = H1) I1 ⟨rfl, rfl⟩) fun vl s2 ⟨l, H2, I2, pl, el, e2⟩ => ?_)
  subst el e2
  refine thn (po_none.run pins s2 σ H2 (fun o H3 => o = none ∧ H3 = H2) I2 ⟨rfl, rfl⟩) fun vu s3 ⟨u, H3, I3, pu, eu, e3⟩ => ?_
  subst eu e3
  refine thn (hst.run pins s3 σ H3 (fun o H4 => o = some (-1) ∧ H4 = H3) I3 ⟨1, rfl, -1, rfl, rfl, rfl⟩) fun vs s4 ⟨o, H4, I4, ps, eo, e4⟩ => ?_
  subst eo e4
  have I5 : Inv X pins σ H4 { s4 with heap := s4.heap.push { cls := .type "slice", data := .fields #[vl, vu, vs] } } := I4.kept (t' := s4.toks) fun b ob q => Heap.get?_push_of_some _ q
  obtain ⟨its, r, ht, hz⟩ := I5.tuple hx
  have hlen := r.length
  show wpAny (model X.prog X.w) X.A (subscriptTail e (.Slice none none (some (.UnaryOp .USub (.Constant (.int 1) k p1) p2)) p3) (.ref a) (.ref s4.heap.objs.size)) (EP X pins σ Q) X.xe { s4 with heap := s4.heap.push { cls := .type "slice", data := .fields #[vl, vu, vs] } }
  refine tail_any (ops := [.ref a, .ref s4.heap.objs.size]) ht.typeIs (PyProof.Rows.slot_tuple_getitem.lookup) ?_ (by with_unfolding_all rfl)
  refine getItem_tuple_rev ht (Heap.IsSliceOf.new _ vl vu vs) pl pu ps ?_ (by rw [List.size_toArray]; omega)
  refine ⟨.ref _, _, I5.laid (t' := s4.toks) (o := .tup xs.reverse) (fun b ob q => Heap.get?_push_of_some _ q) (Nat.le_refl _) ?_, rfl, q _ (I5.hok.fresh (Nat.le_refl _))⟩
  exact ⟨by rw [List.length_reverse]; exact hz, _, r.reverse, IsTup.new _ _⟩
/-- z, n times -/
def repS (z : Str) (n : Nat) : Str := tx (List.replicate n z.cps.toList).flatten
theorem foldl_rep1 (z : Array Nat) : ∀ (n : Nat) (a : Array Nat), ((List.replicate n z).foldl (· ++ ·) a) = a ++ ((List.replicate n z.toList).flatten).toArray
  | 0, a => by simp
  | n + 1, a => by
    rw [List.replicate_succ, List.foldl_cons, foldl_rep1 z n, List.replicate_succ, List.flatten_cons]
    apply Array.ext'
    simp
theorem repS_eq (z : Str) (n : Nat) : (⟨(List.replicate n z.cps).foldl (· ++ ·) #[]⟩ : Str) = repS z n := by
  rw [foldl_rep1]
  unfold repS tx
  simp
theorem repS_len (z : Str) (n : Nat) : (repS z n).length = n * z.length := by
  unfold repS
  rw [tx_len]
  simp [Str.length]
theorem op_mul_str : OpR X (binaryOp .Mult) (fun x y H Q => ∃ (z : Str) (n : Int), x = .str z ∧ y = .int n ∧ 0 ≤ n ∧ n ≤ 1000 ∧ z.length ≤ 1000 ∧ Q (.str (repS z n.toNat)) H) := by
  intro pins s σ H x y v u Q I rx ry h
  obtain ⟨z, n, rfl, rfl, h0, h1, hz, q⟩ := h
  obtain ⟨t, rfl⟩ := rx
  obtain ⟨t', rfl⟩ := ry
  have hle : z.length * n.toNat ≤ 1000000 := by
    have : z.length * n.toNat ≤ 1000 * 1000 := Nat.mul_le_mul hz (by omega)
    omega
  refine PySem.P.mul_str ?_ (fun a b => ?_) (fun a b => ?_) ?_
  · rw [decide_eq_false (by omega), decide_eq_false (by omega)]
    rfl
  · have : (9223372036854775807 : Int) / n ≥ 1000 := by
      rw [ge_iff_le, Int.le_ediv_iff_mul_le (by omega)]
      omega
    have e : ((2 : Int) ^ 63 - 1) = 9223372036854775807 := by decide
    rw [e]
    omega
  · unfold Builtin.Str.tooLong
    rw [sizeLine_eq]
    exact decide_eq_false (by omega)
  · by_cases c : n < 1
    · rw [if_pos c]
      have e : n.toNat = 0 := by omega
      rw [e] at q
      exact ⟨by decide, .str _, H, I.tok _, ⟨_, rfl⟩, q⟩
    · rw [if_neg c]
      by_cases d : (n == 1 || z.length == 0) = true
      · rw [if_pos d]
        have e : repS z n.toNat = z := by
          rw [Bool.or_eq_true] at d
          rcases d with d | d
          · have : n = 1 := eq_of_beq d
            subst this
            show tx (List.replicate 1 z.cps.toList).flatten = z
            rw [tx_of z]
            simp
          · have d : z.length = 0 := eq_of_beq d
            have e0 : (repS z n.toNat).length = 0 := by rw [repS_len, d, Nat.mul_zero]
            have f : ∀ s : Str, s.length = 0 → s = tx [] := by
              intro s hs
              rw [tx_of s]
              have : s.cps.toList.length = 0 := by rw [Array.length_toList]; exact hs
              rw [List.eq_nil_of_length_eq_zero this]
            rw [f _ e0, f _ d]
        rw [e] at q
        exact ⟨.str z, H, I, ⟨t, rfl⟩, q⟩
      · rw [if_neg d, repS_eq]
        refine ⟨?_, .str _, H, I.tok _, ⟨_, rfl⟩, q⟩
        show (repS z n.toNat).length ≤ sizeLine
        rw [repS_len, sizeLine_eq, Nat.mul_comm]
        omega
end
end Sv

set_option Elab.async false
set_option linter.all false
set_option maxRecDepth 100000
set_option maxHeartbeats 4000000
/-! Walks over enumerate; comprehensions that only make; texts. -/
namespace Sv
open PySem PySem.Spec PyProof.Rows L2

theorem same_new {H : Hp} {p : Addr} {o : HO} (h : H p = none) : Same H (upd H p o) := Evl.Ex.new h
/-- the i-th turn of an enumerate -/
def YEn (f : Nat → V) : Nat → Hp → V → Hp → Prop := fun i H v H' => ∃ T, v = .ref T ∧ H T = none ∧ H' = upd H T (.tup [.int (i : Nat), f i])
theorem walk_en {G : Hp → Prop} {n : Nat} {f : Nat → V} : Walk (ItEn G n f) n G (YEn f) :=
  ⟨fun i H hi h => ⟨h, hi⟩, fun H h => ⟨h, rfl⟩, fun i H x H' _ _ y => y⟩
theorem walk_sign {z : Str} : Walk (Its z) z.cps.size (fun _ => True) (YFn fun i => .str (tx [z.cps.getD i 0])) :=
  walk_str.mono (fun _ h => h) fun i H x H' hi _ y => by
    obtain ⟨e, c, hc, rfl⟩ := y
    refine ⟨e, ?_⟩
    have : z.cps.getD i 0 = c := by rw [Array.getD_eq_getD_getElem?, hc]; rfl
    show V.str (tx [c]) = V.str (tx [z.cps.getD i 0])
    rw [this]
/-- a comprehension that only makes: the i-th turn gives res i, or nothing -/
theorem lc_pure {J : It} {n : Nat} {G : Hp → Prop} {Y : Nat → Hp → V → Hp → Prop} (w : Walk J n G Y) {g : TG} {tt : TT} {te : TE} {vs : List Nat} {σ : L2.St} {H1 : Hp} {D : Addr} {Qd : Hp → Prop} (res : Nat → Option V) (hD : H1 D = none) (hn : n ≤ sizeLine)
    (hG : ∀ H, Same H1 H → G H) (hY : ∀ i H x H', Y i H x H' → Same H H')
    (hs : ∀ i x H H' (N : Hp → Prop) (C : V → Hp → Prop), i < n → Same H1 H → Y i H x H' → (res i = none → ∀ H3, Same H' H3 → N H3) → (∀ y, res i = some y → ∀ H3, Same H' H3 → C y H3) →
      g x (wipe σ vs) H' fun σ2 H2 => wipe σ2 vs = wipe σ vs ∧ tt σ2 H2 fun b H3 => if b = true then te σ2 H3 C else N H3)
    (hd : ∀ H, Same H1 H → H D = some (.lst ((List.range n).filterMap res)) → Qd H) :
    ∃ W : Nat → Nat → Hp → Prop, (∃ m, W 0 m (upd H1 D (.lst []))) ∧ ∀ i m H, W i m H →
      (J.stop i H ∧ Qd H) ∨ (J.go i H ∧ ∃ Nx : Hp → Prop, (∀ H', Nx H' → ∃ m', m' < m ∧ W (i + 1) m' H') ∧ ∀ x H', J.yld i H x H' → g x (wipe σ vs) H' fun σ2 H2 => wipe σ2 vs = wipe σ vs ∧ tt σ2 H2 fun b H3 =>
        if b = true then te σ2 H3 fun y H4 => ∃ acc, H4 D = some (.lst acc) ∧ acc.length < sizeLine ∧ Nx (upd H4 D (.lst (acc ++ [y]))) else Nx H3) := by
  refine lc_it w (fun i H => Same H1 H ∧ H D = some (.lst ((List.range i).filterMap res))) ⟨same_new hD, upd_same⟩ (fun i H _ h => hG H h.1) (fun i x H H' hi p y => ?_) (fun H p => hd H p.1 p.2)
  refine hs i x H H' _ _ hi p.1 y (fun e H3 s3 => ?_) (fun z e H3 s3 => ?_)
  · refine ⟨p.1.trans ((hY i H x H' y).trans s3), ?_⟩
    rw [List.range_succ, List.filterMap_append]
    simp only [List.filterMap_cons, List.filterMap_nil, e, List.append_nil]
    exact s3 _ _ (hY i H x H' y _ _ p.2)
  · have hl := List.length_filterMap_le res (List.range i)
    rw [List.length_range] at hl
    refine ⟨_, s3 _ _ (hY i H x H' y _ _ p.2), by omega, fun b o q => ?_, ?_⟩
    · rw [upd_ne (fun e => by rw [e, hD] at q; cases q)]
      exact s3 _ _ (hY i H x H' y _ _ (p.1 _ _ q))
    · rw [upd_same, List.range_succ, List.filterMap_append]
      simp only [List.filterMap_cons, List.filterMap_nil, e]
/-! ### texts -/
theorem strjoin_nil : ∀ ys : List Str, Str.join ⟨#[]⟩ ys = tx (ys.map fun y => y.cps.toList).flatten
  | [] => rfl
  | y :: ys => by
    rw [join_nil_cons, strjoin_nil ys, List.map_cons, List.flatten_cons]
    conv => lhs; rw [tx_of y]
    rw [tx_app]
theorem glued_foldl (r : List Str) : ∀ a : Array Nat, r.foldl (fun acc p => acc ++ (#[] : Array Nat) ++ p.cps) a = a ++ ((r.map fun y => y.cps.toList).flatten).toArray := by
  induction r with
  | nil => intro a; simp
  | cons y r ih =>
    intro a
    rw [List.foldl_cons, ih, List.map_cons, List.flatten_cons]
    apply Array.ext'
    simp
/-- the texts, one behind the other -/
def jn (ys : List Str) : Str := tx (ys.map fun y => y.cps.toList).flatten
theorem join_jn (ys : List Str) : Txt.join "" ys = jn ys := by
  show (⟨(ys.drop 1).foldl (fun acc p => acc ++ (#[] : Array Nat) ++ p.cps) (ys.headD Str.empty).cps⟩ : Str) = _
  rw [glued_foldl]
  cases ys with
  | nil => rfl
  | cons y ys =>
    unfold jn tx
    simp
theorem jn_len (ys : List Str) : (jn ys).length = (ys.map (·.length)).sum := by
  unfold jn
  rw [tx_len, List.length_flatten, List.map_map]
  rfl
theorem jn_signs (l : List Nat) : jn (l.map fun c => tx [c]) = tx l := by
  unfold jn
  rw [List.map_map]
  congr 1
  congr 1
  induction l with
  | nil => rfl
  | cons a l ih => rw [List.map_cons, List.flatten_cons, ih]; rfl
theorem sum_signs (l : List Nat) : ((l.map fun c => tx [c]).map (·.length)).sum = l.length := by
  induction l with
  | nil => rfl
  | cons a l ih => rw [List.map_cons, List.map_cons, List.sum_cons, ih, List.length_cons, Nat.add_comm]; rfl
theorem takeWhile_whole {p : Nat → Bool} : ∀ {l : List Nat}, (∀ c ∈ l, p c = true) → l.takeWhile p = l
  | [], _ => rfl
  | a :: l, h => by rw [List.takeWhile_cons, if_pos (h a List.mem_cons_self), takeWhile_whole fun c m => h c (List.mem_cons_of_mem _ m)]
/-- every sign of it stands among these -/
theorem strip_all {w l : Str} (h : ∀ c ∈ w.cps.toList, c ∈ l.cps.toList) : Txt.stripChars w l = "" := by
  have hc : ∀ c ∈ w.cps.toList, l.cps.contains c = true := fun c hm => by
    have := h c hm
    rw [Array.mem_toList_iff] at this
    exact Array.contains_iff_mem.mpr this
  have lo : stripLo l.cps.contains true w = w.length := by
    show (w.cps.toList.takeWhile l.cps.contains).length = w.cps.size
    rw [show w.cps.toList.takeWhile l.cps.contains = w.cps.toList from takeWhile_whole hc, Array.length_toList]
  have hi : stripHi l.cps.contains true w w.length = w.length := by
    show w.length - ((w.cps.toList.drop w.length).reverse.takeWhile l.cps.contains).length = w.length
    rw [List.drop_of_length_le (by rw [Array.length_toList]; exact Nat.le_refl _)]
    rfl
  show (if stripSame l.cps.contains true true w then w else stripped l.cps.contains true true w) = _
  by_cases e : stripSame l.cps.contains true true w = true
  · rw [if_pos e]
    unfold stripSame at e
    rw [lo, Bool.and_eq_true] at e
    have z : w.length = 0 := eq_of_beq e.1
    rw [tx_of w, List.eq_nil_of_length_eq_zero (show w.cps.toList.length = 0 by rw [Array.length_toList]; exact z)]
    rfl
  · rw [if_neg e]
    unfold stripped
    rw [lo, hi]
    show (⟨w.cps.extract w.length w.length⟩ : Str) = _
    have : w.cps.extract w.length w.length = #[] := by simp [Str.length]
    rw [this]
    rfl
/-- the letters from one another's place on -/
theorem takeWhile_lt {p : Nat → Bool} : ∀ {l : List Nat} {c : Nat}, c ∈ l → p c = false → (l.takeWhile p).length < l.length
  | [], _, h, _ => by cases h
  | a :: l, c, h, hp => by
    rw [List.takeWhile_cons]
    by_cases ha : p a = true
    · rw [if_pos ha, List.length_cons, List.length_cons]
      rcases List.mem_cons.mp h with e | h
      · rw [e, ha] at hp
        cases hp
      · have := takeWhile_lt h hp
        omega
    · rw [if_neg ha]
      exact Nat.succ_pos _
theorem mem_drop_takeWhile {p : Nat → Bool} : ∀ {l : List Nat} {c : Nat}, c ∈ l → p c = false → c ∈ l.drop (l.takeWhile p).length
  | [], _, h, _ => by cases h
  | a :: l, c, h, hp => by
    rw [List.takeWhile_cons]
    by_cases ha : p a = true
    · rw [if_pos ha, List.length_cons, List.drop_succ_cons]
      rcases List.mem_cons.mp h with e | h
      · rw [e, ha] at hp
        cases hp
      · exact mem_drop_takeWhile h hp
    · rw [if_neg ha]
      exact h
theorem strip_not {w l : Str} {c : Nat} (h : c ∈ w.cps.toList) (hn : c ∉ l.cps.toList) : Txt.stripChars w l ≠ "" := by
  have hp : l.cps.contains c = false := by
    cases e : l.cps.contains c with
    | false => rfl
    | true => exact absurd (Array.mem_toList_iff.mpr (Array.contains_iff_mem.mp e)) hn
  have h0 : w.length ≠ 0 := fun z => by
    rw [List.eq_nil_of_length_eq_zero (show w.cps.toList.length = 0 by rw [Array.length_toList]; exact z)] at h
    cases h
  show (if stripSame l.cps.contains true true w then w else stripped l.cps.contains true true w) ≠ _
  by_cases e : stripSame l.cps.contains true true w = true
  · rw [if_pos e]
    intro z
    rw [z] at h0
    exact h0 rfl
  · rw [if_neg e]
    intro z
    have ll : w.cps.toList.length = w.cps.size := Array.length_toList
    have lt := takeWhile_lt (l := w.cps.toList) h hp
    have md := mem_drop_takeWhile (l := w.cps.toList) h hp
    have lt2 := takeWhile_lt (l := (w.cps.toList.drop (w.cps.toList.takeWhile l.cps.contains).length).reverse) (List.mem_reverse.mpr md) hp
    rw [List.length_reverse, List.length_drop] at lt2
    have zl := congrArg Str.length z
    have e2 : (stripped l.cps.contains true true w).length = min (w.cps.size - ((w.cps.toList.drop (w.cps.toList.takeWhile l.cps.contains).length).reverse.takeWhile l.cps.contains).length) w.cps.size - (w.cps.toList.takeWhile l.cps.contains).length := by
      show (w.cps.extract _ _).size = _
      rw [Array.size_extract]
      rfl
    rw [e2] at zl
    have z0 : ("" : Str).length = 0 := rfl
    rw [z0] at zl
    omega
theorem strip_iff (w l : Str) : decide (Txt.stripChars w l = "") = w.cps.toList.all fun c => decide (c ∈ l.cps.toList) := by
  by_cases h : ∀ c ∈ w.cps.toList, c ∈ l.cps.toList
  · rw [decide_eq_true (strip_all h)]
    exact (List.all_eq_true.mpr fun c m => decide_eq_true (h c m)).symm
  · have ⟨c, hc⟩ := Classical.not_forall.mp h
    have ⟨m, n⟩ := Classical.not_imp.mp hc
    rw [decide_eq_false (strip_not m n)]
    exact (List.all_eq_false.mpr ⟨c, m, by simpa using n⟩).symm
/-! ### items by place -/
def keep (b : Bool) (v : V) : Option V := if b = true then some v else none
theorem keep_t {b : Bool} {v : V} (h : b = true) : keep b v = some v := if_pos h
theorem keep_f {b : Bool} {v : V} (h : b = false) : keep b v = none := by rw [h]; rfl
theorem range_map (a : Array Nat) : (List.range a.size).map (fun i => a.getD i 0) = a.toList := by
  apply List.ext_getElem
  · simp
  · intro i h1 h2
    have hi : i < a.size := by simpa using h1
    rw [List.getElem_map, List.getElem_range, Array.getElem_toList, Array.getD_eq_getD_getElem?, Array.getElem?_eq_getElem hi]
    rfl
theorem keep_map (l : List Nat) (P : Nat → Bool) (g : Nat → V) : l.filterMap (fun i => keep (P i) (g i)) = (l.filter P).map g := by
  induction l with
  | nil => rfl
  | cons a l ih =>
    rw [List.filterMap_cons, List.filter_cons]
    cases h : P a
    · rw [keep_f rfl, if_neg Bool.false_ne_true]
      exact ih
    · rw [keep_t rfl, if_pos rfl, List.map_cons, ← ih]
theorem range_keep (a : Array Nat) (P : Nat → Bool) (g : Nat → V) : (List.range a.size).filterMap (fun i => keep (P (a.getD i 0)) (g (a.getD i 0))) = (a.toList.filter P).map g := by
  rw [← keep_map, ← range_map, List.filterMap_map]
  rfl
theorem range_some (n : Nat) (g : Nat → V) : (List.range n).filterMap (fun i => some (g i)) = (List.range n).map g := by
  rw [← List.filterMap_eq_map]
  rfl
theorem range_signs (a : Array Nat) (g : Nat → V) : (List.range a.size).filterMap (fun i => some (g (a.getD i 0))) = a.toList.map g := by
  rw [← range_map, List.map_map, range_some]
  rfl
theorem range_list {α : Type} (xs : List α) (d : α) : (List.range xs.length).map (fun i => xs.getD i d) = xs := by
  apply List.ext_getElem
  · simp
  · intro i h1 h2
    rw [List.getElem_map, List.getElem_range, List.getD_eq_getElem?_getD, List.getElem?_eq_getElem h2]
    rfl
/-! ### sorted signs -/
def sortN (l : List Nat) : List Nat := l.mergeSort fun a b => decide (a ≤ b)
theorem sortN_perm (l : List Nat) : (sortN l).Perm l := List.mergeSort_perm _ _
theorem sortN_le (l : List Nat) : (sortN l).Pairwise (· ≤ ·) := by
  have := List.pairwise_mergeSort (le := fun a b : Nat => decide (a ≤ b)) (fun a b c h1 h2 => decide_eq_true (Nat.le_trans (of_decide_eq_true h1) (of_decide_eq_true h2)))
    (fun a b => by rw [Bool.or_eq_true, decide_eq_true_eq, decide_eq_true_eq]; omega) l
  exact this.imp fun h => of_decide_eq_true h
theorem sortN_uniq {l m : List Nat} (h : m.Perm l) (s : m.Pairwise (· ≤ ·)) : m = sortN l :=
  List.Perm.eq_of_pairwise (le := (· ≤ ·)) (fun a b _ _ h1 h2 => Nat.le_antisymm h1 h2) s (sortN_le l) (h.trans (sortN_perm l).symm)
theorem rising_signs : ∀ (l : List Nat) (a : Nat), risingS (tx [a]) (l.map fun c => tx [c]) = true → (a :: l).Pairwise (· ≤ ·)
  | [], a, _ => List.pairwise_singleton _ _
  | b :: l, a, h => by
    have h' : (!ltCps [b] [a] && risingS (tx [b]) (l.map fun c => tx [c])) = true := h
    rw [Bool.and_eq_true, Bool.not_eq_true', ltCps_eq] at h'
    have p := rising_signs l b h'.2
    have ab : a ≤ b := by
      have := of_decide_eq_false h'.1
      refine Nat.le_of_not_lt fun lt => this ?_
      exact List.Lex.rel lt
    refine List.pairwise_cons.mpr ⟨fun c hc => ?_, p⟩
    rcases List.mem_cons.mp hc with e | hc
    · rw [e]; exact ab
    · exact Nat.le_trans ab ((List.pairwise_cons.mp p).1 c hc)
theorem sorted_signs {l : List Nat} (h : sortedS (l.map fun c => tx [c]) = true) : l.Pairwise (· ≤ ·) := by
  cases l with
  | nil => exact .nil
  | cons a l => exact rising_signs l a h
theorem perm_signs {ys : List Str} {l : List Nat} (h : ys.Perm (l.map fun c => tx [c])) : ∃ m : List Nat, ys = m.map (fun c => tx [c]) ∧ m.Perm l := by
  have e : ys = (ys.map fun y => y.cps.toList.headD 0).map fun c => tx [c] := by
    rw [List.map_map]
    have : ∀ y ∈ ys, ((fun c => tx [c]) ∘ fun y : Str => y.cps.toList.headD 0) y = id y := fun y hy => by
      obtain ⟨c, _, rfl⟩ := List.mem_map.mp (h.mem_iff.mp hy)
      rfl
    rw [List.map_congr_left this, List.map_id]
  refine ⟨_, e, ?_⟩
  have := h.map fun y => y.cps.toList.headD 0
  rw [List.map_map] at this
  have e2 : l.map ((fun y : Str => y.cps.toList.headD 0) ∘ fun c => tx [c]) = l := by
    have : ∀ c ∈ l, ((fun y : Str => y.cps.toList.headD 0) ∘ fun c => tx [c]) c = id c := fun _ _ => rfl
    rw [List.map_congr_left this, List.map_id]
  rw [e2] at this
  exact this
/-- sorted signs, joined -/
theorem sorted_jn {ys : List Str} {l : List Nat} (h : ys.Perm (l.map fun c => tx [c])) (s : sortedS ys = true) : ys = (sortN l).map fun c => tx [c] := by
  obtain ⟨m, rfl, p⟩ := perm_signs h
  rw [sortN_uniq p (sorted_signs s)]
theorem signs_map (x : Str) : signs x = x.cps.toList.map fun c => tx [c] := rfl
theorem iT {c : Bool} {A B : Prop} (h : c = true) (a : A) : if c = true then A else B := by rw [if_pos h]; exact a
theorem iF {c : Bool} {A B : Prop} (h : c = false) (b : B) : if c = true then A else B := by rw [if_neg (by rw [h]; exact Bool.false_ne_true)]; exact b
theorem dF {p : Prop} [Decidable p] (h : ¬ p) : decide p = false := decide_eq_false h
theorem dT {p : Prop} [Decidable p] (h : p) : decide p = true := decide_eq_true h
/-! ### places -/
theorem decS {a b : Str} : decide (V.str a = V.str b) = decide (a = b) := by
  rw [Bool.eq_iff_iff]
  simp
theorem decI {a b : Int} : decide (V.int a = V.int b) = decide (a = b) := by
  rw [Bool.eq_iff_iff]
  simp
theorem at_str {w : Str} {i : Int} (h0 : 0 ≤ i) (h1 : i < ((w.length : Nat) : Int)) : atI w.cps.toList i = some (w.cps.getD i.toNat 0) := by
  have e : i = ((i.toNat : Nat) : Int) := by omega
  have hi : i.toNat < w.cps.size := by
    have : w.cps.size = w.length := rfl
    omega
  rw [e]
  refine atI_nat ?_
  show w.cps.toList[i.toNat]? = _
  rw [Array.getElem?_toList, Array.getElem?_eq_getElem hi, Int.toNat_natCast, Array.getD_eq_getD_getElem?, Array.getElem?_eq_getElem hi]
  rfl
theorem getD_strs {ps : List Str} {i : Nat} (h : i < ps.length) : (ps.map V.str).getD i .non = V.str (ps.getD i "") := by
  rw [List.getD_eq_getElem?_getD, List.getElem?_map, List.getD_eq_getElem?_getD, List.getElem?_eq_getElem h]
  rfl
theorem oneS {z : Str} (h : z.length = 1) : z = tx [z.cps.getD 0 0] := by
  have hl : z.cps.toList.length = 1 := by rw [Array.length_toList]; exact h
  obtain ⟨a, e⟩ := List.length_eq_one_iff.mp hl
  have e2 : z.cps.getD 0 0 = a := by
    rw [Array.getD_eq_getD_getElem?, ← Array.getElem?_toList, e]
    rfl
  rw [e2, ← e]
theorem all_range_succ {n : Nat} {p : Nat → Bool} (h : ∀ j, j < n → p j = true) : (List.range n).all p = true := List.all_eq_true.mpr fun j m => h j (List.mem_range.mp m)
theorem all_range_not {n i : Nat} {p : Nat → Bool} (hi : i < n) (h : p i = false) : (List.range n).all p = false := List.all_eq_false.mpr ⟨i, List.mem_range.mpr hi, by rw [h]; exact Bool.false_ne_true⟩
/-! ### the same within a comprehension: the fragment told -/
section
variable {X : Cx} {K : PySem.W.Frag} {pos apos cpos p2 : Pos} {e o : Expr} {es : List Expr} {to te : TE} {t : TA} {name : Str} {id T : String} {r : V → List V → Hp → VK → Prop}
theorem pg_tupK (hK : X.K = K) {k : Nat} {t : TGs} {n : Nat} (hc : X.calm = true) (h : PGs X es t)
    (hn : (assignEach es X.env).length = n := by rfl) (hst : (assignEach es X.env).findIdx? (·.1) = none := by rfl) : PG X (.Tuple es k pos) (gTup K n t) := by
  subst hK
  exact pg_tup hc h hn hst
theorem call_len_seqK (hK : X.K = K) : CallR X (.builtin "len") (fun xs H Q => ∃ p ys, xs = [.ref p] ∧ (SqL K H p ys ∨ SqT K H p ys) ∧ Q (.int ys.length) H) := by
  subst hK
  exact call_len_seq
theorem ix_listK (hK : X.K = K) : IxR X (rIxL K) := by
  subst hK
  exact ix_list
theorem ix_tupK (hK : X.K = K) : IxR X (rIxT K) := by
  subst hK
  exact ix_tup
theorem sl_listK (hK : X.K = K) : SlR X (rSlL K) := by
  subst hK
  exact sl_list
theorem sl_tupAK (hK : X.K = K) : SlR X (rSlA K) := by
  subst hK
  exact sl_tupA
theorem call_tuple_ofK (hK : X.K = K) : CallR X (.type "tuple") (fun xs H Q => ∃ p ys, xs = [.ref p] ∧ ((SqL K H p ys ∧ ∀ l, H l = none → Q (.ref l) (upd H l (.tup ys))) ∨ (SqT K H p ys ∧ Q (.ref p) H))) := by
  subst hK
  exact call_tuple_of
theorem cr_sortedSK (hK : X.K = K) : CallR X (.builtin "sorted") (rSortedS K) := by
  subst hK
  exact cr_sortedS
theorem op_in_seqK (hK : X.K = K) : OpR X (compareOp .In) (rIn K false) := by
  subst hK
  exact op_in_seq
theorem pe_joinK (hK : X.K = K) (ho : PE X o to) (he : PE X e te) (hs : starEach [e] X.env = [(false, eval e X.env)] := by rfl) (hbase : attributeBase o "join" X.env (eval o X.env) = eval o X.env := by rfl) (hline : (apos.endLine == pos.line) = true := by rfl) :
    PE X (.Call (.Attribute o "join" apos) [e] [] pos) (tM1 (fun x xs H Q => ∃ a p, ∃ ys : List Str, x = .str a ∧ xs = [.ref p] ∧ (SqL K H p (ys.map V.str) ∨ SqT K H p (ys.map V.str)) ∧
      (ys.map (·.length)).sum + ys.length * a.length ≤ 16777216 ∧ Q (.str (Txt.join a ys)) H) to te) := by
  subst hK
  exact pe_join ho he hs hbase hline
theorem pe_bmK (hK : X.K = K) (pa : PlainAttrs T) (slot : Slot T name id) (hty : typeOf (.builtin id) = pure (.type "method_descriptor")) (hm : MtR X id r) (ho : PE X o to) (ha : PA X (e :: es) t)
    (hbase : attributeBase o name X.env (eval o X.env) = eval o X.env := by rfl)
    (hfew : ((backTo cpos (starEach (e :: es) X.env)).all (fun x => !x.1) && (backToKw cpos (keywordEach [] X.env)).all (fun x => x.1.isSome)
      && decide ((e :: es).length + ([] : List Keyword).length + (if ([] : List Keyword).isEmpty then 0 else 1) < 30)) = true := by rfl)
    (hline : (apos.endLine == cpos.line) = true := by rfl) (hs : starEach (e :: es) X.env = (false, eval e X.env) :: starEach es X.env := by rfl) (hplain : (backTo cpos (starEach es X.env)).any (·.1) = false := by rfl) :
    PE X (.Call (.Attribute o name apos) (e :: es) [] cpos) (tBM K T r to t) := by
  subst hK
  exact pe_bm pa slot hty hm ho ha hbase hfew hline hs hplain
end
end Sv

set_option Elab.async false
set_option linter.all false
set_option maxRecDepth 100000
set_option maxHeartbeats 4000000
/-! A law's draws: a list of small ints that is eaten up. -/
namespace Sv
open PySem PySem.Spec PyProof.Rows L2

/-- a list of draws stands at d -/
def Dw (H : Hp) (d : Addr) : Prop := ∃ ns : List Int, H d = some (.lst (ns.map V.int)) ∧ ∀ n ∈ ns, 0 ≤ n ∧ n < 1000
/-- all but d stays -/
def KeepX (d : Addr) (H H' : Hp) : Prop := ∀ b o, b ≠ d → H b = some o → H' b = some o
theorem KeepX.refl {d : Addr} (H : Hp) : KeepX d H H := fun _ _ _ h => h
theorem KeepX.trans {d : Addr} {H H1 H2 : Hp} (a : KeepX d H H1) (b : KeepX d H1 H2) : KeepX d H H2 := fun c o n h => b c o n (a c o n h)
theorem KeepX.of {d : Addr} {H H' : Hp} (s : Same H H') : KeepX d H H' := fun b o _ h => s b o h
theorem KeepX.free {d D : Addr} {H H' : Hp} (k : KeepX d H H') (n : D ≠ d) (h : H' D = none) : H D = none := by
  cases e : H D with
  | none => rfl
  | some o => rw [k _ _ n e] at h; cases h
theorem Dw.same {d : Addr} {H H' : Hp} (h : Dw H d) (s : Same H H') : Dw H' d := h.elim fun ns z => ⟨ns, s _ _ z.1, z.2⟩
theorem Dw.ne {d D : Addr} {H : Hp} (h : Dw H d) (hD : H D = none) : D ≠ d := fun e => by
  obtain ⟨ns, z, _⟩ := h
  rw [← e, hD] at z
  cases z
theorem KeepX.rd {d b : Addr} {H H' : Hp} {u : HO} (k : KeepX d H H') (n : b ≠ d) (h : Rd H b u) : Rd H' b u := by
  rcases h with z | ⟨o, z⟩
  · exact .inl (k _ _ n z)
  · exact .inr ⟨o, k _ _ n z⟩
theorem KeepX.sqT {K : PySem.W.Frag} {d a : Addr} {H H' : Hp} {xs : List V} (k : KeepX d H H') (h : SqT K H a xs) (hd : Dw H d) : SqT K H' a xs := by
  rcases h with z | z
  · refine .inl (k.rd (fun e => ?_) z)
    subst e
    obtain ⟨ns, y, _⟩ := hd
    rcases z with z | ⟨o, z⟩
    · rw [y] at z; cases z
    · rw [y] at z; cases z
  · exact .inr z
/-- a comprehension that eats draws: each turn gives a value with P -/
theorem lc_draw {J : It} {n : Nat} {G : Hp → Prop} {Y : Nat → Hp → V → Hp → Prop} (w : Walk J n G Y) {g : TG} {tt : TT} {te : TE} {vs : List Nat} {σ : L2.St} {H1 : Hp} {D : Addr} {Qd : Hp → Prop} {d : Addr} (P : V → Prop) (hD : H1 D = none) (h1 : Dw H1 d) (hn : n ≤ sizeLine)
    (hG : ∀ H, KeepX d H1 H → G H) (hY : ∀ i H x H', Y i H x H' → H' = H)
    (hs : ∀ i x H (N : Hp → Prop) (C : V → Hp → Prop), i < n → Dw H d → KeepX d H1 H → Y i H x H → (∀ y H3, P y → Dw H3 d → KeepX d H H3 → C y H3) →
      g x (wipe σ vs) H fun σ2 H2 => wipe σ2 vs = wipe σ vs ∧ tt σ2 H2 fun b H3 => if b = true then te σ2 H3 C else N H3)
    (hd : ∀ H ys, ys.length = n → (∀ y ∈ ys, P y) → H D = some (.lst ys) → Dw H d → KeepX d H1 H → Qd H) :
    ∃ W : Nat → Nat → Hp → Prop, (∃ m, W 0 m (upd H1 D (.lst []))) ∧ ∀ i m H, W i m H →
      (J.stop i H ∧ Qd H) ∨ (J.go i H ∧ ∃ Nx : Hp → Prop, (∀ H', Nx H' → ∃ m', m' < m ∧ W (i + 1) m' H') ∧ ∀ x H', J.yld i H x H' → g x (wipe σ vs) H' fun σ2 H2 => wipe σ2 vs = wipe σ vs ∧ tt σ2 H2 fun b H3 =>
        if b = true then te σ2 H3 fun y H4 => ∃ acc, H4 D = some (.lst acc) ∧ acc.length < sizeLine ∧ Nx (upd H4 D (.lst (acc ++ [y]))) else Nx H3) := by
  have hne := h1.ne hD
  refine lc_it w (fun i H => KeepX d H1 H ∧ Dw H d ∧ ∃ ys, ys.length = i ∧ (∀ y ∈ ys, P y) ∧ H D = some (.lst ys)) ⟨.of (same_new hD), h1.same (same_new hD), [], rfl, fun _ h => (nomatch h), upd_same⟩ (fun i H _ h => hG H h.1)
    (fun i x H H' hi p y => ?_) (fun H p => ?_)
  · obtain ⟨k, dw, ys, hl, hp, hy⟩ := p
    have e := hY i H x H' y
    subst e
    refine hs i x H' _ _ hi dw k y fun z H3 pz dw3 k3 => ⟨ys, k3 _ _ hne hy, by omega, fun b o nb q => ?_, ?_, ys ++ [z], ?_, fun u m => ?_, upd_same⟩
    · rw [upd_ne (fun e => by rw [e, hD] at q; cases q)]
      exact k3 _ _ nb (k _ _ nb q)
    · obtain ⟨ns, q, r⟩ := dw3
      exact ⟨ns, by rw [upd_ne (Ne.symm hne)]; exact q, r⟩
    · rw [List.length_append, hl]
      rfl
    · rcases List.mem_append.mp m with m | m
      · exact hp u m
      · rw [List.mem_singleton.mp m]
        exact pz
  · obtain ⟨k, dw, ys, hl, hp, hy⟩ := p
    exact hd H ys hl hp hy dw k
theorem mod_in {n m : Int} (h : 0 < m) : 0 ≤ n % m ∧ n % m < m := ⟨Int.emod_nonneg _ (by omega), Int.emod_lt_of_pos _ h⟩
theorem at_list {α : Type} {xs : List α} {i : Int} (d : α) (h0 : 0 ≤ i) (h1 : i < ((xs.length : Nat) : Int)) : atI xs i = some (xs.getD i.toNat d) := by
  have e : i = ((i.toNat : Nat) : Int) := by omega
  have hi : i.toNat < xs.length := by omega
  rw [e]
  refine atI_nat ?_
  rw [Int.toNat_natCast, List.getD_eq_getElem?_getD, List.getElem?_eq_getElem hi]
  rfl
end Sv

set_option Elab.async false
set_option linter.all false
set_option maxRecDepth 100000
set_option maxHeartbeats 4000000
/-! The law's own def, called by the claim itself: nothing is under repr there. -/
namespace Sv
open PySem PySem.Spec PyProof.Rows L2

/-- the law's def keeps sp where the claim calls it -/
def LawGoes (P : Program) (w : World) (K : PySem.W.Frag) (mg : Str → Option Value) (base : Heap) (f : Addr) (fd : FuncData) (x : Str) (sp : Sp) : Prop :=
  ∀ (s : Shared) (H : Hp) (u : Value) (v : V) (Q : VK) (E : XK), Env0 P w K mg base callerA [] s H → BindsTo s fd ⟨[u], []⟩ [(x, u)] → RelV v u → sp [v] H Q E →
    codeAny (model P w) callerA (.call (.ref f) ⟨[u], []⟩) (CR (L2.CX P w) [] P w H s Q E) s
theorem room_claim {k : Nat} (h : k ≤ 20) : Room k callerA := (show Room 20 callerA from ⟨rfl, by decide, by decide⟩).mono h
theorem law_goes {P : Program} {w : World} {K : PySem.W.Frag} {mg : Str → Option Value} {base : Heap} {nm q x : Str} {st : Stmt} {f : Addr} {fd : FuncData} {N : List Str} {sp : Sp} (F : Fun K nm q st f fd) (S : FnScope N [x] (defScope st))
    (hb : ∀ (c : Value) (s : Shared) (H : Hp) (v : V) (Q : VK) (E : XK), Room 19 (callerA.deeper (envOfC q (defScope st) s.heap.objs.size f c)) → sp [v] H Q E →
      ∃ t, PSs (cxOf (L2.CX P w) P w K mg base N q (defScope st) f c callerA [] s H E) (defBody st) t ∧ t ⟨fun _ H' => Q .non H', Q, fun _ _ => False, fun _ _ => False⟩ (start N [v]) H) : LawGoes P w K mg base f fd x sp := by
  intro s H u v Q E e0 bind rel hsp
  obtain ⟨oc, od, kv, dc, pm, an, c, ct, sl, rfl, look, code⟩ := F.ex
  have inK : K.In s.heap := e0.mod.kin.keeps fun _ _ z => (e0.bs _ _ z).1
  have noL : s.heap.NoLimit := e0.mod.nolimit.keeps fun _ _ z => (e0.bs _ _ z).1
  have par : ∀ y ∈ [x].zip [u], (defScope st).names.lookup y.1 = some .local ∨ ((defScope st).names.lookup y.1 = some .cell ∧ ((cellsFrom (s.heap.objs.size + 1) (defScope st).names []).lookup y.1).isSome = true) := by
    rintro ⟨n, z⟩ m
    exact (S.par n (List.of_mem_zip m).1).imp id fun e => ⟨e, PySem.W.cellsFrom_some _ _ _ (.inl e)⟩
  have rm : Room 20 callerA := room_claim (Nat.le_refl _)
  refine codeAny_call_function rm.depth (inK _ _ look) rfl S.co S.gen rfl (PySem.W.codeRec_of inK code) (bind _ _ _ _ ?_)
  refine wpAny_newFunctionEnv_cells S.kind par ?_
  rintro env rfl s1 x1
  refine ⟨noL.keeps x1.toInCall.keep, codeAny_func ?_⟩
  obtain ⟨t, ht, goal⟩ := hb c s H v Q E (rm.deeper _) hsp
  have I := inv_start (CX := L2.CX P w) (E := E) S rm.hd e0 (vs := [v]) (us := [u]) rfl (.cons rel .nil) x1
  refine wpAny_mono (ht.run [] s1 _ H _ I goal) ?_ fun _ _ z => z
  rintro fl s2 done
  cases fl with
  | next =>
    obtain ⟨σ2, H2, J, z⟩ := done
    exact ⟨.non, H2, J.os, J.bare, J.base, J.hok, rfl, z⟩
  | ret y =>
    obtain ⟨v2, σ2, H2, J, rv, z⟩ := done
    exact ⟨v2, H2, J.os, J.bare, J.base, J.hok, rv, z⟩
  | brk => exact done.elim fun _ z => z.elim fun _ z => z.2.elim
  | cont => exact done.elim fun _ z => z.elim fun _ z => z.2.elim

/-- what may stand in the heap ahead of the call: the script alone -/
def Script (K : PySem.W.Frag) (a : Addr) (us : List Value) (vs : List V) (H : Hp) : Prop :=
  ∀ b o, H b = some o → b = a ∧ K.lookup a = none ∧ o = .frz { cls := .type "list", data := .seq us.toArray } (.lst vs)
theorem claim_call {P : Program} {w : World} {K : PySem.W.Frag} {mg mb : Str → Option Value} {f a : Addr} {fd : FuncData} {x : Str} {sp : Sp} {s : Shared} {us : List Value} {ns : List Int}
    (inK : K.In s.heap) (glob : s.heap.Ns mainGlobals mg) (blt : s.heap.Ns builtinsNs mb) (boot : ∀ y : Str, y ≠ "__name__" → mb y = bootBuiltins y) (lim : s.heap.NoLimit) (gen : s.gens = #[])
    (script : s.heap.get? a = some { cls := .type "list", data := .seq us.toArray }) (isI : IntsAre us ns) (few : ns.length ≤ sizeLine)
    (F : ∀ base : Heap, K.In base → base.Ns mainGlobals mg → LawGoes P w K mg base f fd x sp) (bind : ∀ (s : Shared) (u : Value), BindsTo s fd ⟨[u], []⟩ [(x, u)])
    (law : ∀ H : Hp, SqL K H a (ns.map V.int) → sp [.ref a] H (fun v _ => v = .bl true) fun _ _ _ => False) :
    codeAny (model P w) callerA (.call (.ref f) ⟨[.ref a], []⟩) (fun r s' => r = .ok (.ret (.bool true)) ∧ OldK s.heap s'.heap ∧ s'.os = s.os ∧ AllBare s'.gens) s := by
  have rel := vals_ints isI
  have few2 : (ns.map V.int).length ≤ sizeLine := by rw [List.length_map]; exact few
  -- the heap that the walk begins with
  obtain ⟨H, one, seen⟩ : ∃ H : Hp, Script K a us (ns.map V.int) H ∧ SqL K H a (ns.map V.int) := by
    cases look : K.lookup a with
    | none =>
      refine ⟨upd (fun _ => none) a (.frz { cls := .type "list", data := .seq us.toArray } (.lst (ns.map V.int))), fun b o z => ?_, .inl (.inr ⟨_, upd_same⟩)⟩
      by_cases e : b = a
      · subst e
        rw [upd_same] at z
        exact ⟨rfl, look, (Option.some.inj z).symm⟩
      · rw [upd_ne e] at z
        cases z
    | some o =>
      have z := inK a o look
      rw [script] at z
      cases z
      exact ⟨fun _ => none, fun b o z => (nomatch z), .inr ⟨_, us.toArray, _, look, rfl, rfl, rfl, by rw [List.size_toArray, isI.length]; exact few, by simpa using rel⟩⟩
  have ok : HOk P w H s.heap := fun b o z => by
    obtain ⟨rfl, _, rfl⟩ := one b o z
    exact ⟨script, few2, us, _, rel, script⟩
  have down : ∀ {b : Addr} {o : Obj}, s.heap.get? b = some o → b ≠ a ∨ K.lookup a ≠ none → (hidT s.heap H).get? b = some o := fun {b o} g n => by
    refine hidT_get g ?_
    cases z : H b with
    | none => rfl
    | some u =>
      obtain ⟨e1, e2, _⟩ := one b u z
      exact (n.elim (fun n => n e1) fun n => n e2).elim
  have dict : ∀ {b : Addr} {m : Str → Option Value}, s.heap.Ns b m → (hidT s.heap H).Ns b m := fun {b m} ⟨o, es, ep, e, d, r⟩ => by
    refine ⟨o, es, ep, down e (.inl fun z => ?_), d, r⟩
    rw [z, script] at e
    have e1 := congrArg Obj.data (Option.some.inj e)
    rw [d] at e1
    cases e1
  have fragIn : K.In (hidT s.heap H) := fun b o z => down (inK b o z) (by
    by_cases e : b = a
    · refine .inr ?_
      rw [← e, z]
      simp
    · exact .inl e)
  have env : Env0 P w K mg (hidT s.heap H) callerA [] s H :=
    { frames := rfl, mod := ⟨fragIn, dict glob, ⟨mb, dict blt, boot⟩, lim.elim fun m z => ⟨m, dict z.1, z.2⟩⟩, bs := fun _ _ z => of_hidT z, bsz := by rw [hidT_size]; exact Nat.le_refl _, funs := trivial,
      frf := fun b m => (nomatch m), hok := ok, bare := .of_eq gen }
  have run := F _ fragIn (dict glob) s H (.ref a) (.ref a) _ _ env (bind s _) rfl (law H seen)
  refine codeAny_mono run fun r s2 z => ?_
  cases r with
  | error e =>
    obtain ⟨_, _, _, _, _, _, _, _, _, _, _, _, y⟩ := z
    exact y.elim
  | ok fl =>
    cases fl with
    | ret u =>
      obtain ⟨v, H2, os, bare, un, ok2, rv, rfl⟩ := z
      cases (show u = Value.bool true from rv)
      refine ⟨rfl, OldK.of_keep fun b o g => ?_, os, bare⟩
      cases y : H b with
      | none => exact un.keep b o g y (fun m => (nomatch m)) (fun m => (nomatch m))
      | some h =>
        obtain ⟨rfl, _, rfl⟩ := one b h y
        have k2 := (ok2 _ _ (un.frzs _ _ _ y)).1
        rw [script] at g
        cases g
        exact k2
    | next => exact z.elim
    | brk => exact z.elim
    | cont => exact z.elim
/-- the end of a law's head, the law walked where the claim calls it -/
theorem claim_walk {l : PySem.W.OpenLaw} {n : Nat} {q : Program} {loose : List Str} {XP : (Str → Option Value) → Heap → Prop} {YP : World → Heap → Prop} {d : DefRec} {x : Str} (most : l.most = some n) (line : n ≤ sizeLine) (plain : d.params.defaults = [])
    (F : ∀ (w : World) (mg : Str → Option Value) (f : Addr) (h : Heap), YP w h → h.Ns mainGlobals mg → mg d.name = some (.ref f) →
      ∃ (K : PySem.W.Frag) (fd : FuncData) (sp : Sp), K.In h ∧ (∀ (s : Shared) (u : Value), BindsTo s fd ⟨[u], []⟩ [(x, u)]) ∧
        (∀ (H : Hp) (a : Addr) (ns : List Int), ns.length ≤ n → SqL K H a (ns.map V.int) → sp [.ref a] H (fun v _ => v = .bl true) fun _ _ _ => False) ∧
        ∀ base : Heap, K.In base → base.Ns mainGlobals mg → LawGoes l.prog w K mg base f fd x sp) : PySem.W.WalkO q loose XP YP l.row.toRowW d [] (fun f vs => PySem.call f vs) := by
  refine Att.attach_call most plain ?_
  intro w s0 s1 mg mb f o pm cd dc a us ns G Y _ _ _ name obj isI len gen
  obtain ⟨K, fd, sp, inK, bind, law, goes⟩ := F w mg f _ Y G.T.g name
  exact claim_call inK G.T.g G.T.b G.T.builtins G.T.nolimit gen obj isI (Nat.le_trans len line) goes bind fun H seen => law H a ns len seen
end Sv

set_option Elab.async false
set_option linter.all false
set_option maxRecDepth 100000
set_option maxHeartbeats 4000000
/-! What can be shown, by its kind and size. -/
namespace Sv
open PySem PySem.Spec PyProof.Rows L2

structure Easy (n k : Nat) (d : PyData) : Prop where
  sh : d.showable = true
  nd : d.hasDict = false
  ls : d.leavesShort 13 = true
  dp : d.depth ≤ k
  wt : d.weight ≤ n
theorem Easy.mono {n m k j : Nat} {d : PyData} (h : Easy n k d) (a : n ≤ m) (b : k ≤ j) : Easy m j d := ⟨h.sh, h.nd, h.ls, Nat.le_trans h.dp b, Nat.le_trans h.wt a⟩
theorem Easy.bool (b : Bool) {n k : Nat} : Easy n k (.bool b) := ⟨rfl, rfl, rfl, Nat.zero_le _, Nat.zero_le _⟩
theorem Easy.none {n k : Nat} : Easy n k .none := ⟨rfl, rfl, rfl, Nat.zero_le _, Nat.zero_le _⟩
theorem Easy.str {x : Str} {n k : Nat} (h : ∀ c ∈ x.cps.toList, c < 1000) (l : x.length ≤ n) : Easy n k (.str x) :=
  ⟨rfl, rfl, by
    show (x.cps.toList.all fun c => decide (c < 16 ^ 8)) = true
    exact List.all_eq_true.mpr fun c m => decide_eq_true (Nat.lt_trans (h c m) (by decide)), Nat.zero_le _, l⟩
theorem Easy.int {i : Int} {n k : Nat} (h : i.natAbs < 10 ^ 12) (hn : 41 ≤ n) : Easy n k (.int i) := by
  have hl : i.natAbs.log2 < 40 := by
    by_cases z : i.natAbs = 0
    · rw [z]; decide
    · exact (Nat.log2_lt z).mpr (Nat.lt_trans h (by decide))
  refine ⟨?_, rfl, ?_, Nat.zero_le _, ?_⟩
  · show decide (i.natAbs.log2 < 1920) = true
    exact decide_eq_true (by omega)
  · show decide ((PyData.shown (.int i)).length ≤ 13) = true
    exact decide_eq_true (PyData.shown_int_le h)
  · show (if i == 0 then 0 else i.natAbs.log2 + 1) ≤ n
    split <;> omega
theorem easy_all {n k : Nat} : ∀ {ds : List PyData}, (∀ d ∈ ds, Easy n k d) → PyData.showableAll ds = true ∧ PyData.hasDictAll ds = false ∧ PyData.leavesShortAll 13 ds = true ∧ PyData.depthAll ds ≤ k ∧ PyData.weightAll ds ≤ ds.length * (n + 1)
  | [], _ => ⟨rfl, rfl, rfl, Nat.zero_le _, Nat.zero_le _⟩
  | d :: ds, h => by
    obtain ⟨a, b, c, e, f⟩ := easy_all (ds := ds) fun z m => h z (List.mem_cons_of_mem _ m)
    have g := h d List.mem_cons_self
    refine ⟨?_, ?_, ?_, ?_, ?_⟩
    · show (d.showable && PyData.showableAll ds) = true
      rw [g.sh, a]; rfl
    · show (d.hasDict || PyData.hasDictAll ds) = false
      rw [g.nd, b]; rfl
    · show (d.leavesShort 13 && PyData.leavesShortAll 13 ds) = true
      rw [g.ls, c]; rfl
    · show max d.depth (PyData.depthAll ds) ≤ k
      have := g.dp
      omega
    · show d.weight + 1 + PyData.weightAll ds ≤ _
      have := g.wt
      rw [List.length_cons, Nat.succ_mul]
      omega
theorem Easy.list {n k m : Nat} {ds : List PyData} (h : ∀ d ∈ ds, Easy n k d) (hm : ds.length * (n + 1) ≤ m) : Easy m (k + 1) (.list ds) := by
  obtain ⟨a, b, c, e, f⟩ := easy_all h
  exact ⟨a, b, c, Nat.succ_le_succ e, Nat.le_trans f hm⟩
theorem Easy.tup {n k m : Nat} {ds : List PyData} (h : ∀ d ∈ ds, Easy n k d) (hm : ds.length * (n + 1) ≤ m) : Easy m (k + 1) (.tuple ds) := by
  obtain ⟨a, b, c, e, f⟩ := easy_all h
  exact ⟨a, b, c, Nat.succ_le_succ e, Nat.le_trans f hm⟩
theorem Easy.show {n k : Nat} {d : PyData} (h : Easy n k d) (hn : n ≤ 1000000) (hk : k ≤ 50) : ShowOk d := by
  refine ⟨h.sh, h.nd, Nat.le_trans h.dp hk, ?_⟩
  have := PyData.shown_le 13 (by decide) d h.ls
  have := h.wt
  rw [sizeLine_eq]
  omega
/-- deep data of flat lists -/
theorem dp_all {K : PySem.W.Frag} {H : Hp} {α : Type} {f : α → V} {g : α → PyData} (h : ∀ x, Dp K H (f x) (g x)) : ∀ xs : List α, DpAll K H (xs.map f) (xs.map g)
  | [] => .nil
  | x :: xs => .cons (h x) (dp_all h xs)
theorem dp_strs {K : PySem.W.Frag} {H : Hp} (xs : List Str) : DpAll K H (xs.map V.str) (xs.map PyData.str) := dp_all (fun x => .str x) xs
theorem dp_ints {K : PySem.W.Frag} {H : Hp} (xs : List Int) : DpAll K H (xs.map V.int) (xs.map PyData.int) := dp_all (fun x => .int x) xs
end Sv

set_option Elab.async false
set_option linter.all false
set_option maxRecDepth 100000
set_option maxHeartbeats 4000000
/-! A plain reading of Python: states of data, steps between them, expressions as functions of states. -/
namespace M
open PySem PySem.Spec PyProof.Rows L2 Sv

abbrev D := PyData
abbrev Ss := L2.St
/-- what an object that is written holds -/
inductive Ob where
  | L (ds : List D)
  | K (kvs : List (Key × D))
  | T (kvs : List (List Key × D))
structure Exn where
  c : Str
  fld : Option (Str × Int)
/-- data that nobody writes; an object that one name alone holds (or fresh; false: the caller's); the object of a slot; an error -/
inductive Vl where
  | d (x : D)
  | o (f : Bool) (b : Ob)
  | r (i : Nat)
  | x (e : Exn)
  | s (ns : List Int)
abbrev S := List (Option Vl)
inductive ER (α : Type) where
  | ok (a : α) (s : S)
  | er (e : Exn) (s : S)
  | no
def ER.bind {α β : Type} (r : ER α) (g : α → S → ER β) : ER β := match r with
  | .ok a s => g a s
  | .er e s => .er e s
  | .no => .no
abbrev XI := Option (Addr × Value × Option Addr)
mutual
/-- data at any depth: lists that the program made, tuples -/
inductive Rp (K : PySem.W.Frag) (H : Hp) : V → D → Prop
  | non : Rp K H .non .none
  | bl (b : Bool) : Rp K H (.bl b) (.bool b)
  | int (i : Int) : Rp K H (.int i) (.int i)
  | str {x : Str} (h : x.length ≤ sizeLine) : Rp K H (.str x) (.str x)
  | lst {a : Addr} {xs : List V} {ds : List D} : H a = some (.lst xs) → RpAll K H xs ds → Rp K H (.ref a) (.list ds)
  | tup {a : Addr} {xs : List V} {ds : List D} : SqT K H a xs → RpAll K H xs ds → Rp K H (.ref a) (.tuple ds)
inductive RpAll (K : PySem.W.Frag) (H : Hp) : List V → List D → Prop
  | nil : RpAll K H [] []
  | cons {v : V} {vs : List V} {d : D} {ds : List D} : Rp K H v d → RpAll K H vs ds → RpAll K H (v :: vs) (d :: ds)
end
mutual
theorem Rp.same {K : PySem.W.Frag} {H H' : Hp} (e : Same H H') : ∀ {d : D} {v : V}, Rp K H v d → Rp K H' v d
  | .none, _, .non => .non
  | .bool _, _, .bl b => .bl b
  | .int _, _, .int i => .int i
  | .str _, _, .str h => .str h
  | .list _, _, .lst h a => .lst (e _ _ h) (RpAll.same e a)
  | .tuple _, _, .tup h a => .tup (same_t e h) (RpAll.same e a)
theorem RpAll.same {K : PySem.W.Frag} {H H' : Hp} (e : Same H H') : ∀ {ds : List D} {vs : List V}, RpAll K H vs ds → RpAll K H' vs ds
  | [], _, .nil => .nil
  | _ :: _, _, .cons h a => .cons (Rp.same e h) (RpAll.same e a)
end
mutual
theorem Rp.dp {K : PySem.W.Frag} {H : Hp} : ∀ {d : D} {v : V}, Rp K H v d → Dp K H v d
  | .none, _, .non => .non
  | .bool _, _, .bl b => .bl b
  | .int _, _, .int i => .int i
  | .str _, _, .str _ => .str _
  | .list _, _, .lst h a => .lst (.inl (.inl h)) (RpAll.dp a)
  | .tuple _, _, .tup h a => .tup h (RpAll.dp a)
theorem RpAll.dp {K : PySem.W.Frag} {H : Hp} : ∀ {ds : List D} {vs : List V}, RpAll K H vs ds → DpAll K H vs ds
  | [], _, .nil => .nil
  | _ :: _, _, .cons h a => .cons (Rp.dp h) (RpAll.dp a)
end
mutual
theorem Rp.pl {K : PySem.W.Frag} {H : Hp} : ∀ {d : D} {v : V}, Rp K H v d → d.plain = true
  | .none, _, .non => rfl
  | .bool _, _, .bl b => rfl
  | .int _, _, .int i => rfl
  | .str _, _, .str _ => rfl
  | .list _, _, .lst h a => by rw [PyData.plain]; exact RpAll.pl a
  | .tuple _, _, .tup h a => by rw [PyData.plain]; exact RpAll.pl a
theorem RpAll.pl {K : PySem.W.Frag} {H : Hp} : ∀ {ds : List D} {vs : List V}, RpAll K H vs ds → PyData.plainAll ds = true
  | [], _, .nil => rfl
  | _ :: _, _, .cons h a => by rw [PyData.plainAll, Rp.pl h, RpAll.pl a]; rfl
end
theorem RpAll.len {K : PySem.W.Frag} {H : Hp} : ∀ {vs : List V} {ds : List D}, RpAll K H vs ds → vs.length = ds.length
  | _, _, .nil => rfl
  | _, _, .cons _ a => by rw [List.length_cons, List.length_cons, RpAll.len a]
theorem RpAll.app {K : PySem.W.Frag} {H : Hp} : ∀ {vs us : List V} {ds es : List D}, RpAll K H vs ds → RpAll K H us es → RpAll K H (vs ++ us) (ds ++ es)
  | _, _, _, _, .nil, b => b
  | _, _, _, _, .cons h a, b => .cons h (RpAll.app a b)
theorem RpAll.at {K : PySem.W.Frag} {H : Hp} : ∀ {vs : List V} {ds : List D} {i : Nat} {d : D}, RpAll K H vs ds → ds[i]? = some d → ∃ v, vs[i]? = some v ∧ Rp K H v d
  | _, _, _, _, .nil, e => by simp at e
  | _, _, 0, _, .cons h _, e => by simp at e; subst e; exact ⟨_, rfl, h⟩
  | _, _, i + 1, _, .cons _ a, e => by
    obtain ⟨v, h1, h2⟩ := RpAll.at (i := i) a (by simpa using e)
    exact ⟨v, by simpa using h1, h2⟩
theorem RpAll.take {K : PySem.W.Frag} {H : Hp} : ∀ {vs : List V} {ds : List D} (n : Nat), RpAll K H vs ds → RpAll K H (vs.take n) (ds.take n)
  | _, _, 0, _ => .nil
  | _, _, _ + 1, .nil => .nil
  | _, _, n + 1, .cons h a => .cons h (RpAll.take n a)
theorem RpAll.drop {K : PySem.W.Frag} {H : Hp} : ∀ {vs : List V} {ds : List D} (n : Nat), RpAll K H vs ds → RpAll K H (vs.drop n) (ds.drop n)
  | _, _, 0, h => h
  | _, _, _ + 1, .nil => .nil
  | _, _, n + 1, .cons _ a => RpAll.drop n a
theorem RpAll.set {K : PySem.W.Frag} {H : Hp} {v : V} {d : D} (h : Rp K H v d) : ∀ {vs : List V} {ds : List D} (n : Nat), RpAll K H vs ds → RpAll K H (vs.set n v) (ds.set n d)
  | _, _, _, .nil => .nil
  | _, _, 0, .cons _ a => .cons h a
  | _, _, n + 1, .cons q a => .cons q (RpAll.set h n a)
theorem RpAll.rev {K : PySem.W.Frag} {H : Hp} : ∀ {vs : List V} {ds : List D}, RpAll K H vs ds → RpAll K H vs.reverse ds.reverse
  | _, _, .nil => .nil
  | _, _, .cons h a => by rw [List.reverse_cons, List.reverse_cons]; exact (RpAll.rev a).app (.cons h .nil)
section
variable (K : PySem.W.Frag) (xi : XI)
def ObR (G H : Hp) (p : Addr) : Ob → Prop
  | .L ds => ∃ vs, H p = some (.lst vs) ∧ RpAll K G vs ds
  | .K kvs => ∃ us : List (Key × V), H p = some (.dK us) ∧ us.map (·.1) = kvs.map (·.1) ∧ RpAll K G (us.map (·.2)) (kvs.map (·.2))
  | .T kvs => ∃ us : List (List Key × V), H p = some (.dT us) ∧ us.map (·.1) = kvs.map (·.1) ∧ RpAll K G (us.map (·.2)) (kvs.map (·.2))
def XR (H : Hp) (v : V) (e : Exn) : Prop := ∃ a cls d, xi = some (a, cls, d) ∧ v = .ref a ∧ (cls = .ref (He.ga K e.c) ∧ (e.fld = none → d = none)) ∧ ∀ nm n, e.fld = some (nm, n) → ∃ dd, d = some dd ∧ H dd = some (.xd [(nm, .int n)])
def SvR (G H : Hp) (v : V) : Vl → Prop
  | .d x => Rp K G v x
  | .o _ b => ∃ p, v = .ref p ∧ G p = none ∧ ObR K G H p b
  | .r _ => False
  | .x e => XR K xi H v e
  | .s ns => ∃ a, v = .ref a ∧ SqL K G a (ns.map V.int)
def Own (σ : Ss) (s : S) (f : Bool) (p : Addr) : Prop := ∃ (i : Nat) (b : Ob), s[i]? = some (some (.o f b)) ∧ σ[i]? = some (some (.ref p))
structure Rep (G H : Hp) (σ : Ss) (s : S) : Prop where
  len : s.length = σ.length
  gh : Same G H
  sl : ∀ (i : Nat) (vl : Vl), s[i]? = some (some vl) → ∃ v, σ[i]? = some (some v) ∧ SvR K xi G H v vl
  ap : ∀ (i j : Nat) (f g : Bool) (b c : Ob) (p : Addr), s[i]? = some (some (.o f b)) → s[j]? = some (some (.o g c)) → σ[i]? = some (some (.ref p)) → σ[j]? = some (some (.ref p)) → i = j
end
/-- from a state to a later one -/
structure Stp (G H : Hp) (σ : Ss) (s : S) (G' H' : Hp) (σ' : Ss) (s' : S) : Prop where
  gg : Same G G'
  fr : ∀ b o, H b = some o → (∀ f, ¬ Own σ s f b) → H' b = some o
  lv : ∀ b, H b ≠ none → H' b ≠ none
  gn : ∀ b, G b = none → H b ≠ none → G' b ≠ none → Own σ s true b
  ow : ∀ f p, Own σ' s' f p → (H p = none ∧ f = true) ∨ Own σ s f p
  io : ∀ (i : Nat) (b : Ob), s[i]? = some (some (.o false b)) → σ'[i]? = σ[i]? ∧ ∃ b', s'[i]? = some (some (.o false b'))
theorem ne_none {α : Type} {o : Option α} {a : α} (h : o = some a) : o ≠ none := by rw [h]; exact fun z => nomatch z
theorem Stp.refl {G H : Hp} {σ : Ss} {s : S} : Stp G H σ s G H σ s :=
  ⟨fun _ _ h => h, fun _ _ h _ => h, fun _ h => h, fun _ h _ n => absurd h n, fun _ _ h => .inr h, fun _ b h => ⟨rfl, b, h⟩⟩
theorem Stp.trans {G H G1 H1 G2 H2 : Hp} {σ σ1 σ2 : Ss} {s s1 s2 : S} (a : Stp G H σ s G1 H1 σ1 s1) (b : Stp G1 H1 σ1 s1 G2 H2 σ2 s2) : Stp G H σ s G2 H2 σ2 s2 where
  gg := a.gg.trans b.gg
  fr := fun c o h n => b.fr c o (a.fr c o h n) fun f w => by
    rcases a.ow f c w with ⟨z, _⟩ | z
    · rw [h] at z; cases z
    · exact n f z
  lv := fun c h => b.lv c (a.lv c h)
  gn := fun c h1 h2 h3 => by
    cases e : G1 c with
    | some o => exact a.gn c h1 h2 (ne_none e)
    | none =>
      rcases a.ow true c (b.gn c e (a.lv c h2) h3) with ⟨z, _⟩ | z
      · exact absurd z h2
      · exact z
  ow := fun f p w => by
    rcases b.ow f p w with ⟨z, e⟩ | z
    · refine .inl ⟨?_, e⟩
      cases q : H p with
      | none => rfl
      | some o => exact absurd z (a.lv p (ne_none q))
    · exact a.ow f p z
  io := fun i c h => by
    obtain ⟨e1, c1, h1⟩ := a.io i c h
    obtain ⟨e2, c2, h2⟩ := b.io i c1 h1
    exact ⟨e2.trans e1, c2, h2⟩

section
variable {K : PySem.W.Frag} {xi : XI} {G H G' H' G1 H1 : Hp} {σ σ' σ1 : Ss} {s s' s1 : S}
theorem ObR.mono {p : Addr} {b : Ob} (h : ObR K G H p b) (g : Same G G') (e : H' p = H p) : ObR K G' H' p b := by
  cases b with
  | L ds => obtain ⟨vs, h1, h2⟩ := h; exact ⟨vs, e.trans h1, RpAll.same g h2⟩
  | K kvs => obtain ⟨us, h1, h2, h3⟩ := h; exact ⟨us, e.trans h1, h2, RpAll.same g h3⟩
  | T kvs => obtain ⟨us, h1, h2, h3⟩ := h; exact ⟨us, e.trans h1, h2, RpAll.same g h3⟩
theorem ObR.here {p : Addr} {b : Ob} (h : ObR K G H p b) : H p ≠ none := by
  cases b with
  | L ds => obtain ⟨vs, h1, h2⟩ := h; exact ne_none h1
  | K kvs => obtain ⟨us, h1, h2, h3⟩ := h; exact ne_none h1
  | T kvs => obtain ⟨us, h1, h2, h3⟩ := h; exact ne_none h1
/-- an object that is held is no other kind of cell -/
theorem ObR.noxd {p : Addr} {b : Ob} {fs : List (Str × V)} (h : ObR K G H p b) (e : H p = some (.xd fs)) : False := by
  cases b with
  | L ds => obtain ⟨vs, h1, h2⟩ := h; rw [e] at h1; cases h1
  | K kvs => obtain ⟨us, h1, h2, h3⟩ := h; rw [e] at h1; cases h1
  | T kvs => obtain ⟨us, h1, h2, h3⟩ := h; rw [e] at h1; cases h1
theorem Rep.own (R : Rep K xi G H σ s) {f : Bool} {p : Addr} (w : Own σ s f p) : G p = none ∧ ∃ b, ObR K G H p b := by
  obtain ⟨i, b, h1, h2⟩ := w
  obtain ⟨v, e, q, e2, h3, h4⟩ := R.sl i _ h1
  rw [h2] at e
  cases e
  cases e2
  exact ⟨h3, b, h4⟩
theorem Rep.free (R : Rep K xi G H σ s) {p : Addr} (h : H p = none) : G p = none := by
  cases e : G p with
  | none => rfl
  | some o => rw [R.gh p o e] at h; cases h
theorem Rep.noOwn (R : Rep K xi G H σ s) {p : Addr} (h : H p = none) (f : Bool) : ¬ Own σ s f p := fun w => by
  obtain ⟨_, b, q⟩ := R.own w
  exact q.here h
/-- what an expression gives -/
def VR (K : PySem.W.Frag) (xi : XI) (H0 : Hp) (σ0 : Ss) (s0 : S) (G H : Hp) (σ : Ss) (s : S) (v : V) : Vl → Prop
  | .d x => Rp K G v x
  | .o f b => f = true ∧ ∃ p, v = .ref p ∧ G p = none ∧ (H0 p = none ∨ Own σ0 s0 true p) ∧ ObR K G H p b ∧ ∀ g, ¬ Own σ s g p
  | .r i => σ[i]? = some (some v)
  | .x e => XR K xi H v e
  | .s ns => ∃ a, v = .ref a ∧ SqL K G a (ns.map V.int)
theorem VR.step {H0 : Hp} {σ0 : Ss} {s0 : S} {v : V} {vl : Vl} (h : VR K xi H0 σ0 s0 G H σ s v vl) (R : Rep K xi G H σ s) (t : Stp G H σ s G' H' σ s') : VR K xi H0 σ0 s0 G' H' σ s' v vl := by
  cases vl with
  | d x => exact Rp.same t.gg h
  | o f b =>
    obtain ⟨e0, p, e, h1, h2, h3, h4⟩ := h
    have hp : H' p = H p := by
      cases q : H p with
      | none => exact absurd q h3.here
      | some o => exact t.fr p o q h4
    refine ⟨e0, p, e, ?_, h2, h3.mono t.gg hp, fun g w => ?_⟩
    · cases q : G' p with
      | none => rfl
      | some o => exact absurd (t.gn p h1 h3.here (ne_none q)) (h4 true)
    · rcases t.ow g p w with ⟨z, _⟩ | z
      · exact h3.here z
      · exact h4 g z
  | r i => exact h
  | x e =>
    obtain ⟨a, cls, d, h1, h2, h3, h4⟩ := h
    refine ⟨a, cls, d, h1, h2, h3, fun nm n e => ?_⟩
    obtain ⟨dd, q1, q2⟩ := h4 nm n e
    refine ⟨dd, q1, t.fr _ _ q2 fun f w => ?_⟩
    obtain ⟨_, b, z⟩ := R.own w
    exact z.noxd q2
  | s ns =>
    obtain ⟨a, e, h⟩ := h
    exact ⟨a, e, same_l t.gg h⟩
theorem VR.back {H0 : Hp} {σ0 : Ss} {s0 : S} {v : V} {vl : Vl} {Ga Gb : Hp} {σa : Ss} {sa : S} (h : VR K xi H σa sa G' H' σ s' v vl) (t : Stp Ga H0 σ0 s0 Gb H σa sa) : VR K xi H0 σ0 s0 G' H' σ s' v vl := by
  cases vl with
  | d x => exact h
  | o f b =>
    obtain ⟨e0, p, e, h1, h2, h3, h4⟩ := h
    refine ⟨e0, p, e, h1, ?_, h3, h4⟩
    rcases h2 with z | z
    · left
      cases q : H0 p with
      | none => rfl
      | some o => exact absurd z (t.lv p (ne_none q))
    · rcases t.ow true p z with ⟨q, _⟩ | q
      · exact .inl q
      · exact .inr q
  | r i => exact h
  | x e => exact h
  | s ns => exact h
/-- the data that a value is now: what stands at the top in H, its parts in G -/
inductive RdR (K : PySem.W.Frag) (G H : Hp) : V → D → Prop
  | non : RdR K G H .non .none
  | bl (b : Bool) : RdR K G H (.bl b) (.bool b)
  | int (i : Int) : RdR K G H (.int i) (.int i)
  | str {x : Str} (h : x.length ≤ sizeLine) : RdR K G H (.str x) (.str x)
  | lst {a : Addr} {xs : List V} {ds : List D} : H a = some (.lst xs) → RpAll K G xs ds → RdR K G H (.ref a) (.list ds)
  | tup {a : Addr} {xs : List V} {ds : List D} : SqT K G a xs → RpAll K G xs ds → RdR K G H (.ref a) (.tuple ds)
def rd (s : S) : Vl → Option D
  | .d x => some x
  | .o _ (.L ds) => some (.list ds)
  | .r i => match s[i]? with
    | some (some (.d x)) => some x
    | some (some (.o _ (.L ds))) => some (.list ds)
    | _ => none
  | _ => none
theorem RdR.of {v : V} {x : D} (h : Rp K G v x) (g : Same G H) : RdR K G H v x := by
  cases h with
  | non => exact .non
  | bl b => exact .bl b
  | int i => exact .int i
  | str h => exact .str h
  | lst h a => exact .lst (g _ _ h) a
  | tup h a => exact .tup h a
theorem RdR.dp {v : V} {x : D} (h : RdR K G H v x) (g : Same G H) : Rp K H v x := by
  cases h with
  | non => exact .non
  | bl b => exact .bl b
  | int i => exact .int i
  | str h => exact .str h
  | lst h a => exact .lst h (RpAll.same g a)
  | tup h a => exact .tup (same_t g h) (RpAll.same g a)
theorem SvR.rdr {v : V} {vl : Vl} {x : D} {i : Nat} (h : SvR K xi G H v vl) (g : Same G H) (hi : s[i]? = some (some vl)) (e : rd s (.r i) = some x) : RdR K G H v x := by
  have e2 : (match s[i]? with | some (some (.d x)) => some x | some (some (.o _ (.L ds))) => some (.list ds) | _ => none : Option D) = some x := e
  rw [hi] at e2
  cases vl with
  | d y => cases e2; exact RdR.of h g
  | o f b =>
    cases b with
    | L ds =>
      cases e2
      obtain ⟨p, rfl, _, vs, h1, h2⟩ := h
      exact .lst h1 h2
    | K kvs => cases e2
    | T kvs => cases e2
  | r j => cases e2
  | x e => cases e2
  | s ns => cases e2
theorem rd_ok {H0 : Hp} {σ0 : Ss} {s0 : S} {v : V} {vl : Vl} {x : D} (R : Rep K xi G H σ s) (h : VR K xi H0 σ0 s0 G H σ s v vl) (e : rd s vl = some x) : RdR K G H v x := by
  cases vl with
  | d y => cases e; exact RdR.of h R.gh
  | o f b =>
    cases b with
    | L ds =>
      cases e
      obtain ⟨_, p, rfl, _, _, ⟨vs, h1, h2⟩, _⟩ := h
      exact .lst h1 h2
    | K kvs => cases e
    | T kvs => cases e
  | r i =>
    have h : σ[i]? = some (some v) := h
    have e2 : (match s[i]? with | some (some (.d x)) => some x | some (some (.o _ (.L ds))) => some (.list ds) | _ => none : Option D) = some x := e
    cases q : s[i]? with
    | none => rw [q] at e2; cases e2
    | some o =>
      cases o with
      | none => rw [q] at e2; cases e2
      | some u =>
        obtain ⟨w, e1, h1⟩ := R.sl i u q
        rw [h] at e1
        cases e1
        exact h1.rdr R.gh q e
  | x e1 => cases e
  | s ns => cases e
end

/-! ### what is wanted behind -/
section
variable (K : PySem.W.Frag) (xi : XI) (W : WX)
def EW (e : Exn) (σ : Ss) (H : Hp) : Prop := match e.fld with
  | none => W (.ref (He.ga K e.c)) none σ H
  | some (nm, n) => ∀ dd, H dd = some (.xd [(nm, .int n)]) → W (.ref (He.ga K e.c)) (some dd) σ H
/-- rel: base heap, base slots, base state, then G H σ s, the value, the result -/
abbrev Rl3 (α β : Type) := Hp → Ss → S → Hp → Hp → Ss → S → β → α → Prop
def Po {α β : Type} (rel : Rl3 α β) (G H : Hp) (σ : Ss) (s : S) (r : ER α) (Q : β → Hp → Prop) : Prop := match r with
  | .ok a s' => ∀ v G' H', Stp G H σ s G' H' σ s' → Rep K xi G' H' σ s' → rel H σ s G' H' σ s' v a → Q v H'
  | .er e s' => ∀ G' H', Stp G H σ s G' H' σ s' → Rep K xi G' H' σ s' → EW K W e σ H'
  | .no => False
def rB : Rl3 Bool Bool := fun _ _ _ _ _ _ _ b a => b = a
inductive VRs (H0 : Hp) (σ0 : Ss) (s0 : S) (G H : Hp) (σ : Ss) (s : S) : List V → List Vl → Prop
  | nil : VRs H0 σ0 s0 G H σ s [] []
  | cons {v : V} {vl : Vl} {vs : List V} {vls : List Vl} : VR K xi H0 σ0 s0 G H σ s v vl → VRs H0 σ0 s0 G H σ s vs vls → VRs H0 σ0 s0 G H σ s (v :: vs) (vl :: vls)
structure rAs (H0 : Hp) (σ0 : Ss) (s0 : S) (G H : Hp) (σ : Ss) (s : S) (vs : List V) (vls : List Vl) : Prop where
  all : VRs K xi H0 σ0 s0 G H σ s vs vls
  ap : ∀ (i j : Nat) (f g : Bool) (b c : Ob) (p : Addr), vls[i]? = some (.o f b) → vls[j]? = some (.o g c) → vs[i]? = some (.ref p) → vs[j]? = some (.ref p) → i = j
def tE (f : S → ER Vl) : TE := fun σ H Q => ∃ G s, Rep K xi G H σ s ∧ Po K xi W (VR K xi) G H σ s (f s) Q
def tA (f : S → ER (List Vl)) : TA := fun σ H Q => ∃ G s, Rep K xi G H σ s ∧ Po K xi W (rAs K xi) G H σ s (f s) Q
def tT (f : S → ER Bool) : TT := fun σ H Q => ∃ G s, Rep K xi G H σ s ∧ Po K xi W rB G H σ s (f s) Q
end
section
variable {K : PySem.W.Frag} {xi : XI} {W : WX} {G H G' H' G1 H1 : Hp} {σ σ' σ1 : Ss} {s s' s1 : S} {α β γ δ : Type}
theorem VRs.step {H0 : Hp} {σ0 : Ss} {s0 : S} (R : Rep K xi G H σ s) (t : Stp G H σ s G' H' σ s') : ∀ {vs : List V} {vls : List Vl}, VRs K xi H0 σ0 s0 G H σ s vs vls → VRs K xi H0 σ0 s0 G' H' σ s' vs vls
  | _, _, .nil => .nil
  | _, _, .cons a b => .cons (a.step R t) (VRs.step R t b)
theorem VRs.back {H0 : Hp} {σ0 : Ss} {s0 : S} {Ga Gb : Hp} {σa : Ss} {sa : S} (t : Stp Ga H0 σ0 s0 Gb H σa sa) : ∀ {vs : List V} {vls : List Vl}, VRs K xi H σa sa G' H' σ s' vs vls → VRs K xi H0 σ0 s0 G' H' σ s' vs vls
  | _, _, .nil => .nil
  | _, _, .cons a b => .cons (a.back t) (VRs.back t b)
/-- a relation that may be told of an earlier base -/
def Backs (rel : Rl3 α β) : Prop := ∀ (Ga H0 : Hp) (σ0 : Ss) (s0 : S) (Gb H : Hp) (σa : Ss) (sa : S) (G' H' : Hp) (σ : Ss) (s : S) (v : β) (a : α), Stp Ga H0 σ0 s0 Gb H σa sa → rel H σa sa G' H' σ s v a → rel H0 σ0 s0 G' H' σ s v a
theorem backs_V : Backs (VR K xi) := fun _ _ _ _ _ _ _ _ _ _ _ _ _ _ t h => VR.back h t
theorem backs_B : Backs rB := fun _ _ _ _ _ _ _ _ _ _ _ _ _ _ _ h => h
theorem backs_A : Backs (rAs K xi) := fun _ _ _ _ _ _ _ _ _ _ _ _ _ _ t h => ⟨h.all.back t, h.ap⟩
theorem Po.shift {rel : Rl3 α β} {r : ER α} {Q : β → Hp → Prop} (t : Stp G H σ s G1 H1 σ s1) (b : Backs rel) (h : Po K xi W rel G H σ s r Q) : Po K xi W rel G1 H1 σ s1 r Q := by
  cases r with
  | ok a s' => exact fun v G' H' t' R' q => h v G' H' (t.trans t') R' (b _ _ _ _ _ _ _ _ _ _ _ _ _ _ t q)
  | er e s' => exact fun G' H' t' R' => h G' H' (t.trans t') R'
  | no => exact h
theorem Po.bind {rel : Rl3 α β} {rel2 : Rl3 γ δ} {r : ER α} {g : α → S → ER γ} {Q : δ → Hp → Prop} {Z : β → Hp → Prop} (h : Po K xi W rel2 G H σ s (r.bind g) Q) (b : Backs rel2)
    (k : ∀ a s1, r = .ok a s1 → ∀ v G1 H1, Stp G H σ s G1 H1 σ s1 → Rep K xi G1 H1 σ s1 → rel H σ s G1 H1 σ s1 v a → Po K xi W rel2 G1 H1 σ s1 (g a s1) Q → Z v H1) : Po K xi W rel G H σ s r Z := by
  cases r with
  | ok a s1 => exact fun v G1 H1 t R q => k a s1 rfl v G1 H1 t R q (Po.shift t b h)
  | er e s1 => exact h
  | no => exact h
/-- the same, what follows told of an earlier base -/
theorem Po.bindU {G0 H0 : Hp} {s0 : S} {rel : Rl3 α β} {rel2 : Rl3 γ δ} {r : ER α} {g : α → S → ER γ} {Q : δ → Hp → Prop} {Z : β → Hp → Prop} (t : Stp G0 H0 σ s0 G H σ s) (h : Po K xi W rel2 G0 H0 σ s0 (r.bind g) Q)
    (k : ∀ a s1, r = .ok a s1 → ∀ v G1 H1, Stp G H σ s G1 H1 σ s1 → Rep K xi G1 H1 σ s1 → rel H σ s G1 H1 σ s1 v a → Po K xi W rel2 G0 H0 σ s0 (g a s1) Q → Z v H1) : Po K xi W rel G H σ s r Z := by
  cases r with
  | ok a s1 => exact fun v G1 H1 t1 R q => k a s1 rfl v G1 H1 t1 R q h
  | er e s1 => exact fun G' H' t' R' => h G' H' (t.trans t') R'
  | no => exact h
theorem Po.mono {rel : Rl3 α β} {r : ER α} {Q Q' : β → Hp → Prop} (h : Po K xi W rel G H σ s r Q) (k : ∀ v H', Q v H' → Q' v H') : Po K xi W rel G H σ s r Q' := by
  cases r with
  | ok a s1 => exact fun v G1 H1 t R q => k _ _ (h v G1 H1 t R q)
  | er e s1 => exact h
  | no => exact h
/-- nothing but a new cell, or none: what an operation does -/
inductive Ext (K : PySem.W.Frag) (G H : Hp) : V → Hp → Vl → Prop
  | same {v : V} {x : D} : Rp K G v x → Ext K G H v H (.d x)
  | tup {p : Addr} {us : List V} {ds : List D} : H p = none → RpAll K G us ds → Ext K G H (.ref p) (upd H p (.tup us)) (.d (.tuple ds))
  | lst {p : Addr} {us : List V} {ds : List D} : H p = none → RpAll K G us ds → Ext K G H (.ref p) (upd H p (.lst us)) (.o true (.L ds))
theorem Same.upd2 {G H : Hp} {p : Addr} {o : HO} (g : Same G H) (h : G p = none) : Same G (upd H p o) := fun b u q => by
  rw [upd_ne (fun e => by rw [e, h] at q; cases q)]
  exact g b u q
theorem Same.both {G H : Hp} {p : Addr} {o : HO} (g : Same G H) : Same (upd G p o) (upd H p o) := fun b u q => by
  by_cases e : b = p
  · subst e
    rw [upd_same] at q ⊢
    exact q
  · rw [upd_ne e] at q ⊢
    exact g b u q
theorem SvR.step (R : Rep K xi G H σ s) (t : Stp G H σ s G' H' σ s') {v : V} {vl : Vl} (h : SvR K xi G H v vl) (hn : ∀ p, v = .ref p → (∃ f b, vl = .o f b) → H' p = H p ∧ G' p = none) : SvR K xi G' H' v vl := by
  cases vl with
  | d x => exact Rp.same t.gg h
  | o f b =>
    obtain ⟨p, e, h1, h2⟩ := h
    obtain ⟨e1, e2⟩ := hn p e ⟨f, b, rfl⟩
    exact ⟨p, e, e2, h2.mono t.gg e1⟩
  | r i => exact h
  | x e =>
    obtain ⟨a, cls, d, h1, h2, h3, h4⟩ := h
    refine ⟨a, cls, d, h1, h2, h3, fun nm n e => ?_⟩
    obtain ⟨dd, q1, q2⟩ := h4 nm n e
    refine ⟨dd, q1, t.fr _ _ q2 fun f w => ?_⟩
    obtain ⟨_, b, z⟩ := R.own w
    exact z.noxd q2
  | s ns =>
    obtain ⟨a, e, h⟩ := h
    exact ⟨a, e, same_l t.gg h⟩
/-- the same slots, a step that touches none of them -/
theorem Rep.quiet (R : Rep K xi G H σ s) (t : Stp G H σ s G' H' σ s) (g : Same G' H') (hf : ∀ f p, Own σ s f p → H' p = H p ∧ G' p = none) : Rep K xi G' H' σ s :=
  ⟨R.len, g, fun i vl h => by
    obtain ⟨v, e, q⟩ := R.sl i vl h
    exact ⟨v, e, q.step R t fun p e1 ⟨f, b, e2⟩ => hf f p ⟨i, b, by rw [h, e2], by rw [e, e1]⟩⟩, R.ap⟩
/-- a new cell that is laid: shared, or not -/
theorem stp_new {p : Addr} {o : HO} {G1 : Hp} (R : Rep K xi G H σ s) (hp : H p = none) (hg : G1 = G ∨ G1 = upd G p o) : Stp G H σ s G1 (upd H p o) σ s := by
  have gp := R.free hp
  have g1 : Same G G1 := by
    rcases hg with rfl | rfl
    · exact Same.refl _
    · exact Same.new gp
  refine ⟨g1, fun b u h _ => ?_, fun b h => ?_, fun b h1 h2 h3 => ?_, fun f q w => .inr w, fun i b h => ⟨rfl, b, h⟩⟩
  · rw [upd_ne (fun e => by rw [e, hp] at h; cases h)]
    exact h
  · rw [upd_ne (fun e => h (by rw [e]; exact hp))]
    exact h
  · rcases hg with rfl | rfl
    · exact absurd h1 h3
    · rw [upd_ne (fun e => h2 (by rw [e]; exact hp))] at h3
      exact absurd h1 h3
theorem rep_new {p : Addr} {o : HO} {G1 : Hp} (R : Rep K xi G H σ s) (hp : H p = none) (hg : G1 = G ∨ G1 = upd G p o) : Rep K xi G1 (upd H p o) σ s := by
  have gp := R.free hp
  refine R.quiet (stp_new R hp hg) ?_ fun f q w => ?_
  · rcases hg with rfl | rfl
    · exact Same.upd2 R.gh gp
    · exact Same.both R.gh
  · have hq : q ≠ p := fun e => R.noOwn hp f (e ▸ w)
    refine ⟨upd_ne hq, ?_⟩
    rcases hg with rfl | rfl
    · exact (R.own w).1
    · rw [upd_ne hq]
      exact (R.own w).1
theorem Ext.fin {v : V} {H2 : Hp} {vl : Vl} {Q : VK} (e : Ext K G H v H2 vl) (R : Rep K xi G H σ s) (h : Po K xi W (VR K xi) G H σ s (.ok vl s) Q) : Q v H2 := by
  cases e with
  | same d => exact h _ _ _ .refl R d
  | tup hp a =>
    rename_i p us ds
    refine h _ (upd G p (.tup us)) _ (stp_new R hp (.inr rfl)) (rep_new R hp (.inr rfl)) ?_
    exact .tup (.inl (Rd.of upd_same)) (RpAll.same (Same.new (R.free hp)) a)
  | lst hp a =>
    rename_i p us ds
    refine h _ G _ (stp_new R hp (.inl rfl)) (rep_new R hp (.inl rfl)) ⟨rfl, p, rfl, R.free hp, .inl hp, ⟨us, upd_same, a⟩, fun g w => R.noOwn hp g w⟩
end
end M

set_option Elab.async false
set_option linter.all false
set_option maxRecDepth 100000
set_option maxHeartbeats 4000000
/-! Expressions as functions of states. -/
namespace M
open PySem PySem.Spec PyProof.Rows L2 Sv

theorem PE.mono {X : Cx} {e : Expr} {t t' : TE} (h : PE X e t) (k : ∀ σ H Q, t' σ H Q → t σ H Q) : PE X e t' := ⟨fun pins s σ H Q I w => h.run pins s σ H Q I (k σ H Q w)⟩
theorem PT.mono {X : Cx} {e : Expr} {t t' : TT} (h : PT X e t) (k : ∀ σ H Q, t' σ H Q → t σ H Q) : PT X e t' := ⟨fun pins s σ H Q I w => h.run pins s σ H Q I (k σ H Q w)⟩
theorem PW.mono {X : Cx} {e : Expr} {t t' : TT} (h : PW X e t) (k : ∀ σ H Q, t' σ H Q → t σ H Q) : PW X e t' := ⟨fun wh pins s σ H Q I w => h.run wh pins s σ H Q I (k σ H Q w)⟩
theorem PA.mono {X : Cx} {e : List Expr} {t t' : TA} (h : PA X e t) (k : ∀ σ H Q, t' σ H Q → t σ H Q) : PA X e t' := ⟨fun p pins s σ H Q I w => h.run p pins s σ H Q I (k σ H Q w)⟩
theorem PS.mono {X : Cx} {e : Stmt} {t t' : TS} (h : PS X e t) (k : ∀ D σ H, t' D σ H → t D σ H) : PS X e t' := ⟨fun pins s σ H D I w => h.run pins s σ H D I (k D σ H w)⟩
theorem PSs.mono {X : Cx} {e : List Stmt} {t t' : TS} (h : PSs X e t) (k : ∀ D σ H, t' D σ H → t D σ H) : PSs X e t' := ⟨fun pins s σ H D I w => h.run pins s σ H D I (k D σ H w)⟩

/-! ### functions -/
def cE (x : D) : S → ER Vl := fun s => .ok (.d x) s
def varE (i : Nat) : S → ER Vl := fun s => match s[i]? with
  | some (some (.d x)) => .ok (.d x) s
  | some (some (.o _ _)) => .ok (.r i) s
  | some (some (.x e)) => .ok (.x e) s
  | some (some (.s ns)) => .ok (.s ns) s
  | _ => .no
/-- data of a value, then on -/
def rdK {α : Type} (s : S) (v : Vl) (k : D → ER α) : ER α := match rd s v with
  | some x => k x
  | none => .no
def un1 (f : D → Option Vl) (s : S) (a : Vl) : ER Vl := match rd s a with
  | some x => (match f x with | some z => .ok z s | none => .no)
  | none => .no
def bi2 (f : D → D → Option Vl) (s : S) (a b : Vl) : ER Vl := match rd s a with
  | some x => (match rd s b with
    | some y => (match f x y with | some z => .ok z s | none => .no)
    | none => .no)
  | none => .no
def unE (f : D → Option Vl) (fa : S → ER Vl) : S → ER Vl := fun s => (fa s).bind fun a s1 => un1 f s1 a
def opE (f : D → D → Option Vl) (fa fb : S → ER Vl) : S → ER Vl := fun s => (fa s).bind fun a s1 => (fb s1).bind fun b s2 => bi2 f s2 a b
/-- the truth of a value -/
def truD : D → Bool
  | .none => false
  | .bool b => b
  | .int i => i != 0
  | .str z => (z.length : Int) != 0
  | .list ds => !ds.isEmpty
  | .tuple ds => !ds.isEmpty
  | .dict _ => false
def tru (s : S) : Vl → Option Bool
  | .d x => some (truD x)
  | .o _ (.L ds) => some (!ds.isEmpty)
  | .o _ (.K kvs) => some (!kvs.isEmpty)
  | .r i => match s[i]? with
    | some (some (.d x)) => some (truD x)
    | some (some (.o _ (.L ds))) => some (!ds.isEmpty)
    | some (some (.o _ (.K kvs))) => some (!kvs.isEmpty)
    | _ => none
  | _ => none
def tru1 (s : S) (a : Vl) : ER Bool := match tru s a with
  | some b => .ok b s
  | none => .no
def truT (fa : S → ER Vl) : S → ER Bool := fun s => (fa s).bind fun a s1 => tru1 s1 a
/-- the bool that a comparison gives -/
def blT (fa : S → ER Vl) : S → ER Bool := fun s => (fa s).bind fun a s1 => match a with
  | .d (.bool b) => .ok b s1
  | _ => .no
def notT (f : S → ER Bool) : S → ER Bool := fun s => (f s).bind fun b s1 => .ok (!b) s1
def andT (f g : S → ER Bool) : S → ER Bool := fun s => (f s).bind fun b s1 => if b = true then g s1 else .ok false s1
def orT (f g : S → ER Bool) : S → ER Bool := fun s => (f s).bind fun b s1 => if b = true then .ok true s1 else g s1
def ifE (c : S → ER Bool) (fa fb : S → ER Vl) : S → ER Vl := fun s => (c s).bind fun b s1 => if b = true then fa s1 else fb s1
def notE (fa : S → ER Vl) : S → ER Vl := fun s => (truT fa s).bind fun b s1 => .ok (.d (.bool (!b))) s1
def andE (fa fb : S → ER Vl) : S → ER Vl := fun s => (fa s).bind fun a s1 => (tru1 s1 a).bind fun b s2 => if b = true then fb s2 else .ok a s2
def orE (fa fb : S → ER Vl) : S → ER Vl := fun s => (fa s).bind fun a s1 => (tru1 s1 a).bind fun b s2 => if b = true then .ok a s2 else fb s2
def ifB (z : Vl) (x y : ER Vl) : ER Vl := match z with
  | .d (.bool c) => if c = true then x else y
  | _ => .no
/-- x op y op' z -/
def chE (f g : D → D → Option Vl) (fa fb fc : S → ER Vl) : S → ER Vl := fun s => (fa s).bind fun a s1 => (fb s1).bind fun b s2 => (bi2 f s2 a b).bind fun z s3 => ifB z ((fc s3).bind fun c s4 => bi2 g s4 b c) (.ok (.d (.bool false)) s3)

section
variable {X : Cx} {K : PySem.W.Frag} {xi : XI} {W : WX} {G H G' H' G1 H1 : Hp} {σ σ' σ1 : Ss} {s s' s1 : S} {e a b c : Expr} {rest : List Expr} {fa fb fc : S → ER Vl} {p pos : Pos}
theorem tE_of {f : S → ER Vl} {Q : VK} (R : Rep K xi G H σ s) (h : Po K xi W (VR K xi) G H σ s (f s) Q) : tE K xi W f σ H Q := ⟨G, s, R, h⟩
theorem re_var {i : Nat} (h : PE X e (tVar i)) : PE X e (tE K xi W (varE i)) := PE.mono h fun σ H Q ⟨G, s, R, h⟩ => by
  unfold varE at h
  split at h
  · rename_i x q
    obtain ⟨v, e1, h1⟩ := R.sl i _ q
    exact ⟨v, e1, h v G H .refl R h1⟩
  · rename_i f b q
    obtain ⟨v, e1, h1⟩ := R.sl i _ q
    exact ⟨v, e1, h v G H .refl R e1⟩
  · rename_i x q
    obtain ⟨v, e1, h1⟩ := R.sl i _ q
    exact ⟨v, e1, h v G H .refl R h1⟩
  · rename_i x q
    obtain ⟨v, e1, h1⟩ := R.sl i _ q
    exact ⟨v, e1, h v G H .refl R h1⟩
  · exact h.elim
theorem re_c {v : V} {x : D} (h : PE X e (tC v)) (hx : ∀ G, Rp K G v x) : PE X e (tE K xi W (cE x)) := PE.mono h fun σ H Q ⟨G, s, R, h⟩ => h v G H .refl R (hx G)
theorem re_int {i : Int} {j : Nat} : PE X (.Constant (.int i) j pos) (tE K xi W (cE (.int i))) := re_c pe_int fun _ => .int i
theorem re_bl {i : Bool} {j : Nat} : PE X (.Constant (.bool i) j pos) (tE K xi W (cE (.bool i))) := re_c pe_bl fun _ => .bl i
theorem re_non {j : Nat} : PE X (.Constant .none j pos) (tE K xi W (cE .none)) := re_c pe_non fun _ => .non
theorem re_str {x : Str} {j : Nat} (h : x.length ≤ 1000 := by decide +kernel) : PE X (.Constant (.str x) j pos) (tE K xi W (cE (.str x))) := re_c pe_str fun _ => .str (by rw [sizeLine_eq]; omega)
/-- an operation on values that is a function of data -/
def OpF (K : PySem.W.Frag) (r : R2) (f : D → D → Option Vl) : Prop :=
  ∀ (G H : Hp) (v w : V) (x y : D) (z : Vl) (Q : VK), Same G H → RdR K G H v x → RdR K G H w y → f x y = some z → (∀ u H', Ext K G H u H' z → Q u H') → r v w H Q
def UnF (K : PySem.W.Frag) (r : V → Hp → VK → Prop) (f : D → Option Vl) : Prop :=
  ∀ (G H : Hp) (v : V) (x : D) (z : Vl) (Q : VK), Same G H → RdR K G H v x → f x = some z → (∀ u H', Ext K G H u H' z → Q u H') → r v H Q
theorem bi2_of {r : R2} {f : D → D → Option Vl} {Q : VK} {va vb : Vl} {x y : V} {H0 H00 : Hp} {σ0 σ00 : Ss} {s0 s00 : S} (hf : OpF K r f) (R : Rep K xi G H σ s) (ra : VR K xi H0 σ0 s0 G H σ s x va) (rb : VR K xi H00 σ00 s00 G H σ s y vb)
    (h : Po K xi W (VR K xi) G H σ s (bi2 f s va vb) Q) : r x y H Q := by
  unfold bi2 at h
  split at h
  · rename_i dx ex
    split at h
    · rename_i dy ey
      split at h
      · rename_i z ez
        exact hf G H x y dx dy z Q R.gh (rd_ok R ra ex) (rd_ok R rb ey) ez fun u H' ext => ext.fin R h
      · exact h.elim
    · exact h.elim
  · exact h.elim
theorem un1_of {r : V → Hp → VK → Prop} {f : D → Option Vl} {Q : VK} {va : Vl} {x : V} {H0 : Hp} {σ0 : Ss} {s0 : S} (hf : UnF K r f) (R : Rep K xi G H σ s) (ra : VR K xi H0 σ0 s0 G H σ s x va)
    (h : Po K xi W (VR K xi) G H σ s (un1 f s va) Q) : r x H Q := by
  unfold un1 at h
  split at h
  · rename_i dx ex
    split at h
    · rename_i z ez
      exact hf G H x dx z Q R.gh (rd_ok R ra ex) ez fun u H' ext => ext.fin R h
    · exact h.elim
  · exact h.elim
theorem op_lift {r : R2} {f : D → D → Option Vl} (hf : OpF K r f) {Q : VK} (h : tE K xi W (opE f fa fb) σ H Q) : tOp r (tE K xi W fa) (tE K xi W fb) σ H Q := by
  obtain ⟨G, s, R, h⟩ := h
  exact ⟨G, s, R, Po.bind h backs_V fun va s1 _ x G1 H1 t1 R1 ra h1 => ⟨G1, s1, R1, Po.bind h1 backs_V fun vb s2 _ y G2 H2 t2 R2 rb h2 => bi2_of hf R2 (ra.step R1 t2) rb h2⟩⟩
theorem un_lift {r : V → Hp → VK → Prop} {f : D → Option Vl} (hf : UnF K r f) {Q : VK} (h : tE K xi W (unE f fa) σ H Q) : tUn r (tE K xi W fa) σ H Q := by
  obtain ⟨G, s, R, h⟩ := h
  exact ⟨G, s, R, Po.bind h backs_V fun va s1 _ x G1 H1 t1 R1 ra h1 => un1_of hf R1 ra h1⟩
theorem re_op {op : Operator} {r : R2} {f : D → D → Option Vl} (ho : OpR X (binaryOp op) r) (hf : OpF K r f) (ha : PE X a (tE K xi W fa)) (hb : PE X b (tE K xi W fb)) : PE X (.BinOp a op b pos) (tE K xi W (opE f fa fb)) :=
  PE.mono (pe_op ho ha hb) fun _ _ _ h => op_lift hf h
theorem re_un {op : UnaryOp} {r : V → Hp → VK → Prop} {f : D → Option Vl} (ho : UnR X (unaryOp op) r) (hf : UnF K r f) (ha : PE X a (tE K xi W fa)) : PE X (.UnaryOp op a pos) (tE K xi W (unE f fa)) :=
  PE.mono (pe_un ho ha) fun _ _ _ h => un_lift hf h
theorem re_cmp {op : CmpOp} {r : R2} {f : D → D → Option Vl} (ho : OpR X (compareOp op) r) (hf : OpF K r f) (ha : PE X a (tE K xi W fa)) (hb : PE X b (tE K xi W fb)) (hm : behindInMarks op b = false) : PE X (.Compare a [op] [b] pos) (tE K xi W (opE f fa fb)) :=
  PE.mono (pe_cmpR ho ha hb hm) fun _ _ _ h => op_lift hf h
theorem bl_lift {f : S → ER Vl} {Q : Bool → Hp → Prop} (h : tT K xi W (blT f) σ H Q) : tE K xi W f σ H fun x H' => ∃ k, x = .bl k ∧ Q k H' := by
  obtain ⟨G, s, R, h⟩ := h
  refine ⟨G, s, R, Po.bind h backs_B fun va s1 _ x G1 H1 t1 R1 ra h1 => ?_⟩
  split at h1
  · rename_i k _
    have ra : Rp K G1 x (.bool k) := ra
    cases ra
    exact ⟨k, rfl, h1 k G1 H1 .refl R1 rfl⟩
  · exact h1.elim
theorem rt_cmp {op : CmpOp} {r : R2} {f : D → D → Option Vl} (ho : OpR X (compareOp op) r) (hf : OpF K r f) (ha : PE X a (tE K xi W fa)) (hb : PE X b (tE K xi W fb)) (hm : behindInMarks op b = false) : PT X (.Compare a [op] [b] pos) (tT K xi W (blT (opE f fa fb))) :=
  PT.mono (pt_cmpR ho ha hb hm) fun _ _ _ h => op_lift hf (bl_lift h)
theorem ch_lift {r r' : R2} {f g : D → D → Option Vl} (hf : OpF K r f) (hg : OpF K r' g) {Q : VK} (h : tE K xi W (chE f g fa fb fc) σ H Q) : tChain r r' (tE K xi W fa) (tE K xi W fb) (tE K xi W fc) σ H Q := by
  obtain ⟨G, s, R, h⟩ := h
  refine ⟨G, s, R, Po.bind h backs_V fun va s1 _ x G1 H1 t1 R1 ra h1 => ⟨G1, s1, R1, Po.bind h1 backs_V fun vb s2 _ y G2 H2 t2 R2 rb h2 => bi2_of hf R2 (ra.step R1 t2) rb (Po.bind h2 backs_V fun vz s3 _ z G3 H3 t3 R3 rz h3 => ?_)⟩⟩
  unfold ifB at h3
  split at h3
  · rename_i c _
    have rz : Rp K G3 z (.bool c) := rz
    cases rz
    cases c with
    | false => exact ⟨false, rfl, h3 _ G3 H3 .refl R3 (.bl false)⟩
    | true => exact ⟨true, rfl, ⟨G3, s3, R3, Po.bind h3 backs_V fun vc s4 _ u G4 H4 t4 R4 rc h4 => bi2_of hg R4 ((rb.step R2 t3).step R3 t4) rc h4⟩⟩
  · exact h3.elim
theorem re_chain {op op' : CmpOp} {r r' : R2} {f g : D → D → Option Vl} (ho : OpR X (compareOp op) r) (hf : OpF K r f) (ho' : OpR X (compareOp op') r') (hg : OpF K r' g) (ha : PE X a (tE K xi W fa)) (hb : PE X b (tE K xi W fb)) (hc : PE X c (tE K xi W fc))
    (hm : lastMarks [op, op'] [b, c] = false := by with_unfolding_all rfl) : PE X (.Compare a [op, op'] [b, c] pos) (tE K xi W (chE f g fa fb fc)) :=
  PE.mono (pe_chain ho ho' ha hb hc hm) fun _ _ _ h => ch_lift hf hg h
theorem rt_chain {op op' : CmpOp} {r r' : R2} {f g : D → D → Option Vl} (ho : OpR X (compareOp op) r) (hf : OpF K r f) (ho' : OpR X (compareOp op') r') (hg : OpF K r' g) (ha : PE X a (tE K xi W fa)) (hb : PE X b (tE K xi W fb)) (hc : PE X c (tE K xi W fc))
    (hm : lastMarks [op, op'] [b, c] = false := by with_unfolding_all rfl) : PT X (.Compare a [op, op'] [b, c] pos) (tT K xi W (blT (chE f g fa fb fc))) :=
  PT.mono (pt_chain ho ho' ha hb hc hm) fun _ _ _ h => ch_lift hf hg (bl_lift h)
/-! ### truth -/
theorem RpAll.emp {vs : List V} {ds : List D} (h : RpAll K H vs ds) : ds.isEmpty = vs.isEmpty := by
  cases h with
  | nil => rfl
  | cons a b => rfl
theorem tru_dat {x : D} {v : V} (g : Same G H) (r : RdR K G H v x) : TruV K v H (truD x) := by
  cases r with
  | non => rfl
  | bl b => rfl
  | int i => rfl
  | str h => exact ⟨h, rfl⟩
  | lst h a => exact .inl ⟨_, .inl (.inl h), by rw [← a.emp]; rfl⟩
  | tup h a => exact .inr (.inl ⟨_, same_t g h, by rw [← a.emp]; rfl⟩)
theorem tru_ob {p : Addr} {b : Ob} {k : Bool} (h : ObR K G H p b) (e : (match b with | .L ds => some (!ds.isEmpty) | .K kvs => some (!kvs.isEmpty) | .T _ => none : Option Bool) = some k) : TruV K (.ref p) H k := by
  cases b with
  | L ds =>
    cases e
    obtain ⟨vs, h1, h2⟩ := h
    exact .inl ⟨vs, .inl (Rd.of h1), by rw [h2.emp]⟩
  | K kvs =>
    cases e
    obtain ⟨us, h1, h2, h3⟩ := h
    refine .inr (.inr ⟨us, h1, ?_⟩)
    cases us <;> cases kvs <;> first | rfl | cases h2
  | T kvs => cases e
theorem tru_ok1 {H0 : Hp} {σ0 : Ss} {s0 : S} {v : V} {vl : Vl} {k : Bool} (R : Rep K xi G H σ s) (h : VR K xi H0 σ0 s0 G H σ s v vl) (e : tru s vl = some k) : TruV K v H k := by
  cases vl with
  | d x =>
    cases e
    exact tru_dat R.gh (RdR.of h R.gh)
  | o f b =>
    obtain ⟨_, p, rfl, _, _, h3, _⟩ := h
    exact tru_ob h3 (by cases b <;> exact e)
  | r i =>
    have h : σ[i]? = some (some v) := h
    unfold tru at e
    simp only at e
    split at e
    · rename_i x q
      cases e
      obtain ⟨w, e1, h1⟩ := R.sl i _ q
      rw [h] at e1
      cases e1
      exact tru_dat R.gh (RdR.of h1 R.gh)
    · rename_i f ds q
      cases e
      obtain ⟨w, e1, h1⟩ := R.sl i _ q
      rw [h] at e1
      cases e1
      obtain ⟨p, rfl, _, h3⟩ := h1
      exact tru_ob h3 rfl
    · rename_i f ds q
      cases e
      obtain ⟨w, e1, h1⟩ := R.sl i _ q
      rw [h] at e1
      cases e1
      obtain ⟨p, rfl, _, h3⟩ := h1
      exact tru_ob h3 rfl
    · cases e
  | x e1 => cases e
  | s ns => cases e
theorem tru1_of {Z : Bool → Hp → Prop} {rel : Rl3 Bool Bool} {x : V} {va : Vl} {H0 : Hp} {σ0 : Ss} {s0 : S} (R : Rep K xi G H σ s) (ra : VR K xi H0 σ0 s0 G H σ s x va) (h : Po K xi W rB G H σ s (tru1 s va) Z) : ∃ k, TruV K x H k ∧ Z k H := by
  unfold tru1 at h
  split at h
  · rename_i k e
    exact ⟨k, tru_ok1 R ra e, h k G H .refl R rfl⟩
  · exact h.elim
theorem rt_tru (hK : X.K = K := by rfl) (ha : PE X e (tE K xi W fa)) (he : ∀ whole, isTrue e X.env whole = (do let v ← whole; standAt e.pos; holding [v] (truthy v)) := by intro _; rfl) : PT X e (tT K xi W (truT fa)) := by
  subst hK
  refine PT.mono (pt_truth ha he) fun σ H Q h => ?_
  obtain ⟨G, s, R, h⟩ := h
  exact ⟨G, s, R, Po.bind h backs_B fun va s1 _ x G1 H1 t1 R1 ra h1 => tru1_of (rel := rB) R1 ra h1⟩
theorem rt_not {f : S → ER Bool} (ha : PT X a (tT K xi W f)) : PT X (.UnaryOp .Not a pos) (tT K xi W (notT f)) := by
  refine PT.mono (pt_not ha) fun σ H Q h => ?_
  obtain ⟨G, s, R, h⟩ := h
  exact ⟨G, s, R, Po.bind h backs_B fun b s1 _ k G1 H1 t1 R1 e h1 => by
    have e : k = b := e
    subst e
    exact h1 _ G1 H1 .refl R1 rfl⟩
theorem and_lift {f g : S → ER Bool} {Q : Bool → Hp → Prop} (h : tT K xi W (andT f g) σ H Q) : tAnd (tT K xi W f) (tT K xi W g) σ H Q := by
  obtain ⟨G, s, R, h⟩ := h
  refine ⟨G, s, R, Po.bind h backs_B fun b s1 _ k G1 H1 t1 R1 e h1 => ?_⟩
  have e : k = b := e
  subst e
  cases k with
  | true => exact ⟨G1, s1, R1, h1⟩
  | false => exact h1 _ G1 H1 .refl R1 rfl
theorem or_lift {f g : S → ER Bool} {Q : Bool → Hp → Prop} (h : tT K xi W (orT f g) σ H Q) : tOr (tT K xi W f) (tT K xi W g) σ H Q := by
  obtain ⟨G, s, R, h⟩ := h
  refine ⟨G, s, R, Po.bind h backs_B fun b s1 _ k G1 H1 t1 R1 e h1 => ?_⟩
  have e : k = b := e
  subst e
  cases k with
  | true => exact h1 _ G1 H1 .refl R1 rfl
  | false => exact ⟨G1, s1, R1, h1⟩
theorem rw_and1 {f : S → ER Bool} (ha : PT X a (tT K xi W f)) : PW X (.BoolOp .And [a] pos) (tT K xi W f) := pw_and1 ha
theorem rw_or1 {f : S → ER Bool} (ha : PT X a (tT K xi W f)) : PW X (.BoolOp .Or [a] pos) (tT K xi W f) := pw_or1 ha
theorem rw_and {f g : S → ER Bool} (ha : PT X a (tT K xi W f)) (hb : PW X (.BoolOp .And (b :: rest) pos) (tT K xi W g)) : PW X (.BoolOp .And (a :: b :: rest) pos) (tT K xi W (andT f g)) := PW.mono (pw_and ha hb) fun _ _ _ h => and_lift h
theorem rw_or {f g : S → ER Bool} (ha : PT X a (tT K xi W f)) (hb : PW X (.BoolOp .Or (b :: rest) pos) (tT K xi W g)) : PW X (.BoolOp .Or (a :: b :: rest) pos) (tT K xi W (orT f g)) := PW.mono (pw_or ha hb) fun _ _ _ h => or_lift h
theorem re_if {f : S → ER Bool} (hc : PT X c (tT K xi W f)) (ha : PE X a (tE K xi W fa)) (hb : PE X b (tE K xi W fb)) : PE X (.IfExp c a b pos) (tE K xi W (ifE f fa fb)) := by
  refine PE.mono (pe_ifExp hc ha hb) fun σ H Q h => ?_
  obtain ⟨G, s, R, h⟩ := h
  refine ⟨G, s, R, Po.bind h backs_V fun b s1 _ k G1 H1 t1 R1 e h1 => ?_⟩
  have e : k = b := e
  subst e
  cases k with
  | true => exact ⟨G1, s1, R1, h1⟩
  | false => exact ⟨G1, s1, R1, h1⟩
theorem re_one {op : BoolOp} {t : TE} (h : PE X a t) : PE X (.BoolOp op [a] pos) t := pe_one h
theorem re_and (hK : X.K = K := by rfl) (ha : PE X a (tE K xi W fa)) (hb : PE X (.BoolOp .And (b :: rest) pos) (tE K xi W fb)) : PE X (.BoolOp .And (a :: b :: rest) pos) (tE K xi W (andE fa fb)) := by
  subst hK
  refine PE.mono (pe_andT ha hb) fun σ H Q h => ?_
  obtain ⟨G, s, R, h⟩ := h
  refine ⟨G, s, R, Po.bindU .refl h fun va s1 _ x G1 H1 t1 R1 ra h1 => ?_⟩
  unfold tru1 at h1
  split at h1
  · rename_i k e
    refine ⟨k, tru_ok1 R1 ra e, ?_⟩
    cases k with
    | true => exact ⟨G1, s1, R1, Po.shift t1 backs_V h1⟩
    | false => exact h1 x G1 H1 t1 R1 ra
  · exact h1.elim
theorem re_or (hK : X.K = K := by rfl) (ha : PE X a (tE K xi W fa)) (hb : PE X (.BoolOp .Or (b :: rest) pos) (tE K xi W fb)) : PE X (.BoolOp .Or (a :: b :: rest) pos) (tE K xi W (orE fa fb)) := by
  subst hK
  refine PE.mono (pe_orT ha hb) fun σ H Q h => ?_
  obtain ⟨G, s, R, h⟩ := h
  refine ⟨G, s, R, Po.bindU .refl h fun va s1 _ x G1 H1 t1 R1 ra h1 => ?_⟩
  unfold tru1 at h1
  split at h1
  · rename_i k e
    refine ⟨k, tru_ok1 R1 ra e, ?_⟩
    cases k with
    | true => exact h1 x G1 H1 t1 R1 ra
    | false => exact ⟨G1, s1, R1, Po.shift t1 backs_V h1⟩
  · exact h1.elim
theorem re_not (hK : X.K = K := by rfl) (ha : PE X a (tE K xi W fa)) : PE X (.UnaryOp .Not a pos) (tE K xi W (notE fa)) := by
  subst hK
  refine PE.mono (pe_notT ha) fun σ H Q h => ?_
  obtain ⟨G, s, R, h⟩ := h
  have h : Po X.K xi W (VR X.K xi) G H σ s ((fa s).bind fun a s1 => (tru1 s1 a).bind fun b s2 => .ok (.d (.bool (!b))) s2) Q := by
    have e : notE fa s = ((fa s).bind fun a s1 => (tru1 s1 a).bind fun b s2 => .ok (.d (.bool (!b))) s2) := by
      unfold notE truT
      cases fa s <;> rfl
    rw [← e]
    exact h
  refine ⟨G, s, R, Po.bind h backs_V fun va s1 _ x G1 H1 t1 R1 ra h1 => ?_⟩
  unfold tru1 at h1
  split at h1
  · rename_i k e
    exact ⟨k, tru_ok1 R1 ra e, h1 _ G1 H1 .refl R1 (.bl _)⟩
  · exact h1.elim
/-! ### arguments -/
end
def nilA : S → ER (List Vl) := fun s => .ok [] s
def consA (fa : S → ER Vl) (fr : S → ER (List Vl)) : S → ER (List Vl) := fun s => (fa s).bind fun a s1 => (fr s1).bind fun r s2 => .ok (a :: r) s2
section
variable {X : Cx} {K : PySem.W.Frag} {xi : XI} {W : WX} {G H G' H' G1 H1 : Hp} {σ σ' σ1 : Ss} {s s' s1 : S} {e a b c : Expr} {es : List Expr} {fa fb fc : S → ER Vl} {fr : S → ER (List Vl)} {p pos : Pos}
theorem ra_nil : PA X [] (tA K xi W nilA) := PA.mono pa_nil fun σ H Q ⟨G, s, R, h⟩ => h [] G H .refl R ⟨.nil, fun i j f g b c p h => by simp at h⟩
theorem VRs.ref_at {H0 : Hp} {σ0 : Ss} {s0 : S} : ∀ {vs : List V} {vls : List Vl}, VRs K xi H0 σ0 s0 G H σ s vs vls → ∀ {i : Nat} {f : Bool} {b : Ob} {p : Addr}, vls[i]? = some (.o f b) → vs[i]? = some (.ref p) → H0 p = none ∨ Own σ0 s0 true p
  | _, _, .nil, i, _, _, _, h, _ => by simp at h
  | _, _, .cons a r, 0, f, b, p, h, e => by
    simp at h e
    subst h e
    obtain ⟨_, q, e, _, h2, _⟩ := a
    cases e
    exact h2
  | _, _, .cons a r, i + 1, f, b, p, h, e => VRs.ref_at r (i := i) (by simpa using h) (by simpa using e)
theorem ra_cons (ha : PE X e (tE K xi W fa)) (hr : PA X es (tA K xi W fr)) (hs : starEach (e :: es) X.env = (false, eval e X.env) :: starEach es X.env := by rfl) : PA X (e :: es) (tA K xi W (consA fa fr)) := by
  refine PA.mono (pa_cons ha hr hs) fun σ H Q h => ?_
  obtain ⟨G, s, R, h⟩ := h
  refine ⟨G, s, R, Po.bindU .refl h fun va s1 _ x G1 H1 t1 R1 ra h1 => ⟨G1, s1, R1, Po.bindU t1 h1 fun vr s2 _ ys G2 H2 t2 R2 rb h2 => ?_⟩⟩
  refine h2 (x :: ys) G2 H2 (t1.trans t2) R2 ?_
  have first : ∀ {f : Bool} {b : Ob} {p : Addr}, va = .o f b → x = .ref p → H1 p ≠ none ∧ ∀ g, ¬ Own σ s1 g p := fun {f b p} e1 e2 => by
    subst e1 e2
    obtain ⟨_, q, e, _, _, h3, h4⟩ := ra
    cases e
    exact ⟨h3.here, h4⟩
  have other : ∀ {j : Nat} {g f : Bool} {c b : Ob} {p : Addr}, vr[j]? = some (.o g c) → ys[j]? = some (.ref p) → va = .o f b → x = .ref p → False := fun {j g f c b p} e1 e2 e3 e4 => by
    obtain ⟨n1, n2⟩ := first e3 e4
    rcases rb.all.ref_at e1 e2 with z | z
    · exact n1 z
    · exact n2 true z
  refine ⟨.cons (ra.step R1 t2) (rb.all.back t1), fun i j f g b c p h1 h2 h3 h4 => ?_⟩
  cases i with
  | zero =>
    cases j with
    | zero => rfl
    | succ j => exact (other (by simpa using h2) (by simpa using h4) (by simpa using h1) (by simpa using h3)).elim
  | succ i =>
    cases j with
    | zero => exact (other (by simpa using h1) (by simpa using h3) (by simpa using h2) (by simpa using h4)).elim
    | succ j => rw [rb.ap i j f g b c p (by simpa using h1) (by simpa using h2) (by simpa using h3) (by simpa using h4)]
end
end M

set_option Elab.async false
set_option linter.all false
set_option maxRecDepth 100000
set_option maxHeartbeats 4000000
/-! Operations by data. -/
namespace M
open PySem PySem.Spec PyProof.Rows L2 Sv

theorem opr_or {X : Cx} {f : Value → Value → Sem Value} {r r' : R2} (h : OpR X f r) (h' : OpR X f r') : OpR X f (fun x y H Q => r x y H Q ∨ r' x y H Q) := fun pins s σ H x y v u Q I rx ry q =>
  q.elim (h pins s σ H x y v u Q I rx ry) (h' pins s σ H x y v u Q I rx ry)
/-! ### + -/
def addD : D → D → Option Vl
  | .int i, .int j => some (.d (.int (i + j)))
  | .str a, .str b => if a.length + b.length ≤ 16777216 then some (.d (.str (a ++ b))) else none
  | .list a, .list b => if a.length + b.length ≤ 16777216 then some (.o true (.L (a ++ b))) else none
  | .tuple a, .tuple b => if a.length + b.length ≤ 16777216 then some (.d (.tuple (a ++ b))) else none
  | _, _ => none
def rAddU (K : PySem.W.Frag) : R2 := fun x y H Q => ((rI0 fun i j => .int (i + j)) x y H Q ∨ (∃ i j, x = .str i ∧ y = .str j ∧ i.length + j.length ≤ sizeLine ∧ Q (.str (i ++ j)) H)) ∨ (rCat x y H Q ∨ rCatA K x y H Q)
theorem op_addU {X : Cx} {K : PySem.W.Frag} (hK : X.K = K := by rfl) : OpR X (binaryOp .Add) (rAddU K) := by
  subst hK
  exact opr_or (opr_or op_add op_add_str) (opr_or op_cat op_catA)
section
variable {K : PySem.W.Frag}
theorem of_add : OpF K (rAddU K) addD := by
  intro G H v w x y z Q g rx ry e h
  cases rx with
  | int i =>
    cases ry with
    | int j => cases e; exact .inl (.inl ⟨i, j, rfl, rfl, h _ _ (.same (.int _))⟩)
    | _ => cases e
  | @str a ha =>
    cases ry with
    | @str b hb =>
      have e : (if a.length + b.length ≤ 16777216 then some (Vl.d (.str (a ++ b))) else none) = some z := e
      by_cases c : a.length + b.length ≤ 16777216
      · rw [if_pos c] at e
        cases e
        have c2 : a.length + b.length ≤ sizeLine := by rw [sizeLine_eq]; exact c
        refine .inl (.inr ⟨a, b, rfl, rfl, c2, h _ _ (.same (.str ?_))⟩)
        have : (a ++ b).length = a.length + b.length := by show (a.cps ++ b.cps).size = _; rw [Array.size_append]; rfl
        omega
      · rw [if_neg c] at e; cases e
    | _ => cases e
  | @lst p xs ds h1 a1 =>
    cases ry with
    | @lst q ys es h2 a2 =>
      have e : (if ds.length + es.length ≤ 16777216 then some (Vl.o true (.L (ds ++ es))) else none) = some z := e
      by_cases c : ds.length + es.length ≤ 16777216
      · rw [if_pos c] at e
        cases e
        have l1 := a1.len
        have l2 := a2.len
        exact .inr (.inl ⟨p, q, xs, ys, rfl, rfl, h1, h2, by rw [sizeLine_eq]; omega, fun r hr => h _ _ (.lst hr (a1.app a2))⟩)
      · rw [if_neg c] at e; cases e
    | _ => cases e
  | @tup p xs ds h1 a1 =>
    cases ry with
    | @tup q ys es h2 a2 =>
      have e : (if ds.length + es.length ≤ 16777216 then some (Vl.d (.tuple (ds ++ es))) else none) = some z := e
      by_cases c : ds.length + es.length ≤ 16777216
      · rw [if_pos c] at e
        cases e
        have l1 := a1.len
        have l2 := a2.len
        refine .inr (.inr ⟨p, q, xs, ys, rfl, rfl, same_t g h1, same_t g h2, by rw [sizeLine_eq]; omega, fun e0 => ?_, fun _ e0 => ?_, fun _ _ r hr => h _ _ (.tup hr (a1.app a2))⟩)
        · subst e0
          cases a1
          exact h _ _ (.same (.tup h2 a2))
        · subst e0
          cases a2
          rw [List.append_nil] at h
          exact h _ _ (.same (.tup h1 a1))
      · rw [if_neg c] at e; cases e
    | _ => cases e
  | _ => cases e
/-! ### ints -/
def intD (f : Int → Int → Option Int) : D → D → Option Vl
  | .int i, .int j => (f i j).map fun k => .d (.int k)
  | _, _ => none
theorem of_int {r : R2} {f : Int → Int → Option Int} (hr : ∀ (i j k : Int) (H : Hp) (Q : VK), f i j = some k → Q (.int k) H → r (.int i) (.int j) H Q) : OpF K r (intD f) := by
  intro G H v w x y z Q g rx ry e h
  cases rx with
  | int i =>
    cases ry with
    | int j =>
      have e : ((f i j).map fun k => Vl.d (.int k)) = some z := e
      cases q : f i j with
      | none => rw [q] at e; cases e
      | some k =>
        rw [q] at e
        cases e
        exact hr i j k H Q q (h _ _ (.same (.int k)))
    | _ => cases e
  | _ => cases e
def subI (i j : Int) : Option Int := some (i - j)
def modI (i j : Int) : Option Int := if 0 < j then some (i % j) else none
def divI (i j : Int) : Option Int := if 0 < j ∧ j < 1073741824 then some (i / j) else none
/-- a whole number of less than 64 bits -/
def bits64 (i : Int) : Bool := decide (i.natAbs < 18446744073709551616)
theorem bits64_ok {i : Int} (h : bits64 i = true) : i.natAbs < 18446744073709551616 := of_decide_eq_true h
def shlI (i j : Int) : Option Int := if 0 ≤ j ∧ j ≤ 1000000 ∧ bits64 i = true then some (i * 2 ^ j.toNat) else none
def shrI (i j : Int) : Option Int := if 0 ≤ j then some (i / 2 ^ j.toNat) else none
def bandI (i j : Int) : Option Int := some (Builtin.bitAnd i j)
def borI (i j : Int) : Option Int := some (Builtin.bitOr i j)
theorem of_sub : OpF K (rI0 fun i j => .int (i - j)) (intD subI) := of_int fun i j k H Q e q => by cases e; exact ⟨i, j, rfl, rfl, q⟩
theorem of_mod : OpF K (rI (fun _ j => 0 < j) fun i j => .int (i % j)) (intD modI) := of_int fun i j k H Q e q => by
  unfold modI at e
  split at e
  · cases e; exact ⟨i, j, rfl, rfl, by assumption, q⟩
  · cases e
theorem of_div : OpF K (rI CDiv fun i j => .int (i / j)) (intD divI) := of_int fun i j k H Q e q => by
  unfold divI at e
  split at e
  · cases e; exact ⟨i, j, rfl, rfl, by assumption, q⟩
  · cases e
theorem of_shl : OpF K (rI CPow fun i j => .int (i * 2 ^ j.toNat)) (intD shlI) := of_int fun i j k H Q e q => by
  unfold shlI at e
  split at e
  · rename_i c
    cases e; exact ⟨i, j, rfl, rfl, ⟨c.1, c.2.1, bits64_ok c.2.2⟩, q⟩
  · cases e
theorem of_shr : OpF K (rI (fun _ j => 0 ≤ j) fun i j => .int (i / 2 ^ j.toNat)) (intD shrI) := of_int fun i j k H Q e q => by
  unfold shrI at e
  split at e
  · cases e; exact ⟨i, j, rfl, rfl, by assumption, q⟩
  · cases e
theorem of_band : OpF K (rI0 fun i j => .int (Builtin.bitAnd i j)) (intD bandI) := of_int fun i j k H Q e q => by cases e; exact ⟨i, j, rfl, rfl, q⟩
theorem of_bor : OpF K (rI0 fun i j => .int (Builtin.bitOr i j)) (intD borI) := of_int fun i j k H Q e q => by cases e; exact ⟨i, j, rfl, rfl, q⟩
def negD : D → Option Vl
  | .int i => some (.d (.int (-i)))
  | _ => none
theorem uf_neg : UnF K (rU fun i => .int (-i)) negD := by
  intro G H v x z Q g rx e h
  cases rx with
  | int i => cases e; exact ⟨i, rfl, h _ _ (.same (.int _))⟩
  | _ => cases e
/-! ### * -/
/-- many times the same tuple: as long as the new one is small enough to be held -/
def rRepB (K : PySem.W.Frag) : R2 := fun x y H Q => ∃ p k vs, x = .ref p ∧ y = .int k ∧ SqT K H p vs ∧ vs ≠ [] ∧ 2 ≤ k ∧ vs.length * k.toNat ≤ 16777216 ∧ ∀ q, H q = none → Q (.ref q) (upd H q (.tup (List.replicate k.toNat vs).flatten))
theorem rep_sz {α : Type} (xs : List α) (n : Nat) (h : xs.length * n ≤ 16777216) : (List.replicate n xs).flatten.length ≤ sizeLine := by
  rw [List.length_flatten, List.map_replicate, List.sum_replicate_nat, sizeLine_eq, Nat.mul_comm]
  exact h
theorem op_repB {X : Cx} : OpR X (binaryOp .Mult) (rRepB X.K) := by
  rintro pins s σ H x y v u Q I rx ry ⟨p, k, vs, rfl, rfl, sq, ne, k2, sz, q⟩
  cases rx
  obtain ⟨t, rfl⟩ := ry
  obtain ⟨ws, rd, ⟨⟨cls, dd, data, sl⟩, ho, hc, n, hd⟩, _⟩ := I.tuple sq
  simp only at hc hd
  subst hc hd
  have len : ws.length = vs.length := rd.length.symm
  have pos : 1 ≤ vs.length := List.length_pos_iff.mpr ne
  have kk : k.toNat ≤ 16777216 := Nat.le_trans (by have := Nat.mul_le_mul_right k.toNat pos; rwa [Nat.one_mul] at this) sz
  have emp : ws.toArray.isEmpty = false := by
    cases ws with
    | nil => rw [← len] at pos; exact absurd pos (by decide)
    | cons _ _ => rfl
  have prod : ((ws.toArray.size : Nat) : Int) * k ≤ 16777216 := by
    rw [List.size_toArray, len, show k = ((k.toNat : Nat) : Int) by omega, ← Int.natCast_mul]
    exact Int.ofNat_le.mpr sz
  have sm := rep_sz ws k.toNat (by rw [len]; exact sz)
  have tup := tuple_mulW p ws.toArray n dd sl k t (by rw [decide_eq_false (by omega), decide_eq_false (by omega)]; rfl) (by rw [emp, Bool.false_or]; exact beq_eq_false_iff_ne.mpr (by omega))
    (by rw [emp, Bool.or_false]; exact decide_eq_false (by omega)) (by omega) (by unfold Builtin.Tuple.tupleTooMany; rw [sizeLine_eq]; exact decide_eq_false (by omega)) (by rw [size_rep, List.size_toArray]; exact sm)
  refine wpAny_binaryOp_repeat_ref (T := "tuple") (U := "int") (by decide) ⟨_, ho, rfl⟩ (fun s' => typeIs_int s' k t) noFill_tuple_mul F.fills_int_mul F.slot_int_rmul repeat_tuple F.slot_int_index.lookup ?_
  refine call_meets F.slot_int_rmul (typeIs_int s k t) F.entry_int_rmul (F.args_int_rmul_2 _ _) (int_rmul_tuple k t p ws.toArray n dd sl) ⟨ho, rfl, ⟨_, ho, rfl⟩, ?_⟩
  refine call_meets F.slot_tuple_mul ⟨_, ho, rfl⟩ F.entry_tuple_mul (F.args_tuple_mul_2 _ _) tup ⟨ho, ?_⟩
  rw [size_rep]
  exact ⟨.ref s.heap.objs.size, _, I.laid (t' := s.toks) (o := .tup (List.replicate k.toNat vs).flatten) (fun b ob e => Heap.get?_push_of_some _ e) (Nat.le_refl _) ⟨rep_sz vs k.toNat sz, _, rd.rep k.toNat, IsTup.new _ _⟩, rfl, q _ (I.hok.fresh (Nat.le_refl _))⟩
def mulD : D → D → Option Vl
  | .int i, .int j => if (bits64 i || bits64 j) = true then some (.d (.int (i * j))) else none
  | .str z, .int n => if 0 ≤ n ∧ n ≤ 1000 ∧ z.length ≤ 1000 then some (.d (.str (repS z n.toNat))) else none
  | .list xs, .int k => if k.natAbs < 1073741824 ∧ xs.length * k.toNat ≤ 16777216 then some (.o true (.L (List.replicate k.toNat xs).flatten)) else none
  | .tuple xs, .int k => if xs ≠ [] ∧ 2 ≤ k ∧ xs.length * k.toNat ≤ 16777216 then some (.d (.tuple (List.replicate k.toNat xs).flatten)) else none
  | _, _ => none
def rMulU (K : PySem.W.Frag) : R2 := fun x y H Q => ((rI CMul fun i j => .int (i * j)) x y H Q ∨ (∃ (z : Str) (n : Int), x = .str z ∧ y = .int n ∧ 0 ≤ n ∧ n ≤ 1000 ∧ z.length ≤ 1000 ∧ Q (.str (repS z n.toNat)) H)) ∨ (rRep x y H Q ∨ rRepB K x y H Q)
theorem op_mulU {X : Cx} {K : PySem.W.Frag} (hK : X.K = K := by rfl) : OpR X (binaryOp .Mult) (rMulU K) := by
  subst hK
  exact opr_or (opr_or op_mul op_mul_str) (opr_or op_rep op_repB)
theorem RpAll.rep {H : Hp} {vs : List V} {ds : List D} (h : RpAll K H vs ds) : ∀ n, RpAll K H (List.replicate n vs).flatten (List.replicate n ds).flatten
  | 0 => .nil
  | n + 1 => by
    rw [List.replicate_succ, List.replicate_succ, List.flatten_cons, List.flatten_cons]
    exact h.app (RpAll.rep h n)
theorem of_mul : OpF K (rMulU K) mulD := by
  intro G H v w x y z Q g rx ry e h
  cases ry with
  | int j =>
    cases rx with
    | int i =>
      have e : (if (bits64 i || bits64 j) = true then some (Vl.d (.int (i * j))) else none) = some z := e
      split at e
      · rename_i c
        cases e
        refine .inl (.inl ⟨i, j, rfl, rfl, ?_, h _ _ (.same (.int _))⟩)
        rw [Bool.or_eq_true] at c
        rcases c with c | c
        · have := bits64_ok c
          exact .inl (by omega)
        · have := bits64_ok c
          exact .inr (by omega)
      · cases e
    | @str a ha =>
      have e : (if 0 ≤ j ∧ j ≤ 1000 ∧ a.length ≤ 1000 then some (Vl.d (.str (repS a j.toNat))) else none) = some z := e
      split at e
      · rename_i c
        cases e
        refine .inl (.inr ⟨a, j, rfl, rfl, c.1, c.2.1, c.2.2, h _ _ (.same (.str ?_))⟩)
        rw [repS_len, sizeLine_eq]
        have : j.toNat * a.length ≤ 1000 * 1000 := Nat.mul_le_mul (by omega) c.2.2
        omega
      · cases e
    | @lst p xs ds h1 a1 =>
      have e : (if j.natAbs < 1073741824 ∧ ds.length * j.toNat ≤ 16777216 then some (Vl.o true (.L (List.replicate j.toNat ds).flatten)) else none) = some z := e
      split at e
      · rename_i c
        cases e
        exact .inr (.inl ⟨p, j, xs, rfl, rfl, h1, by have := c.1; omega, by have := c.1; omega, by rw [a1.len, sizeLine_eq]; exact c.2, fun q hq => h _ _ (.lst hq (a1.rep _))⟩)
      · cases e
    | @tup p xs ds h1 a1 =>
      have e : (if ds ≠ [] ∧ 2 ≤ j ∧ ds.length * j.toNat ≤ 16777216 then some (Vl.d (.tuple (List.replicate j.toNat ds).flatten)) else none) = some z := e
      split at e
      · rename_i c
        cases e
        refine .inr (.inr ⟨p, j, xs, rfl, rfl, same_t g h1, fun e0 => ?_, c.2.1, by rw [a1.len]; exact c.2.2, fun q hq => h _ _ (.tup hq (a1.rep _))⟩)
        subst e0
        cases a1
        exact c.1 rfl
      · cases e
    | _ => cases e
  | _ => cases rx <;> cases e
/-! ### comparisons -/
def ltD : D → D → Option Vl
  | .int i, .int j => some (.d (.bool (decide (i < j))))
  | .str a, .str b => some (.d (.bool (decide (a.cps.toList < b.cps.toList))))
  | _, _ => none
def cmpD (f : Int → Int → Bool) : D → D → Option Vl
  | .int i, .int j => some (.d (.bool (f i j)))
  | _, _ => none
def leD := cmpD fun i j => decide (i ≤ j)
def gtD := cmpD fun i j => decide (j < i)
def geD := cmpD fun i j => decide (j ≤ i)
theorem of_cmp {r : R2} {f : Int → Int → Bool} (hr : ∀ (i j : Int) (H : Hp) (Q : VK), Q (.bl (f i j)) H → r (.int i) (.int j) H Q) : OpF K r (cmpD f) := by
  intro G H v w x y z Q g rx ry e h
  cases rx with
  | int i =>
    cases ry with
    | int j => cases e; exact hr i j H Q (h _ _ (.same (.bl _)))
    | _ => cases e
  | _ => cases e
theorem of_le : OpF K (rI0 fun i j => .bl (decide (i ≤ j))) leD := of_cmp fun i j H Q q => ⟨i, j, rfl, rfl, q⟩
theorem of_gt : OpF K (rI0 fun i j => .bl (decide (j < i))) gtD := of_cmp fun i j H Q q => ⟨i, j, rfl, rfl, q⟩
theorem of_ge : OpF K (rI0 fun i j => .bl (decide (j ≤ i))) geD := of_cmp fun i j H Q q => ⟨i, j, rfl, rfl, q⟩
def rLtU : R2 := fun x y H Q => (rI0 fun i j => .bl (decide (i < j))) x y H Q ∨ (∃ i j, x = .str i ∧ y = .str j ∧ Q (.bl (decide (i.cps.toList < j.cps.toList))) H)
theorem op_ltU {X : Cx} : OpR X (compareOp .Lt) rLtU := opr_or op_lt op_lt_str
theorem of_lt : OpF K rLtU ltD := by
  intro G H v w x y z Q g rx ry e h
  cases rx with
  | int i =>
    cases ry with
    | int j => cases e; exact .inl ⟨i, j, rfl, rfl, h _ _ (.same (.bl _))⟩
    | _ => cases e
  | @str a ha =>
    cases ry with
    | @str b hb => cases e; exact .inr ⟨a, b, rfl, rfl, h _ _ (.same (.bl _))⟩
    | _ => cases e
  | _ => cases e
/-! ### == -/
def okD (x : D) : Bool := decide (x.depth ≤ 40)
def eqD (x y : D) : Option Vl := if okD x || okD y then some (.d (.bool (PyData.eqv x y))) else none
def neD (x y : D) : Option Vl := if okD x || okD y then some (.d (.bool (!PyData.eqv x y))) else none
def rEqU (K : PySem.W.Frag) (neg : Bool) : R2 := fun x y H Q => ∃ d e, Dp K H x d ∧ Dp K H y e ∧ d.plain = true ∧ e.plain = true ∧ min d.depth e.depth ≤ 40 ∧ Q (.bl (if neg then !PyData.eqv d e else PyData.eqv d e)) H
theorem op_eqU {X : Cx} {K : PySem.W.Frag} (hu : X.A.units + 64 < cLine) (hK : X.K = K := by rfl) : OpR X (compareOp .Eq) (rEqU K false) := by
  subst hK
  intro pins s σ H x y v u Q I rx ry h
  obtain ⟨d, e, hd, he, sd, se, hm, q⟩ := h
  obtain ⟨as, r1⟩ := Dp.reads I d x v hd rx
  obtain ⟨bs, r2⟩ := Dp.reads I e y u he ry
  exact SeqAt.eq_plain r1 r2 sd se (by omega) ⟨.bl _, H, I, rfl, q⟩
theorem op_neU {X : Cx} {K : PySem.W.Frag} (hu : X.A.units + 64 < cLine) (hK : X.K = K := by rfl) : OpR X (compareOp .NotEq) (rEqU K true) := by
  subst hK
  intro pins s σ H x y v u Q I rx ry h
  obtain ⟨d, e, hd, he, sd, se, hm, q⟩ := h
  obtain ⟨as, r1⟩ := Dp.reads I d x v hd rx
  obtain ⟨bs, r2⟩ := Dp.reads I e y u he ry
  exact SeqAt.ne_plain r1 r2 sd se (by omega) ⟨.bl _, H, I, rfl, q⟩
theorem ok_min {x y : D} (h : (okD x || okD y) = true) : min x.depth y.depth ≤ 40 := by
  unfold okD at h
  simp only [Bool.or_eq_true, decide_eq_true_eq] at h
  omega
theorem of_eq : OpF K (rEqU K false) eqD := by
  intro G H v w x y z Q g rx ry e h
  unfold eqD at e
  split at e
  · rename_i c
    cases e
    have h1 := rx.dp g
    have h2 := ry.dp g
    exact ⟨x, y, h1.dp, h2.dp, h1.pl, h2.pl, ok_min c, h _ _ (.same (.bl _))⟩
  · cases e
theorem of_ne : OpF K (rEqU K true) neD := by
  intro G H v w x y z Q g rx ry e h
  unfold neD at e
  split at e
  · rename_i c
    cases e
    have h1 := rx.dp g
    have h2 := ry.dp g
    exact ⟨x, y, h1.dp, h2.dp, h1.pl, h2.pl, ok_min c, h _ _ (.same (.bl _))⟩
  · cases e
/-! ### in -/
def inD (neg : Bool) : D → D → Option Vl
  | x, .list ds => if okD x then some (.d (.bool (neg ^^ ds.any fun y => PyData.eqv y x))) else none
  | x, .tuple ds => if okD x then some (.d (.bool (neg ^^ ds.any fun y => PyData.eqv y x))) else none
  | .str a, .str b => some (.d (.bool (neg ^^ !(Builtin.Str.occurrences b a 0 b.length 1).isEmpty)))
  | _, _ => none
def rInU (K : PySem.W.Frag) (neg : Bool) : R2 := fun x y H Q => (∃ d ds, Dp K H x d ∧ (Dp K H y (.list ds) ∨ Dp K H y (.tuple ds)) ∧ d.plain = true ∧ PyData.plainAll ds = true ∧ d.depth ≤ 40 ∧ Q (.bl (neg ^^ ds.any fun z => PyData.eqv z d)) H) ∨
  ∃ i j, x = .str i ∧ y = .str j ∧ Q (.bl (neg ^^ !(Builtin.Str.occurrences j i 0 j.length 1).isEmpty)) H
theorem op_inU {X : Cx} {K : PySem.W.Frag} (hu : X.A.units + 64 < cLine) (hK : X.K = K := by rfl) : OpR X (compareOp .In) (rInU K false) := by
  subst hK
  intro pins s σ H x y v u Q I rx ry h
  rcases h with ⟨d, ds, hd, he, sd, se, hm, q⟩ | ⟨i, j, rfl, rfl, q⟩
  · obtain ⟨as, r1⟩ := Dp.reads I d x v hd rx
    rw [Bool.false_xor] at q
    rcases he with he | he
    · obtain ⟨bs, r2⟩ := Dp.reads I _ y u he ry
      exact SeqAt.in_list_data r2 r1 se sd (by omega) ⟨.bl _, H, I, rfl, q⟩
    · obtain ⟨bs, r2⟩ := Dp.reads I _ y u he ry
      exact SeqAt.in_tuple_data r2 r1 se sd (by omega) ⟨.bl _, H, I, rfl, q⟩
  · rw [Bool.false_xor] at q
    exact op_in_str pins s σ H _ _ v u Q I rx ry ⟨i, j, rfl, rfl, q⟩
theorem op_notInU {X : Cx} {K : PySem.W.Frag} (hu : X.A.units + 64 < cLine) (hK : X.K = K := by rfl) : OpR X (compareOp .NotIn) (rInU K true) := by
  subst hK
  intro pins s σ H x y v u Q I rx ry h
  rcases h with ⟨d, ds, hd, he, sd, se, hm, q⟩ | ⟨i, j, rfl, rfl, q⟩
  · obtain ⟨as, r1⟩ := Dp.reads I d x v hd rx
    rw [Bool.true_xor] at q
    rcases he with he | he
    · obtain ⟨bs, r2⟩ := Dp.reads I _ y u he ry
      exact SeqAt.notIn_list_data r2 r1 se sd (by omega) ⟨.bl _, H, I, rfl, q⟩
    · obtain ⟨bs, r2⟩ := Dp.reads I _ y u he ry
      exact SeqAt.notIn_tuple_data r2 r1 se sd (by omega) ⟨.bl _, H, I, rfl, q⟩
  · rw [Bool.true_xor] at q
    exact op_notIn_str pins s σ H _ _ v u Q I rx ry ⟨i, j, rfl, rfl, q⟩
theorem of_in {neg : Bool} : OpF K (rInU K neg) (inD neg) := by
  intro G H v w x y z Q g rx ry e h
  have seq : ∀ ds : List D, (if okD x then some (Vl.d (.bool (neg ^^ ds.any fun y => PyData.eqv y x))) else none) = some z → x.depth ≤ 40 ∧ z = .d (.bool (neg ^^ ds.any fun y => PyData.eqv y x)) := fun ds e => by
    split at e
    · rename_i c
      cases e
      exact ⟨of_decide_eq_true c, rfl⟩
    · cases e
  have hx := rx.dp g
  cases ry with
  | @lst p ys ds h1 a1 =>
    obtain ⟨c, rfl⟩ := seq ds (by cases x <;> exact e)
    exact .inl ⟨x, ds, hx.dp, .inl (.lst (.inl (.inl h1)) (RpAll.same g a1).dp), hx.pl, a1.pl, c, h _ _ (.same (.bl _))⟩
  | @tup p ys ds h1 a1 =>
    obtain ⟨c, rfl⟩ := seq ds (by cases x <;> exact e)
    exact .inl ⟨x, ds, hx.dp, .inr (.tup (same_t g h1) (RpAll.same g a1).dp), hx.pl, a1.pl, c, h _ _ (.same (.bl _))⟩
  | @str b hb =>
    cases rx with
    | @str a ha => cases e; exact .inr ⟨a, b, rfl, rfl, h _ _ (.same (.bl _))⟩
    | _ => cases e
  | _ => cases rx <;> cases e
end
end M

set_option Elab.async false
set_option linter.all false
set_option maxRecDepth 100000
set_option maxHeartbeats 4000000
/-! Subscripts, slices, displays, built-in calls and methods. -/
namespace M
open PySem PySem.Spec PyProof.Rows L2 Sv

section
variable {K : PySem.W.Frag}
def isNone : D → Bool
  | .none => true
  | _ => false
def isD (neg : Bool) (x : D) : D → Option Vl
  | .none => some (.d (.bool (neg ^^ isNone x)))
  | .bool b => match x with
    | .bool a => some (.d (.bool (neg ^^ decide (a = b))))
    | _ => none
  | _ => none
def rIsU (neg : Bool) : R2 := fun x y H Q => (y = .non ∧ Q (.bl (neg ^^ decide (x = .non))) H) ∨ ∃ a b : Bool, x = .bl a ∧ y = .bl b ∧ Q (.bl (neg ^^ decide (a = b))) H
theorem op_isU {X : Cx} : OpR X (compareOp .Is) (rIsU false) := by
  intro pins s σ H x y v u Q I rx ry h
  rcases h with ⟨e, q⟩ | ⟨a, b, e1, e2, q⟩
  · rw [Bool.false_xor] at q
    exact op_isN pins s σ H x y v u Q I rx ry ⟨e, q⟩
  · rw [Bool.false_xor] at q
    exact op_isBl pins s σ H x y v u Q I rx ry ⟨a, b, e1, e2, q⟩
theorem op_isNotU {X : Cx} : OpR X (compareOp .IsNot) (rIsU true) := by
  intro pins s σ H x y v u Q I rx ry h
  rcases h with ⟨e, q⟩ | ⟨a, b, e1, e2, q⟩
  · rw [Bool.true_xor] at q
    exact op_notN pins s σ H x y v u Q I rx ry ⟨e, q⟩
  · rw [Bool.true_xor] at q
    exact op_notBl pins s σ H x y v u Q I rx ry ⟨a, b, e1, e2, q⟩
theorem of_is {neg : Bool} : OpF K (rIsU neg) (isD neg) := by
  intro G H v w x y z Q g rx ry e h
  cases ry with
  | non =>
    cases e
    refine .inl ⟨rfl, ?_⟩
    have : decide (v = V.non) = isNone x := by cases rx <;> rfl
    rw [this]
    exact h _ _ (.same (.bl _))
  | bl b =>
    cases rx with
    | bl a => cases e; exact .inr ⟨a, b, rfl, rfl, h _ _ (.same (.bl _))⟩
    | _ => cases e
  | _ => cases e
/-! ### subscripts -/
def ixD : D → D → Option Vl
  | .list ds, .int i => (atI ds i).map .d
  | .tuple ds, .int i => (atI ds i).map .d
  | .str z, .int i => (atI z.cps.toList i).map fun c => .d (.str (tx [c]))
  | _, _ => none
def rIxU (K : PySem.W.Frag) : R2 := fun x y H Q => rIxL K x y H Q ∨ (rIxT K x y H Q ∨ rIxS x y H Q)
theorem ix_U {X : Cx} {K : PySem.W.Frag} (hK : X.K = K := by rfl) : IxR X (rIxU K) := by
  subst hK
  exact ix_list.or (ix_tup.or ix_str)
theorem atI_all {G : Hp} {vs : List V} {ds : List D} {i : Int} {x : D} (h : RpAll K G vs ds) (e : atI ds i = some x) : ∃ v, atI vs i = some v ∧ Rp K G v x := by
  unfold atI at e ⊢
  rw [h.len]
  cases q : ixN ds.length i with
  | none => rw [q] at e; cases e
  | some j =>
    rw [q] at e
    exact h.at e
theorem of_ix : OpF K (rIxU K) ixD := by
  intro G H v w x y z Q g rx ry e h
  cases ry with
  | int i =>
    cases rx with
    | @lst p xs ds h1 a1 =>
      have e : (atI ds i).map Vl.d = some z := e
      cases q : atI ds i with
      | none => rw [q] at e; cases e
      | some d =>
        rw [q] at e
        cases e
        obtain ⟨v, e1, r1⟩ := atI_all a1 q
        exact .inl ⟨p, xs, i, v, rfl, rfl, .inl (.inl h1), e1, h _ _ (.same r1)⟩
    | @tup p xs ds h1 a1 =>
      have e : (atI ds i).map Vl.d = some z := e
      cases q : atI ds i with
      | none => rw [q] at e; cases e
      | some d =>
        rw [q] at e
        cases e
        obtain ⟨v, e1, r1⟩ := atI_all a1 q
        exact .inr (.inl ⟨p, xs, i, v, rfl, rfl, same_t g h1, e1, h _ _ (.same r1)⟩)
    | @str a ha =>
      have e : ((atI a.cps.toList i).map fun c => Vl.d (.str (tx [c]))) = some z := e
      cases q : atI a.cps.toList i with
      | none => rw [q] at e; cases e
      | some c =>
        rw [q] at e
        cases e
        exact .inr (.inr ⟨a, i, c, rfl, rfl, ha, q, h _ _ (.same (.str (by rw [sizeLine_eq]; exact (by decide : 1 ≤ 16777216))))⟩)
    | _ => cases e
  | _ => cases rx <;> cases e
/-! ### slices -/
def cutL {α : Type} (xs : List α) (lo hi : Option Int) : List α := (xs.drop (HT.sIx xs.length 0 lo)).take (HT.sIx xs.length xs.length hi - HT.sIx xs.length 0 lo)
def slD (x : D) (lo hi : Option Int) : Option Vl := match x with
  | .list ds => some (.o true (.L (cutL ds lo hi)))
  | .tuple ds => some (.d (.tuple (cutL ds lo hi)))
  | .str z => some (.d (.str (cutS z lo hi)))
  | _ => none
def rSlU (K : PySem.W.Frag) : V → Option Int → Option Int → Hp → VK → Prop := fun x lo hi H Q => rSlL K x lo hi H Q ∨ (rSlA K x lo hi H Q ∨ rSlS x lo hi H Q)
theorem sl_U {X : Cx} {K : PySem.W.Frag} (hK : X.K = K := by rfl) : SlR X (rSlU K) := by
  subst hK
  exact sl_list.or (sl_tupA.or sl_str)
theorem RpAll.cut {G : Hp} {vs : List V} {ds : List D} (h : RpAll K G vs ds) (lo hi : Option Int) : RpAll K G (cutV vs lo hi) (cutL ds lo hi) := by
  unfold cutV cutL
  rw [h.len]
  exact (h.drop _).take _
theorem of_sl {G H : Hp} {v : V} {x : D} {z : Vl} {lo hi : Option Int} {Q : VK} (g : Same G H) (rx : RdR K G H v x) (e : slD x lo hi = some z) (h : ∀ u H', Ext K G H u H' z → Q u H') : rSlU K v lo hi H Q := by
  cases rx with
  | @lst p xs ds h1 a1 =>
    cases e
    exact .inl ⟨p, xs, rfl, .inl (.inl h1), fun q hq => h _ _ (.lst hq (a1.cut lo hi))⟩
  | @tup p xs ds h1 a1 =>
    cases e
    refine .inr (.inl ⟨p, xs, rfl, same_t g h1, fun e => ?_, fun _ q hq => h _ _ (.tup hq (a1.cut lo hi))⟩)
    have : cutL ds lo hi = ds := by
      have l := a1.len
      unfold cutL
      rw [← l, e.1, e.2, List.drop_zero, Nat.sub_zero, List.take_of_length_le (by omega)]
    rw [this] at h
    exact h _ _ (.same (.tup h1 a1))
  | @str a ha =>
    cases e
    exact .inr (.inr ⟨a, rfl, ha, h _ _ (.same (.str (Nat.le_trans (cutS_length _ _ _) ha)))⟩)
  | _ => cases e
end
def noP : S → ER (Option Int) := fun s => .ok none s
def someP (f : S → ER Vl) : S → ER (Option Int) := fun s => (f s).bind fun a s1 => match rd s1 a with
  | some (.int i) => .ok (some i) s1
  | _ => .no
def sl1 (s : S) (a : Vl) (lo hi : Option Int) : ER Vl := match rd s a with
  | some x => (match slD x lo hi with | some z => .ok z s | none => .no)
  | none => .no
def slE (fa : S → ER Vl) (fl fh : S → ER (Option Int)) : S → ER Vl := fun s => (fa s).bind fun a s1 => (fl s1).bind fun l s2 => (fh s2).bind fun h s3 => sl1 s3 a l h
def rO : Rl3 (Option Int) (Option Int) := fun _ _ _ _ _ _ _ b a => b = a
theorem backs_O : Backs rO := fun _ _ _ _ _ _ _ _ _ _ _ _ _ _ _ h => h
def tOf (K : PySem.W.Frag) (xi : XI) (W : WX) (f : S → ER (Option Int)) : TO := fun σ H Q => ∃ G s, Rep K xi G H σ s ∧ Po K xi W rO G H σ s (f s) Q
/-- turned about -/
def revD : D → Option Vl
  | .str z => some (.d (.str (revS z)))
  | .tuple ds => some (.d (.tuple ds.reverse))
  | .list ds => some (.o true (.L ds.reverse))
  | _ => none
/-- what a display takes: an object of one name goes over into it -/
def shr (s : S) : Vl → ER Vl
  | .d x => .ok (.d x) s
  | .o true (.L ds) => .ok (.d (.list ds)) s
  | .r i => match s[i]? with
    | some (some (.d x)) => .ok (.d x) s
    | some (some (.o true (.L ds))) => .ok (.d (.list ds)) (s.set i (some (.d (.list ds))))
    | _ => .no
  | _ => .no
def shE (fa : S → ER Vl) : S → ER Vl := fun s => (fa s).bind fun a s1 => shr s1 a
def dAll : List Vl → Option (List D)
  | [] => some []
  | .d x :: r => (dAll r).map (x :: ·)
  | _ :: _ => none
def tupE (fr : S → ER (List Vl)) : S → ER Vl := fun s => (fr s).bind fun vs s1 => match dAll vs with
  | some ds => if ds.length ≤ 16777216 then .ok (.d (.tuple ds)) s1 else .no
  | none => .no
def lstE (fr : S → ER (List Vl)) : S → ER Vl := fun s => (fr s).bind fun vs s1 => match dAll vs with
  | some ds => if ds.length ≤ 16777216 then .ok (.o true (.L ds)) s1 else .no
  | none => .no
/-- *e, .. -/
def rdAll (s : S) : List Vl → Option (List D)
  | [] => some []
  | v :: r => match rd s v with
    | some x => (rdAll s r).map (x :: ·)
    | none => none
/-- a built-in function of data -/
def ca1 (f : List D → Option Vl) (s : S) (vs : List Vl) : ER Vl := match rdAll s vs with
  | some ds => (match f ds with | some z => .ok z s | none => .no)
  | none => .no
def caE (f : List D → Option Vl) (fr : S → ER (List Vl)) : S → ER Vl := fun s => (fr s).bind fun vs s1 => ca1 f s1 vs
/-- a method: the receiver's kind, the function -/
def mt1 (ty : D → Bool) (f : List D → Option Vl) (s : S) (a : Vl) (vs : List Vl) : ER Vl := ca1 f s (a :: vs)
def okTy (ty : D → Bool) (s : S) (a : Vl) : Bool := match rd s a with
  | some x => ty x
  | none => false
def mtE (ty : D → Bool) (f : List D → Option Vl) (fo : S → ER Vl) (fr : S → ER (List Vl)) : S → ER Vl := fun s => (fo s).bind fun a s1 => if okTy ty s1 a = true then (fr s1).bind fun vs s2 => ca1 f s2 (a :: vs) else .no
def isStr : D → Bool
  | .str _ => true
  | _ => false
def isLst : D → Bool
  | .list _ => true
  | _ => false
section
variable {X : Cx} {K : PySem.W.Frag} {xi : XI} {W : WX} {G H G' H' G1 H1 : Hp} {σ σ' σ1 : Ss} {s s' s1 : S} {e a b c : Expr} {es : List Expr} {lo hi : Option Expr} {fa fb fc : S → ER Vl} {fl fh : S → ER (Option Int)} {fr : S → ER (List Vl)} {p p2 pos : Pos}
theorem re_ix (hK : X.K = K := by rfl) (ha : PE X a (tE K xi W fa)) (hb : PE X b (tE K xi W fb)) (hs : PlainIx b := by exact fun _ _ => rfl) : PE X (.Subscript a b pos) (tE K xi W (opE ixD fa fb)) :=
  PE.mono (pe_ix (ix_U hK) ha hb hs) fun _ _ _ h => op_lift of_ix h
theorem ro_none : PO X none (tOf K xi W noP) := ⟨fun pins s σ H Q I ⟨G, st, R, h⟩ => po_none.run pins s σ H Q I (h none G H .refl R rfl)⟩
theorem ro_some (h : PE X e (tE K xi W fa)) : PO X (some e) (tOf K xi W (someP fa)) := ⟨fun pins s σ H Q I ⟨G, st, R, w⟩ => (po_some h).run pins s σ H Q I ⟨G, st, R, Po.bind w backs_O fun va s1 _ x G1 H1 t1 R1 ra h1 => by
  split at h1
  · rename_i i e
    have r := rd_ok R1 ra e
    cases r
    exact ⟨i, rfl, h1 _ G1 H1 .refl R1 rfl⟩
  · exact h1.elim⟩⟩
theorem re_slice (hK : X.K = K := by rfl) (ha : PE X e (tE K xi W fa)) (hl : PO X lo (tOf K xi W fl)) (hh : PO X hi (tOf K xi W fh)) : PE X (.Subscript e (.Slice lo hi none p2) pos) (tE K xi W (slE fa fl fh)) := by
  refine PE.mono (pe_slice (sl_U hK) ha hl hh) fun σ H Q h => ?_
  obtain ⟨G, s, R, h⟩ := h
  refine ⟨G, s, R, Po.bind h backs_V fun va s1 _ x G1 H1 t1 R1 ra h1 => ⟨G1, s1, R1, Po.bind h1 backs_V fun l s2 _ l' G2 H2 t2 R2 rl h2 => ⟨G2, s2, R2, Po.bind h2 backs_V fun u s3 _ u' G3 H3 t3 R3 ru h3 => ?_⟩⟩⟩
  have e1 : l' = l := rl
  have e2 : u' = u := ru
  subst e1 e2
  have ra3 := (ra.step R1 t2).step R2 t3
  unfold sl1 at h3
  split at h3
  · rename_i d ed
    split at h3
    · rename_i z ez
      exact of_sl R3.gh (rd_ok R3 ra3 ed) ez fun u H' ext => ext.fin R3 h3
    · exact h3.elim
  · exact h3.elim
theorem PE.or {t t' : TE} (h : PE X e t) (h' : PE X e t') : PE X e (fun σ H Q => t σ H Q ∨ t' σ H Q) := ⟨fun pins s σ H Q I w => w.elim (h.run pins s σ H Q I) (h'.run pins s σ H Q I)⟩
theorem re_rev (hK : X.K = K := by rfl) {k : Nat} {p1 p2 p3 : Pos} (ha : PE X e (tE K xi W fa)) : PE X (.Subscript e (.Slice none none (some (.UnaryOp .USub (.Constant (.int 1) k p1) p2)) p3) pos) (tE K xi W (unE (fun x => match x with | .list _ => none | x => revD x) fa)) := by
  subst hK
  refine PE.mono (PE.or (pe_rev_str ha) (pe_rev_tup ha)) fun σ H Q h => ?_
  obtain ⟨G, s, R, h⟩ := h
  cases q : fa s with
  | no => rw [show unE _ fa s = ER.no from by unfold unE; rw [q]; rfl] at h; exact h.elim
  | er e s1 =>
    rw [show unE _ fa s = ER.er e s1 from by unfold unE; rw [q]; rfl] at h
    exact .inl ⟨G, s, R, by rw [q]; exact h⟩
  | ok va s1 =>
    have h0 : Po X.K xi W (VR X.K xi) G H σ s (un1 (fun x => match x with | .list _ => none | x => revD x) s1 va) Q := by
      have e : unE (fun x => match x with | .list _ => none | x => revD x) fa s = un1 (fun x => match x with | .list _ => none | x => revD x) s1 va := by unfold unE; rw [q]; rfl
      rw [← e]; exact h
    unfold un1 at h0
    cases ed : rd s1 va with
    | none => rw [ed] at h0; exact h0.elim
    | some d =>
      rw [ed] at h0
      cases d with
      | str z =>
        refine .inl ⟨G, s, R, ?_⟩
        rw [q]
        intro x G1 H1 t1 R1 ra
        have r := rd_ok R1 ra ed
        cases r with
        | str hz => exact ⟨z, rfl, hz, h0 _ G1 H1 t1 R1 (.str (by unfold revS; rw [tx_len, List.length_reverse, Array.length_toList]; exact hz))⟩
      | tuple ds =>
        refine .inr ⟨G, s, R, ?_⟩
        rw [q]
        intro x G1 H1 t1 R1 ra
        have r := rd_ok R1 ra ed
        cases r with
        | @tup a xs _ h1 a1 =>
          refine ⟨a, xs, rfl, same_t R1.gh h1, fun p hp => ?_⟩
          have h2 := Po.shift t1 backs_V h0
          exact Ext.fin (.tup hp a1.rev) R1 h2
      | none => exact h0.elim
      | bool _ => exact h0.elim
      | int _ => exact h0.elim
      | list _ => exact h0.elim
      | dict _ => exact h0.elim
/-! ### an object of one name, shared -/
theorem rep_share {pp : Addr} {vs : List V} {ds : List D} {s2 : S} (R : Rep K xi G H σ s) (hp : H pp = some (.lst vs)) (gp : G pp = none) (ha : RpAll K G vs ds) (hl : s2.length = s.length)
    (hs : ∀ (j : Nat) (vl : Vl), s2[j]? = some (some vl) → (s[j]? = some (some vl) ∧ ∀ f b, vl = .o f b → σ[j]? ≠ some (some (.ref pp))) ∨ (vl = .d (.list ds) ∧ σ[j]? = some (some (.ref pp)))) : Rep K xi (upd G pp (.lst vs)) H σ s2 := by
  have gg : Same G (upd G pp (.lst vs)) := Same.new gp
  refine ⟨hl.trans R.len, fun b o q => ?_, fun j vl q => ?_, fun i j f g b c p h1 h2 h3 h4 => ?_⟩
  · by_cases e : b = pp
    · subst e
      rw [upd_same] at q
      rw [hp]
      exact q
    · rw [upd_ne e] at q
      exact R.gh b o q
  · rcases hs j vl q with ⟨h1, h2⟩ | ⟨rfl, h2⟩
    · obtain ⟨v, e, w⟩ := R.sl j vl h1
      refine ⟨v, e, ?_⟩
      cases vl with
      | d x => exact Rp.same gg w
      | o f b =>
        obtain ⟨p, rfl, w1, w2⟩ := w
        refine ⟨p, rfl, ?_, w2.mono gg rfl⟩
        rw [upd_ne (fun e2 => h2 f b rfl (by rw [e, e2]))]
        exact w1
      | r i => exact w
      | x e => exact w
      | s ns =>
        obtain ⟨a, e1, w⟩ := w
        exact ⟨a, e1, same_l gg w⟩
    · exact ⟨_, h2, .lst upd_same (RpAll.same gg ha)⟩
  · rcases hs i _ h1 with ⟨h1, _⟩ | ⟨e, _⟩
    · rcases hs j _ h2 with ⟨h2, _⟩ | ⟨e, _⟩
      · exact R.ap i j f g b c p h1 h2 h3 h4
      · cases e
    · cases e
theorem stp_share {pp : Addr} {o : HO} {s2 : S} (t : Stp G H σ s G1 H1 σ s1) (gp : G1 pp = none) (hf : H pp = none ∨ Own σ s true pp) (ho : ∀ f p, Own σ s2 f p → Own σ s1 f p) (hi : ∀ (i : Nat) (b : Ob), s1[i]? = some (some (.o false b)) → s2[i]? = some (some (.o false b))) : Stp G H σ s (upd G1 pp o) H1 σ s2 where
  gg := t.gg.trans (Same.new gp)
  fr := t.fr
  lv := t.lv
  gn := fun b h1 h2 h3 => by
    by_cases e : b = pp
    · subst e
      exact hf.elim (fun z => absurd z h2) id
    · rw [upd_ne e] at h3
      exact t.gn b h1 h2 h3
  ow := fun f p w => t.ow f p (ho f p w)
  io := fun i b h => by
    obtain ⟨e, b', h'⟩ := t.io i b h
    exact ⟨e, b', hi i b' h'⟩
theorem re_sh (ha : PE X e (tE K xi W fa)) : PE X e (tE K xi W (shE fa)) := by
  refine PE.mono ha fun σ H Q h => ?_
  obtain ⟨G, s, R, h⟩ := h
  refine ⟨G, s, R, ?_⟩
  unfold shE at h
  cases q : fa s with
  | no => rw [q] at h; exact h
  | er e s1 => rw [q] at h; exact h
  | ok va s1 =>
    rw [q] at h
    have h : Po K xi W (VR K xi) G H σ s (shr s1 va) Q := h
    intro v G1 H1 t1 R1 ra
    cases va with
    | d x => exact h v G1 H1 t1 R1 ra
    | o f b =>
      obtain ⟨rfl, p, rfl, w1, w2, w3, w4⟩ := ra
      cases b with
      | L ds =>
        obtain ⟨vs, w5, w6⟩ := w3
        refine h (.ref p) (upd G1 p (.lst vs)) H1 (stp_share t1 w1 w2 (fun _ _ z => z) fun _ _ z => z) (rep_share R1 w5 w1 w6 rfl fun j vl q => .inl ⟨q, fun f b e1 e2 => ?_⟩) (.lst upd_same (RpAll.same (Same.new w1) w6))
        subst e1
        exact w4 f ⟨j, b, q, e2⟩
      | K kvs => exact h.elim
      | T kvs => exact h.elim
    | r i =>
      have ra : σ[i]? = some (some v) := ra
      unfold shr at h
      simp only at h
      split at h
      · rename_i x e1
        obtain ⟨v', e2, w⟩ := R1.sl i _ e1
        rw [ra] at e2
        cases e2
        exact h v G1 H1 t1 R1 w
      · rename_i ds e1
        obtain ⟨v', e2, w⟩ := R1.sl i _ e1
        rw [ra] at e2
        cases e2
        obtain ⟨p, rfl, w1, vs, w5, w6⟩ := w
        have own : Own σ s1 true p := ⟨i, _, e1, ra⟩
        have hlt : i < s1.length := by
          rcases Nat.lt_or_ge i s1.length with z | z
          · exact z
          · rw [List.getElem?_eq_none z] at e1; cases e1
        have keep : ∀ j, j ≠ i → (s1.set i (some (.d (.list ds))))[j]? = s1[j]? := fun j n => List.getElem?_set_ne (Ne.symm n)
        have at_ : (s1.set i (some (.d (.list ds))))[i]? = some (some (.d (.list ds))) := List.getElem?_set_self hlt
        refine h (.ref p) (upd G1 p (.lst vs)) H1 (stp_share t1 w1 ?_ (fun f q ⟨j, b, z1, z2⟩ => ?_) fun j b z => ?_) (rep_share R1 w5 w1 w6 (List.length_set) fun j vl q => ?_) (.lst upd_same (RpAll.same (Same.new w1) w6))
        · rcases t1.ow true p own with ⟨z, _⟩ | z
          · exact .inl z
          · exact .inr z
        · by_cases n : j = i
          · subst n
            rw [at_] at z1
            cases z1
          · rw [keep j n] at z1
            exact ⟨j, b, z1, z2⟩
        · have n : j ≠ i := fun e => by rw [e, e1] at z; cases z
          rw [keep j n]
          exact z
        · by_cases n : j = i
          · subst n
            rw [at_] at q
            cases q
            exact .inr ⟨rfl, ra⟩
          · rw [keep j n] at q
            refine .inl ⟨q, fun f b e3 e4 => n ?_⟩
            subst e3
            exact R1.ap j i f true b _ p q e1 e4 ra
      · exact h.elim
    | x e => exact h.elim
    | s ns => exact h.elim
/-! ### displays -/
theorem dAll_ok {H0 : Hp} {σ0 : Ss} {s0 : S} : ∀ {vs : List V} {vls : List Vl} {ds : List D}, VRs K xi H0 σ0 s0 G H σ s vs vls → dAll vls = some ds → RpAll K G vs ds
  | _, _, _, .nil, e => by cases e; exact .nil
  | _, _, _, .cons (vl := vl) (vls := vls) a r, e => by
    cases vl with
    | d x =>
      unfold dAll at e
      cases q : dAll vls with
      | none => rw [q] at e; cases e
      | some es =>
        rw [q] at e
        cases e
        exact .cons a (dAll_ok r q)
    | _ => cases e
theorem re_tup {x1} (h : PA X es (tA K xi W fr)) : PE X (.Tuple es x1 pos) (tE K xi W (tupE fr)) := by
  refine PE.mono (pe_tup h) fun σ H Q h => ?_
  obtain ⟨G, s, R, h⟩ := h
  refine ⟨G, s, R, Po.bind h backs_V fun va s1 _ xs G1 H1 t1 R1 ra h1 => ?_⟩
  split at h1
  · rename_i ds e
    have r := dAll_ok ra.all e
    split at h1
    · rename_i c
      refine ⟨by rw [r.len, sizeLine_eq]; exact c, fun p hp => Ext.fin (.tup hp r) R1 h1⟩
    · exact h1.elim
  · exact h1.elim
theorem re_lst (h : PA X es (tA K xi W fr)) : PE X (.List es pos) (tE K xi W (lstE fr)) := by
  refine PE.mono (pe_lst h) fun σ H Q h => ?_
  obtain ⟨G, s, R, h⟩ := h
  refine ⟨G, s, R, Po.bind h backs_V fun va s1 _ xs G1 H1 t1 R1 ra h1 => ?_⟩
  split at h1
  · rename_i ds e
    have r := dAll_ok ra.all e
    split at h1
    · rename_i c
      refine ⟨by rw [r.len, sizeLine_eq]; exact c, fun p hp => Ext.fin (.lst hp r) R1 h1⟩
    · exact h1.elim
  · exact h1.elim
/-! ### built-in calls, methods -/
inductive RdAll (K : PySem.W.Frag) (G H : Hp) : List V → List D → Prop
  | nil : RdAll K G H [] []
  | cons {v : V} {vs : List V} {d : D} {ds : List D} : RdR K G H v d → RdAll K G H vs ds → RdAll K G H (v :: vs) (d :: ds)
theorem rdAll_ok (R : Rep K xi G H σ s) {H0 : Hp} {σ0 : Ss} {s0 : S} : ∀ {vs : List V} {vls : List Vl} {ds : List D}, VRs K xi H0 σ0 s0 G H σ s vs vls → rdAll s vls = some ds → RdAll K G H vs ds
  | _, _, _, .nil, e => by cases e; exact .nil
  | _, _, ds, .cons (vl := vl) (vls := vls) a r, e => by
    unfold rdAll at e
    cases q1 : rd s vl with
    | none => rw [q1] at e; cases e
    | some x =>
      rw [q1] at e
      have e : (rdAll s vls).map (x :: ·) = some ds := e
      cases q : rdAll s vls with
      | none => rw [q] at e; cases e
      | some es =>
        rw [q] at e
        cases e
        exact .cons (rd_ok R a q1) (rdAll_ok R r q)
def CaF (K : PySem.W.Frag) (r : List V → Hp → VK → Prop) (f : List D → Option Vl) : Prop :=
  ∀ (G H : Hp) (vs : List V) (ds : List D) (z : Vl) (Q : VK), Same G H → RdAll K G H vs ds → f ds = some z → (∀ u H', Ext K G H u H' z → Q u H') → r vs H Q
theorem ca1_of {r : List V → Hp → VK → Prop} {f : List D → Option Vl} {Q : VK} {vls : List Vl} {vs : List V} {H0 : Hp} {σ0 : Ss} {s0 : S} (hf : CaF K r f) (R : Rep K xi G H σ s) (ra : VRs K xi H0 σ0 s0 G H σ s vs vls) (h : Po K xi W (VR K xi) G H σ s (ca1 f s vls) Q) : r vs H Q := by
  unfold ca1 at h
  split at h
  · rename_i ds e
    split at h
    · rename_i z ez
      exact hf G H vs ds z Q R.gh (rdAll_ok R ra e) ez fun u H' ext => ext.fin R h
    · exact h.elim
  · exact h.elim
theorem ca_lift {r : List V → Hp → VK → Prop} {f : List D → Option Vl} (hf : CaF K r f) {Q : VK} (h : tE K xi W (caE f fr) σ H Q) : tCB r (tA K xi W fr) σ H Q := by
  obtain ⟨G, s, R, h⟩ := h
  exact ⟨G, s, R, Po.bind h backs_V fun va s1 _ xs G1 H1 t1 R1 ra h1 => ca1_of hf R1 ra.all h1⟩
theorem mt_lift {T : String} {ty : D → Bool} {r : V → List V → Hp → VK → Prop} {f : List D → Option Vl} (hf : CaF K (fun vs H Q => ∃ x xs, vs = x :: xs ∧ r x xs H Q) f) (hty : ∀ (G H : Hp) (v : V) (x : D), Same G H → RdR K G H v x → ty x = true → tyV K T v H) {Q : VK}
    (h : tE K xi W (mtE ty f fa fr) σ H Q) : tBM K T r (tE K xi W fa) (tA K xi W fr) σ H Q := by
  obtain ⟨G, s, R, h⟩ := h
  refine ⟨G, s, R, Po.bind h backs_V fun va s1 _ x G1 H1 t1 R1 ra h1 => ?_⟩
  split at h1
  · rename_i c
    refine ⟨?_, G1, s1, R1, Po.bind h1 backs_V fun vs s2 _ xs G2 H2 t2 R2 rb h2 => ?_⟩
    · unfold okTy at c
      split at c
      · rename_i d ed
        exact hty G1 H1 x d R1.gh (rd_ok R1 ra ed) c
      · cases c
    · obtain ⟨y, ys, e, q⟩ := ca1_of hf R2 (.cons (ra.step R1 t2) (rb.all.back t1)) (by exact h2)
      cases e
      exact q
  · exact h1.elim
end
end M

set_option Elab.async false
set_option linter.all false
set_option maxRecDepth 100000
set_option maxHeartbeats 4000000
/-! The built-in functions and methods of data. -/
namespace M
open PySem PySem.Spec PyProof.Rows L2 Sv

def fit (b : Bool) (z : Vl) : Option Vl := if b = true then some z else none
theorem fit_some {b : Bool} {z u : Vl} (h : fit b z = some u) : b = true ∧ u = z := by
  unfold fit at h
  cases b with
  | true => cases h; exact ⟨rfl, rfl⟩
  | false => cases h
def lenD : List D → Option Vl
  | [.str z] => some (.d (.int z.length))
  | [.list ds] => some (.d (.int ds.length))
  | [.tuple ds] => some (.d (.int ds.length))
  | _ => none
def intF : List D → Option Vl
  | [.int i] => some (.d (.int i))
  | [.bool b] => some (.d (.int (if b = true then 1 else 0)))
  | _ => none
def tupF : List D → Option Vl
  | [.list ds] => some (.d (.tuple ds))
  | [.tuple ds] => some (.d (.tuple ds))
  | _ => none
def lstF : List D → Option Vl
  | [.list ds] => some (.o true (.L ds))
  | [.tuple ds] => some (.o true (.L ds))
  | [.str z] => some (.o true (.L ((Sv.signs z).map .str)))
  | _ => none
def boolsOf : List D → Option (List Bool)
  | [] => some []
  | .bool b :: r => (boolsOf r).map (b :: ·)
  | _ :: _ => none
def intsOf : List D → Option (List Int)
  | [] => some []
  | .int b :: r => (intsOf r).map (b :: ·)
  | _ :: _ => none
def strsOf : List D → Option (List Str)
  | [] => some []
  | .str b :: r => (strsOf r).map (b :: ·)
  | _ :: _ => none
def allF : List D → Option Vl
  | [.list ds] => (boolsOf ds).map fun bs => .d (.bool (bs.all id))
  | _ => none
def anyF : List D → Option Vl
  | [.list ds] => (boolsOf ds).map fun bs => .d (.bool (bs.any id))
  | _ => none
def sumF : List D → Option Vl
  | [.list ds] => (intsOf ds).map fun ns => .d (.int ns.sum)
  | _ => none
def minF : List D → Option Vl
  | [.int i, .int j] => some (.d (.int (if j < i then j else i)))
  | _ => none
def maxF : List D → Option Vl
  | [.int i, .int j] => some (.d (.int (if j > i then j else i)))
  | _ => none
open Classical in
noncomputable def reprF : List D → Option Vl
  | [d] => if ShowOk d then some (.d (.str d.shown)) else none
  | _ => none
/-! methods: the receiver first -/
def stripF : List D → Option Vl
  | [.str a, .str b] => some (.d (.str (Txt.stripChars a b)))
  | _ => none
def joinF : List D → Option Vl
  | [.str a, .list ds] => (strsOf ds).bind fun ys => fit (decide ((ys.map (·.length)).sum + ys.length * a.length ≤ 16777216)) (.d (.str (Txt.join a ys)))
  | _ => none
def sindexF : List D → Option Vl
  | [.str a, .str b] => match Builtin.Str.occurrences a b 0 a.length 1 with
    | i :: _ => some (.d (.int (i : Nat)))
    | [] => none
  | _ => none
/-- where the data stands first -/
def idxD (d : D) : List D → Option Nat
  | [] => none
  | z :: r => if PyData.eqv z d = true then some 0 else (idxD d r).map (· + 1)
def flatD : D → Bool
  | .none | .bool _ | .int _ | .str _ => true
  | _ => false
def lindexF : List D → Option Vl
  | [.list ds, d] => if flatD d = true ∧ ds.all flatD = true then (idxD d ds).map fun j => .d (.int (j : Nat)) else none
  | _ => none
def splitF : List D → Option Vl
  | [.str a, .str b] => fit (!(b.length == 0) && decide (a.length + 2 ≤ 16777216) && (Txt.split a b).all fun y => decide (y.length ≤ 16777216)) (.o true (.L ((Txt.split a b).map .str)))
  | _ => none
def swF : List D → Option Vl
  | [.str a, .str b] => some (.d (.bool (Txt.startswith a b)))
  | [.str a, .str b, .int i] => some (.d (.bool (Txt.startswith3 a b i)))
  | _ => none
def findF : List D → Option Vl
  | [.str a, .str b] => some (.d (.int (Txt.find a b)))
  | [.str a, .str b, .int i] => some (.d (.int (Txt.find3 a b i)))
  | _ => none
section
variable {K : PySem.W.Frag} {G H : Hp}
theorem RdAll.one {vs : List V} {d : D} (h : RdAll K G H vs [d]) : ∃ v, vs = [v] ∧ RdR K G H v d := by
  cases h with
  | cons a r => cases r; exact ⟨_, rfl, a⟩
theorem RdAll.two {vs : List V} {d e : D} (h : RdAll K G H vs [d, e]) : ∃ v w, vs = [v, w] ∧ RdR K G H v d ∧ RdR K G H w e := by
  cases h with
  | cons a r => obtain ⟨w, rfl, b⟩ := r.one; exact ⟨_, _, rfl, a, b⟩
theorem RdAll.three {vs : List V} {d e f : D} (h : RdAll K G H vs [d, e, f]) : ∃ v w u, vs = [v, w, u] ∧ RdR K G H v d ∧ RdR K G H w e ∧ RdR K G H u f := by
  cases h with
  | cons a r => obtain ⟨w, u, rfl, b, c⟩ := r.two; exact ⟨_, _, _, rfl, a, b, c⟩
theorem boolsOf_ok : ∀ {vs : List V} {ds : List D} {bs : List Bool}, RpAll K G vs ds → boolsOf ds = some bs → vs = bs.map V.bl
  | _, _, _, .nil, e => by cases e; rfl
  | _, _, bs, .cons (d := d) (ds := ds) a r, e => by
    cases a with
    | bl b =>
      have e : (boolsOf ds).map (b :: ·) = some bs := e
      cases q : boolsOf ds with
      | none => rw [q] at e; cases e
      | some cs => rw [q] at e; cases e; rw [boolsOf_ok r q]; rfl
    | _ => cases e
theorem intsOf_ok : ∀ {vs : List V} {ds : List D} {bs : List Int}, RpAll K G vs ds → intsOf ds = some bs → vs = bs.map V.int
  | _, _, _, .nil, e => by cases e; rfl
  | _, _, bs, .cons (d := d) (ds := ds) a r, e => by
    cases a with
    | int b =>
      have e : (intsOf ds).map (b :: ·) = some bs := e
      cases q : intsOf ds with
      | none => rw [q] at e; cases e
      | some cs => rw [q] at e; cases e; rw [intsOf_ok r q]; rfl
    | _ => cases e
theorem strsOf_ok : ∀ {vs : List V} {ds : List D} {bs : List Str}, RpAll K G vs ds → strsOf ds = some bs → vs = bs.map V.str
  | _, _, _, .nil, e => by cases e; rfl
  | _, _, bs, .cons (d := d) (ds := ds) a r, e => by
    cases a with
    | @str b hb =>
      have e : (strsOf ds).map (b :: ·) = some bs := e
      cases q : strsOf ds with
      | none => rw [q] at e; cases e
      | some cs => rw [q] at e; cases e; rw [strsOf_ok r q]; rfl
    | _ => cases e
theorem rp_strs {G : Hp} : ∀ {ys : List Str}, (∀ y ∈ ys, y.length ≤ sizeLine) → RpAll K G (ys.map V.str) (ys.map PyData.str)
  | [], _ => .nil
  | y :: ys, h => .cons (.str (h y List.mem_cons_self)) (rp_strs fun z m => h z (List.mem_cons_of_mem _ m))
def rLenU (K : PySem.W.Frag) : List V → Hp → VK → Prop := fun xs H Q => ∃ x n, xs = [x] ∧ LenV K x H n ∧ Q (.int n) H
theorem ca_len : CaF K (rLenU K) lenD := by
  intro G H vs ds z Q g rs e h
  match ds, e with
  | [.str a], e =>
    cases e
    obtain ⟨v, rfl, r⟩ := rs.one
    cases r with
    | str ha => exact ⟨_, a.length, rfl, ⟨ha, rfl⟩, h _ _ (.same (.int _))⟩
  | [.list ds], e =>
    cases e
    obtain ⟨v, rfl, r⟩ := rs.one
    cases r with
    | lst h1 a1 => exact ⟨_, ds.length, rfl, .inl ⟨_, .inl (.inl h1), a1.len.symm⟩, h _ _ (.same (.int _))⟩
  | [.tuple ds], e =>
    cases e
    obtain ⟨v, rfl, r⟩ := rs.one
    cases r with
    | tup h1 a1 => exact ⟨_, ds.length, rfl, .inr ⟨_, same_t g h1, a1.len.symm⟩, h _ _ (.same (.int _))⟩
theorem ca_int : CaF K (fun xs H Q => (∃ i, xs = [.int i] ∧ Q (.int i) H) ∨ ∃ k, xs = [.bl k] ∧ Q (.int (if k then 1 else 0)) H) intF := by
  intro G H vs ds z Q g rs e h
  match ds, e with
  | [.int a], e =>
    cases e
    obtain ⟨v, rfl, r⟩ := rs.one
    cases r
    exact .inl ⟨a, rfl, h _ _ (.same (.int _))⟩
  | [.bool b], e =>
    cases e
    obtain ⟨v, rfl, r⟩ := rs.one
    cases r
    exact .inr ⟨b, rfl, h _ _ (.same (.int _))⟩
theorem ca_tup : CaF K (fun xs H Q => ∃ p ys, xs = [.ref p] ∧ ((SqL K H p ys ∧ ∀ l, H l = none → Q (.ref l) (upd H l (.tup ys))) ∨ (SqT K H p ys ∧ Q (.ref p) H))) tupF := by
  intro G H vs ds z Q g rs e h
  match ds, e with
  | [.list ds], e =>
    cases e
    obtain ⟨v, rfl, r⟩ := rs.one
    cases r with
    | lst h1 a1 => exact ⟨_, _, rfl, .inl ⟨.inl (.inl h1), fun l hl => h _ _ (.tup hl a1)⟩⟩
  | [.tuple ds], e =>
    cases e
    obtain ⟨v, rfl, r⟩ := rs.one
    cases r with
    | tup h1 a1 => exact ⟨_, _, rfl, .inr ⟨same_t g h1, h _ _ (.same (.tup h1 a1))⟩⟩
def rLstU (K : PySem.W.Frag) : List V → Hp → VK → Prop := fun xs H Q => (∃ p ys, xs = [.ref p] ∧ (SqL K H p ys ∨ SqT K H p ys) ∧ ∀ l, H l = none → Q (.ref l) (upd H l (.lst ys))) ∨ ∃ x : Str, xs = [.str x] ∧ x.length ≤ sizeLine ∧ ∀ p, H p = none → Q (.ref p) (upd H p (.lst ((Sv.signs x).map V.str)))
theorem cr_lstU {X : Cx} (hK : X.K = K := by rfl) (hc : X.calm = true := by rfl) : CallR X (.type "list") (rLstU K) := by
  subst hK
  intro pins s σ H xs us Q I r h
  rcases h with h | h
  · exact call_list_of pins s σ H xs us Q I r h
  · exact call_list_text hc pins s σ H xs us Q I r h
theorem ca_lst : CaF K (rLstU K) lstF := by
  intro G H vs ds z Q g rs e h
  match ds, e with
  | [.list ds], e =>
    cases e
    obtain ⟨v, rfl, r⟩ := rs.one
    cases r with
    | lst h1 a1 => exact .inl ⟨_, _, rfl, .inl (.inl (.inl h1)), fun l hl => h _ _ (.lst hl a1)⟩
  | [.tuple ds], e =>
    cases e
    obtain ⟨v, rfl, r⟩ := rs.one
    cases r with
    | tup h1 a1 => exact .inl ⟨_, _, rfl, .inr (same_t g h1), fun l hl => h _ _ (.lst hl a1)⟩
  | [.str a], e =>
    cases e
    obtain ⟨v, rfl, r⟩ := rs.one
    cases r with
    | str ha =>
      refine .inr ⟨a, rfl, ha, fun p hp => h _ _ (.lst hp ?_)⟩
      have := rp_strs (K := K) (G := G) (ys := Sv.signs a) fun y m => by
        obtain ⟨c, _, rfl⟩ := List.mem_map.mp m
        rw [tx_len, sizeLine_eq]
        exact (by decide : 1 ≤ 16777216)
      exact this
theorem ca_all : CaF K (rAll K) allF := by
  intro G H vs ds z Q g rs e h
  match ds, e with
  | [.list ds], e =>
    have e : ((boolsOf ds).map fun bs => Vl.d (.bool (bs.all id))) = some z := e
    cases q : boolsOf ds with
    | none => rw [q] at e; cases e
    | some bs =>
      rw [q] at e
      cases e
      obtain ⟨v, rfl, r⟩ := rs.one
      cases r with
      | lst h1 a1 =>
        have := boolsOf_ok a1 q
        subst this
        exact ⟨_, bs, rfl, .inl (.inl h1), h _ _ (.same (.bl _))⟩
theorem ca_any : CaF K (rAny K) anyF := by
  intro G H vs ds z Q g rs e h
  match ds, e with
  | [.list ds], e =>
    have e : ((boolsOf ds).map fun bs => Vl.d (.bool (bs.any id))) = some z := e
    cases q : boolsOf ds with
    | none => rw [q] at e; cases e
    | some bs =>
      rw [q] at e
      cases e
      obtain ⟨v, rfl, r⟩ := rs.one
      cases r with
      | lst h1 a1 =>
        have := boolsOf_ok a1 q
        subst this
        exact ⟨_, bs, rfl, .inl (.inl h1), h _ _ (.same (.bl _))⟩
theorem ca_sum : CaF K (rSum K) sumF := by
  intro G H vs ds z Q g rs e h
  match ds, e with
  | [.list ds], e =>
    have e : ((intsOf ds).map fun bs => Vl.d (.int bs.sum)) = some z := e
    cases q : intsOf ds with
    | none => rw [q] at e; cases e
    | some bs =>
      rw [q] at e
      cases e
      obtain ⟨v, rfl, r⟩ := rs.one
      cases r with
      | lst h1 a1 =>
        have := intsOf_ok a1 q
        subst this
        exact ⟨_, bs, rfl, .inl (.inl h1), h _ _ (.same (.int _))⟩
theorem ca_min : CaF K (fun xs H Q => ∃ i j, xs = [.int i, .int j] ∧ Q (.int (if j < i then j else i)) H) minF := by
  intro G H vs ds z Q g rs e h
  match ds, e with
  | [.int i, .int j], e =>
    cases e
    obtain ⟨v, w, rfl, r1, r2⟩ := rs.two
    cases r1
    cases r2
    exact ⟨i, j, rfl, h _ _ (.same (.int _))⟩
theorem ca_max : CaF K (fun xs H Q => ∃ i j, xs = [.int i, .int j] ∧ Q (.int (if j > i then j else i)) H) maxF := by
  intro G H vs ds z Q g rs e h
  match ds, e with
  | [.int i, .int j], e =>
    cases e
    obtain ⟨v, w, rfl, r1, r2⟩ := rs.two
    cases r1
    cases r2
    exact ⟨i, j, rfl, h _ _ (.same (.int _))⟩
open Classical in
theorem ca_repr : CaF K (fun xs H Q => ∃ x d, xs = [x] ∧ Dp K H x d ∧ ShowOk d ∧ Q (.str d.shown) H) reprF := by
  intro G H vs ds z Q g rs e h
  match ds, e with
  | [d], e =>
    have e : (if ShowOk d then some (Vl.d (.str d.shown)) else none) = some z := e
    by_cases c : ShowOk d
    · rw [if_pos c] at e
      cases e
      obtain ⟨v, rfl, r⟩ := rs.one
      exact ⟨v, d, rfl, (r.dp g).dp, c, h _ _ (.same (.str c.sz))⟩
    · rw [if_neg c] at e
      cases e
/-! methods -/
abbrev rM (r : V → List V → Hp → VK → Prop) : List V → Hp → VK → Prop := fun vs H Q => ∃ x xs, vs = x :: xs ∧ r x xs H Q
theorem strip_len (a b : Str) : (Txt.stripChars a b).length ≤ a.length := by
  show (if stripSame b.cps.contains true true a then a else stripped b.cps.contains true true a).length ≤ _
  split
  · exact Nat.le_refl _
  · unfold stripped
    show (a.cps.extract _ _).size ≤ a.cps.size
    rw [Array.size_extract]
    omega
theorem ca_strip : CaF K (rM fun x xs H Q => ∃ a b, x = .str a ∧ xs = [.str b] ∧ a.length ≤ sizeLine ∧ Q (.str (Txt.stripChars a b)) H) stripF := by
  intro G H vs ds z Q g rs e h
  match ds, e with
  | [.str a, .str b], e =>
    cases e
    obtain ⟨v, w, rfl, r1, r2⟩ := rs.two
    cases r1 with
    | str ha =>
      cases r2
      exact ⟨_, _, rfl, a, b, rfl, rfl, ha, h _ _ (.same (.str (Nat.le_trans (strip_len a b) ha)))⟩
theorem join_le (a : Str) (ys : List Str) : (Txt.join a ys).length ≤ (ys.map (·.length)).sum + ys.length * a.length := by
  show (PySem.Builtin.Str.glued a ys).length ≤ _
  rw [StrLaws.glued_eq_join]
  exact StrLaws.join_length_le a ys
def rJoin (K : PySem.W.Frag) : V → List V → Hp → VK → Prop := fun x xs H Q => ∃ a p, ∃ ys : List Str, x = .str a ∧ xs = [.ref p] ∧ (SqL K H p (ys.map V.str) ∨ SqT K H p (ys.map V.str)) ∧ (ys.map (·.length)).sum + ys.length * a.length ≤ 16777216 ∧ Q (.str (Txt.join a ys)) H
theorem ca_join : CaF K (rM (rJoin K)) joinF := by
  intro G H vs ds z Q g rs e h
  match ds, e with
  | [.str a, .list ds], e =>
    have e : ((strsOf ds).bind fun ys => fit (decide ((ys.map (·.length)).sum + ys.length * a.length ≤ 16777216)) (.d (.str (Txt.join a ys)))) = some z := e
    cases q : strsOf ds with
    | none => rw [q] at e; cases e
    | some ys =>
      rw [q] at e
      obtain ⟨c, rfl⟩ := fit_some e
      have c := of_decide_eq_true c
      obtain ⟨v, w, rfl, r1, r2⟩ := rs.two
      cases r1 with
      | str ha =>
        cases r2 with
        | lst h1 a1 =>
          have := strsOf_ok a1 q
          subst this
          exact ⟨_, _, rfl, a, _, ys, rfl, rfl, .inl (.inl (.inl h1)), c, h _ _ (.same (.str (by rw [sizeLine_eq]; exact Nat.le_trans (join_le a ys) c)))⟩
theorem ca_sindex : CaF K (rM fun x xs H Q => ∃ a b i rest, x = .str a ∧ xs = [.str b] ∧ Builtin.Str.occurrences a b 0 a.length 1 = i :: rest ∧ Q (.int (i : Nat)) H) sindexF := by
  intro G H vs ds z Q g rs e h
  match ds, e with
  | [.str a, .str b], e =>
    unfold sindexF at e
    obtain ⟨v, w, rfl, r1, r2⟩ := rs.two
    cases r1
    cases r2
    simp only at e
    split at e
    · rename_i i rest q
      cases e
      exact ⟨_, _, rfl, a, b, i, rest, rfl, rfl, q, h _ _ (.same (.int _))⟩
    · cases e
theorem ca_split : CaF K (rM fun x xs H Q => ∃ a b, x = .str a ∧ xs = [.str b] ∧ (b.length == 0) = false ∧ a.length + 2 ≤ sizeLine ∧ rNewStrs (Txt.split a b) H Q) splitF := by
  intro G H vs ds z Q g rs e h
  match ds, e with
  | [.str a, .str b], e =>
    obtain ⟨c, rfl⟩ := fit_some e
    obtain ⟨v, w, rfl, r1, r2⟩ := rs.two
    cases r1
    cases r2
    simp only [Bool.and_eq_true, Bool.not_eq_true', decide_eq_true_eq, List.all_eq_true] at c
    exact ⟨_, _, rfl, a, b, rfl, rfl, c.1.1, by rw [sizeLine_eq]; exact c.1.2, fun p hp => h _ _ (.lst hp (rp_strs fun y m => by rw [sizeLine_eq]; exact c.2 y m))⟩
def rSw : V → List V → Hp → VK → Prop := fun x xs H Q => (∃ a b, x = .str a ∧ xs = [.str b] ∧ Q (.bl (Txt.startswith a b)) H) ∨ ∃ (a b : Str) (i : Int), x = .str a ∧ xs = [.str b, .int i] ∧ Q (.bl (Txt.startswith3 a b i)) H
theorem mt_sw {X : Cx} : MtR X "str.startswith" rSw := by
  intro pins s σ H x xs v us Q I rx rs h
  rcases h with h | h
  · exact mt_startswith pins s σ H x xs v us Q I rx rs h
  · exact mt_startswith3 pins s σ H x xs v us Q I rx rs h
theorem ca_sw : CaF K (rM rSw) swF := by
  intro G H vs ds z Q g rs e h
  match ds, e with
  | [.str a, .str b], e =>
    cases e
    obtain ⟨v, w, rfl, r1, r2⟩ := rs.two
    cases r1
    cases r2
    exact ⟨_, _, rfl, .inl ⟨a, b, rfl, rfl, h _ _ (.same (.bl _))⟩⟩
  | [.str a, .str b, .int i], e =>
    cases e
    obtain ⟨v, w, u, rfl, r1, r2, r3⟩ := rs.three
    cases r1
    cases r2
    cases r3
    exact ⟨_, _, rfl, .inr ⟨a, b, i, rfl, rfl, h _ _ (.same (.bl _))⟩⟩
theorem idxD_ok {d : D} : ∀ {ds : List D} {j : Nat}, idxD d ds = some j → (∃ z, ds[j]? = some z ∧ PyData.eqv z d = true) ∧ ∀ (m : Nat) (z' : D), m < j → ds[m]? = some z' → PyData.eqv z' d = false
  | [], _, e => by cases e
  | z :: r, j, e => by
    unfold idxD at e
    by_cases c : PyData.eqv z d = true
    · rw [if_pos c] at e
      cases e
      exact ⟨⟨z, rfl, c⟩, fun m z' h => absurd h (Nat.not_lt_zero _)⟩
    · rw [if_neg c] at e
      cases q : idxD d r with
      | none => rw [q] at e; cases e
      | some k =>
        rw [q] at e
        cases e
        obtain ⟨⟨z1, h1, h2⟩, h3⟩ := idxD_ok q
        refine ⟨⟨z1, by simpa using h1, h2⟩, fun m z' h h' => ?_⟩
        cases m with
        | zero =>
          simp at h'
          subst h'
          exact Bool.eq_false_iff.mpr c
        | succ m => exact h3 m z' (Nat.lt_of_succ_lt_succ h) (by simpa using h')
theorem flat_of {v : V} {d : D} (h : Rp K G v d) (f : flatD d = true) : flatV v = true := by
  cases h <;> first | rfl | cases f
theorem flats_of : ∀ {vs : List V} {ds : List D}, RpAll K G vs ds → ds.all flatD = true → vs.all flatV = true
  | _, _, .nil, _ => rfl
  | _, _, .cons a r, e => by
    rw [List.all_cons, Bool.and_eq_true] at e ⊢
    exact ⟨flat_of a e.1, flats_of r e.2⟩
theorem eqV_of {G' : Hp} {v w : V} {d e : D} (h : Rp K G v d) (h' : Rp K G' w e) (f : flatD d = true) (f' : flatD e = true) : eqV v w = PyData.eqv d e := by
  cases h <;> cases h' <;> first | rfl | cases f | cases f' | simp [eqV, PyData.eqv]
theorem RpAll.back : ∀ {vs : List V} {ds : List D} {i : Nat} {v : V}, RpAll K G vs ds → vs[i]? = some v → ∃ d, ds[i]? = some d ∧ Rp K G v d
  | _, _, _, _, .nil, e => by simp at e
  | _, _, 0, _, .cons h _, e => by simp at e; subst e; exact ⟨_, rfl, h⟩
  | _, _, i + 1, _, .cons _ a, e => by
    obtain ⟨d, h1, h2⟩ := RpAll.back (i := i) a (by simpa using e)
    exact ⟨d, by simpa using h1, h2⟩
theorem all_at {f : D → Bool} {ds : List D} (h : ds.all f = true) {i : Nat} {d : D} (e : ds[i]? = some d) : f d = true := List.all_eq_true.mp h d (List.mem_of_getElem? e)
theorem ca_lindex : CaF K (rM (rIndex K)) lindexF := by
  intro G H vs ds z Q g rs e h
  match ds, e with
  | [.list ds, d], e =>
    have e : (if flatD d = true ∧ ds.all flatD = true then (idxD d ds).map fun j => Vl.d (.int (j : Nat)) else none) = some z := e
    split at e
    · rename_i c
      cases q : idxD d ds with
      | none => rw [q] at e; cases e
      | some j =>
        rw [q] at e
        cases e
        obtain ⟨⟨z1, h1, h2⟩, h3⟩ := idxD_ok q
        obtain ⟨v, w, rfl, r1, r2⟩ := rs.two
        cases r1 with
        | lst hl a1 =>
          have rw_ := r2.dp g
          obtain ⟨zv, e1, e2⟩ := a1.at h1
          refine ⟨_, _, rfl, _, _, w, j, zv, rfl, rfl, .inl (.inl hl), flat_of rw_ c.1, flats_of a1 c.2, e1, ?_, fun m z' hm e3 => ?_, h _ _ (.same (.int _))⟩
          · rw [eqV_of e2 rw_ (all_at c.2 h1) c.1]
            exact h2
          · obtain ⟨d', e4, e5⟩ := a1.back e3
            rw [eqV_of e5 rw_ (all_at c.2 e4) c.1]
            exact h3 m d' hm e4
    · cases e
/-! what kind a receiver has -/
theorem ty_str (G H : Hp) (v : V) (x : D) (_ : Same G H) (r : RdR K G H v x) (h : isStr x = true) : tyV K "str" v H := by
  cases r <;> first | rfl | cases h
theorem ty_lst (G H : Hp) (v : V) (x : D) (_ : Same G H) (r : RdR K G H v x) (h : isLst x = true) : tyV K "list" v H := by
  cases r with
  | lst h1 a => exact .inl ⟨rfl, _, .inl (.inl h1)⟩
  | _ => cases h
end
section
variable {X : Cx} {K : PySem.W.Frag} {xi : XI} {W : WX} {e o : Expr} {es : List Expr} {fa fo : S → ER Vl} {fr : S → ER (List Vl)} {p pos apos cpos : Pos} {x : Str} {id T : String} {name : Str}
theorem re_callB {r : List V → Hp → VK → Prop} {f : List D → Option Vl} (hc : CallR X (.builtin id) r) (hf : CaF K r f) (hg : Gl X x) (hm : X.mg x = none) (hv : bootBuiltins x = some (.builtin id)) (ha : PA X (e :: es) (tA K xi W fr)) (hn : x ≠ "__name__" := by decide) (hdb : (x == ("__debug__" : Str)) = false := by decide)
    (he : starEach (e :: es) X.env = (false, eval e X.env) :: starEach es X.env := by rfl) (hpl : (backTo pos (starEach es X.env)).any (·.1) = false := by rfl) : PE X (.Call (.Name x p) (e :: es) [] pos) (tE K xi W (caE f fr)) :=
  PE.mono (pe_callB hc hg hm hv ha hn hdb he hpl) fun _ _ _ h => ca_lift hf h
theorem re_callTy {r : List V → Hp → VK → Prop} {f : List D → Option Vl} (hc : CallR X (.type T) r) (hf : CaF K r f) (hg : Gl X x) (hm : X.mg x = none) (hv : bootBuiltins x = some (.type T)) (ha : PA X (e :: es) (tA K xi W fr)) (hn : x ≠ "__name__" := by decide) (hdb : (x == ("__debug__" : Str)) = false := by decide)
    (he : starEach (e :: es) X.env = (false, eval e X.env) :: starEach es X.env := by rfl) (hpl : (backTo pos (starEach es X.env)).any (·.1) = false := by rfl) : PE X (.Call (.Name x p) (e :: es) [] pos) (tE K xi W (caE f fr)) :=
  PE.mono (pe_callTy hc hg hm hv ha hn hdb he hpl) fun _ _ _ h => ca_lift hf h
theorem re_mt {ty : D → Bool} {r : V → List V → Hp → VK → Prop} {f : List D → Option Vl} (hK : X.K = K := by rfl) (pa : PlainAttrs T) (slot : Slot T name id) (hty : typeOf (.builtin id) = pure (.type "method_descriptor")) (hm : MtR X id r) (hf : CaF K (rM r) f)
    (ht : ∀ (G H : Hp) (v : V) (x : D), Same G H → RdR K G H v x → ty x = true → tyV K T v H) (ho : PE X o (tE K xi W fo)) (ha : PA X (e :: es) (tA K xi W fr))
    (hbase : attributeBase o name X.env (eval o X.env) = eval o X.env := by rfl)
    (hfew : ((backTo cpos (starEach (e :: es) X.env)).all (fun x => !x.1) && (backToKw cpos (keywordEach [] X.env)).all (fun x => x.1.isSome)
      && decide ((e :: es).length + ([] : List Keyword).length + (if ([] : List Keyword).isEmpty then 0 else 1) < 30)) = true := by rfl)
    (hline : (apos.endLine == cpos.line) = true := by rfl) (hs : starEach (e :: es) X.env = (false, eval e X.env) :: starEach es X.env := by rfl) (hplain : (backTo cpos (starEach es X.env)).any (·.1) = false := by rfl) :
    PE X (.Call (.Attribute o name apos) (e :: es) [] cpos) (tE K xi W (mtE ty f fo fr)) := by
  subst hK
  exact PE.mono (pe_bm pa slot hty hm ho ha hbase hfew hline hs hplain) fun _ _ _ h => mt_lift hf ht h
theorem mt_joinK (hK : X.K = K := by rfl) : MtR X "str.join" (rJoin K) := by
  subst hK
  exact mt_join
theorem mt_indexK (hK : X.K = K := by rfl) : MtR X "list.index" (rIndex K) := by
  subst hK
  exact mt_index
theorem cr_lenK (hK : X.K = K := by rfl) : CallR X (.builtin "len") (rLenU K) := by
  subst hK
  exact call_len
theorem cr_tupK (hK : X.K = K := by rfl) : CallR X (.type "tuple") (fun xs H Q => ∃ p ys, xs = [.ref p] ∧ ((SqL K H p ys ∧ ∀ l, H l = none → Q (.ref l) (upd H l (.tup ys))) ∨ (SqT K H p ys ∧ Q (.ref p) H))) := by
  subst hK
  exact call_tuple_of
theorem cr_allK (hK : X.K = K := by rfl) (hc : X.calm = true := by rfl) : CallR X (.builtin "all") (rAll K) := by
  subst hK
  exact cr_all hc
theorem cr_anyK (hK : X.K = K := by rfl) (hc : X.calm = true := by rfl) : CallR X (.builtin "any") (rAny K) := by
  subst hK
  exact cr_any hc
theorem cr_sumK (hK : X.K = K := by rfl) (hc : X.calm = true := by rfl) : CallR X (.builtin "sum") (rSum K) := by
  subst hK
  exact cr_sum hc
theorem cr_reprK (hg : X.A.guards = some []) (hu : X.A.units + 64 < cLine) (hK : X.K = K := by rfl) : CallR X (.builtin "repr") (fun xs H Q => ∃ x d, xs = [x] ∧ Dp K H x d ∧ ShowOk d ∧ Q (.str d.shown) H) := by
  subst hK
  exact call_repr hg hu
end
end M

set_option Elab.async false
set_option linter.all false
set_option maxRecDepth 100000
set_option maxHeartbeats 4000000
/-! Lists that are written; statements as functions of states. -/
namespace M
open PySem PySem.Spec PyProof.Rows L2 Sv

/-! ### an object that one name holds, written -/
section
variable {K : PySem.W.Frag} {xi : XI} {W : WX} {G H G' H' G1 H1 : Hp} {σ σ' σ1 : Ss} {s s' s1 : S}
theorem stp_write {i : Nat} {f : Bool} {b b' : Ob} {p : Addr} {o : HO} (R : Rep K xi G H σ s) (hi : s[i]? = some (some (.o f b))) (hv : σ[i]? = some (some (.ref p))) : Stp G H σ s G (upd H p o) σ (s.set i (some (.o f b'))) := by
  have hlt : i < s.length := by
    rcases Nat.lt_or_ge i s.length with z | z
    · exact z
    · rw [List.getElem?_eq_none z] at hi; cases hi
  have own : Own σ s f p := ⟨i, b, hi, hv⟩
  refine ⟨Same.refl _, fun c u h n => ?_, fun c h => ?_, fun c h1 _ h3 => absurd h1 h3, fun g q ⟨j, c, h1, h2⟩ => ?_, fun j c h => ?_⟩
  · rw [upd_ne (fun e : c = p => n f (by rw [e]; exact own))]
    exact h
  · by_cases e : c = p
    · subst e; rw [upd_same]; exact fun z => nomatch z
    · rw [upd_ne e]; exact h
  · by_cases e : j = i
    · subst e
      rw [List.getElem?_set_self hlt] at h1
      cases h1
      exact .inr ⟨j, b, hi, h2⟩
    · rw [List.getElem?_set_ne (Ne.symm e)] at h1
      exact .inr ⟨j, c, h1, h2⟩
  · by_cases e : j = i
    · subst e
      rw [hi] at h
      cases h
      exact ⟨rfl, b', List.getElem?_set_self hlt⟩
    · exact ⟨rfl, c, by rw [List.getElem?_set_ne (Ne.symm e)]; exact h⟩
theorem rep_write {i : Nat} {f : Bool} {b b' : Ob} {p : Addr} {o : HO} (R : Rep K xi G H σ s) (hi : s[i]? = some (some (.o f b))) (hv : σ[i]? = some (some (.ref p))) (hb : ObR K G (upd H p o) p b') : Rep K xi G (upd H p o) σ (s.set i (some (.o f b'))) := by
  have hlt : i < s.length := by
    rcases Nat.lt_or_ge i s.length with z | z
    · exact z
    · rw [List.getElem?_eq_none z] at hi; cases hi
  have gp := (R.own ⟨i, b, hi, hv⟩).1
  obtain ⟨_, b0, hb0⟩ := R.own ⟨i, b, hi, hv⟩
  refine ⟨by rw [List.length_set]; exact R.len, Same.upd2 R.gh gp, fun j vl h => ?_, fun j k g g' c c' q h1 h2 h3 h4 => ?_⟩
  · by_cases e : j = i
    · subst e
      rw [List.getElem?_set_self hlt] at h
      cases h
      exact ⟨_, hv, p, rfl, gp, hb⟩
    · rw [List.getElem?_set_ne (Ne.symm e)] at h
      obtain ⟨v, e1, w⟩ := R.sl j vl h
      refine ⟨v, e1, ?_⟩
      cases vl with
      | d x => exact w
      | o g c =>
        obtain ⟨q, rfl, w1, w2⟩ := w
        have ne : q ≠ p := fun e2 => e (R.ap j i g f c b p h hi (by rw [e1, e2]) hv)
        exact ⟨q, rfl, w1, w2.mono (Same.refl _) (upd_ne ne)⟩
      | r k => exact w
      | x y =>
        obtain ⟨a, cls, d, z1, z2, z3, z4⟩ := w
        refine ⟨a, cls, d, z1, z2, z3, fun nm n e => ?_⟩
        obtain ⟨dd, q1, q2⟩ := z4 nm n e
        refine ⟨dd, q1, ?_⟩
        rw [upd_ne (fun e2 => by rw [e2] at q2; exact hb0.noxd q2)]
        exact q2
      | s ns => exact w
  · have back : ∀ {k : Nat} {g : Bool} {c : Ob}, (s.set i (some (.o f b')))[k]? = some (some (.o g c)) → ∃ g' c', s[k]? = some (some (.o g' c')) := fun {k g c} h => by
      by_cases e : k = i
      · subst e; exact ⟨_, _, hi⟩
      · rw [List.getElem?_set_ne (Ne.symm e)] at h; exact ⟨_, _, h⟩
    obtain ⟨_, _, q1⟩ := back h1
    obtain ⟨_, _, q2⟩ := back h2
    exact R.ap j k _ _ _ _ q q1 q2 h3 h4
end
/-- what the slot's list holds now -/
def lstAt (s : S) (i : Nat) : Option (Bool × List D) := match s[i]? with
  | some (some (.o f (.L ds))) => some (f, ds)
  | _ => none
/-- x.m(..): the list of the name and the arguments' data give a value and a new list -/
def mu1 (f : List D → List D → Option (D × List D)) (i : Nat) (s : S) (args : List D) : ER Vl := match lstAt s i with
  | some (g, ds) => (match f ds args with
    | some (x, es) => .ok (.d x) (s.set i (some (.o g (.L es))))
    | none => .no)
  | none => .no
def muE (rdA : S → List Vl → Option (List D)) (f : List D → List D → Option (D × List D)) (i : Nat) (fr : S → ER (List Vl)) : S → ER Vl := fun s => match lstAt s i with
  | some _ => (fr s).bind fun vs s1 => match rdA s1 vs with
    | some as => mu1 f i s1 as
    | none => .no
  | none => .no
def appF : List D → List D → Option (D × List D)
  | ds, [x] => if ds.length < 16777216 then some (.none, ds ++ [x]) else none
  | _, _ => none
def extF : List D → List D → Option (D × List D)
  | ds, [.list es] => if ds.length + es.length ≤ 16777216 then some (.none, ds ++ es) else none
  | _, _ => none
def popF : List D → List D → Option (D × List D)
  | ds, [] => ds.getLast?.map fun x => (x, ds.dropLast)
  | _, _ => none
def rvsF : List D → List D → Option (D × List D)
  | ds, [] => some (.none, ds.reverse)
  | _, _ => none
section
variable {X : Cx} {K : PySem.W.Frag} {xi : XI} {W : WX} {G H G' H' G1 H1 : Hp} {σ σ' σ1 : Ss} {s s' s1 : S} {e o : Expr} {es : List Expr} {fa : S → ER Vl} {fr : S → ER (List Vl)} {pos apos cpos : Pos} {i : Nat}
theorem lstAt_ok {f : Bool} {ds : List D} (R : Rep K xi G H σ s) (h : lstAt s i = some (f, ds)) : s[i]? = some (some (.o f (.L ds))) ∧ ∃ p vs, σ[i]? = some (some (.ref p)) ∧ H p = some (.lst vs) ∧ RpAll K G vs ds := by
  unfold lstAt at h
  split at h
  · rename_i g es q
    cases h
    obtain ⟨v, e, w⟩ := R.sl i _ q
    obtain ⟨p, rfl, _, vs, w1, w2⟩ := w
    exact ⟨q, p, vs, e, w1, w2⟩
  · cases h
/-- what a method that writes asks, by data -/
def MuF (K : PySem.W.Frag) (r : V → List V → Hp → VK → Prop) (A : Hp → Hp → List V → List D → Prop) (f : List D → List D → Option (D × List D)) : Prop :=
  ∀ (G H : Hp) (p : Addr) (vs ws : List V) (ds as : List D) (x : D) (es : List D) (Q : VK), Same G H → H p = some (.lst vs) → RpAll K G vs ds → A G H ws as → f ds as = some (x, es) → (∀ u us, Rp K G u x → RpAll K G us es → Q u (upd H p (.lst us))) → r (.ref p) ws H Q
theorem mu1_of {r : V → List V → Hp → VK → Prop} {A : Hp → Hp → List V → List D → Prop} {f : List D → List D → Option (D × List D)} {as : List D} {ws : List V} {Q : VK} {v : V} (hf : MuF K r A f) (R : Rep K xi G H σ s) (hv : σ[i]? = some (some v)) (ha : A G H ws as)
    (h : Po K xi W (VR K xi) G H σ s (mu1 f i s as) Q) : r v ws H Q := by
  unfold mu1 at h
  split at h
  · rename_i g ds q
    obtain ⟨h1, p, vs, h2, h3, h4⟩ := lstAt_ok R q
    rw [h2] at hv
    cases hv
    split at h
    · rename_i x es e
      exact hf G H p vs ws ds as x es Q R.gh h3 h4 ha e fun u us ru ra => h u G _ (stp_write R h1 h2) (rep_write R h1 h2 ⟨us, upd_same, ra⟩) ru
    · exact h.elim
  · exact h.elim
theorem mu_lift {r : V → List V → Hp → VK → Prop} {A : Hp → Hp → List V → List D → Prop} {rdA : S → List Vl → Option (List D)} {f : List D → List D → Option (D × List D)} (hf : MuF K r A f)
    (hA : ∀ {G H : Hp} {H0 : Hp} {σ0 : Ss} {s0 : S} {s : S} {σ : Ss} {vs : List V} {vls : List Vl} {as : List D}, Rep K xi G H σ s → VRs K xi H0 σ0 s0 G H σ s vs vls → rdA s vls = some as → A G H vs as) {Q : VK}
    (h : tE K xi W (muE rdA f i fr) σ H Q) : tBM K "list" r (tVar i) (tA K xi W fr) σ H Q := by
  obtain ⟨G, s, R, h⟩ := h
  unfold muE at h
  split at h
  · rename_i gd q
    obtain ⟨g, ds⟩ := gd
    obtain ⟨h1, p, vs, h2, h3, h4⟩ := lstAt_ok R q
    refine ⟨.ref p, h2, .inl ⟨rfl, vs, .inl (.inl h3)⟩, G, s, R, Po.bind h backs_V fun va s1 _ xs G1 H1 t1 R1 ra hh => ?_⟩
    split at hh
    · rename_i as e
      exact mu1_of hf R1 h2 (hA R1 ra.all e) hh
    · exact hh.elim
  · exact h.elim
theorem mu0_lift {r : V → List V → Hp → VK → Prop} {A : Hp → Hp → List V → List D → Prop} {rdA : S → List Vl → Option (List D)} {f : List D → List D → Option (D × List D)} (hf : MuF K r A f) (hA : ∀ {G H : Hp}, A G H [] []) {Q : VK} (h : tE K xi W (fun s => mu1 f i s []) σ H Q) : tBM0 K "list" r (tVar i) σ H Q := by
  obtain ⟨G, s, R, h⟩ := h
  cases q : lstAt s i with
  | none =>
    have h : Po K xi W (VR K xi) G H σ s (mu1 f i s []) Q := h
    unfold mu1 at h
    rw [q] at h
    exact h.elim
  | some gd =>
    obtain ⟨g, ds⟩ := gd
    obtain ⟨h1, p, vs, h2, h3, h4⟩ := lstAt_ok R q
    exact ⟨.ref p, h2, .inl ⟨rfl, vs, .inl (.inl h3)⟩, mu1_of hf R h2 hA h⟩
theorem mf_app : MuF K rAppend (fun G _ ws as => RpAll K G ws as) appF := by
  intro G H p vs ws ds as x es Q g h1 h2 ha e q
  match as, e with
  | [y], e =>
    have e : (if ds.length < 16777216 then some (PyData.none, ds ++ [y]) else none) = some (x, es) := e
    split at e
    · rename_i c
      cases e
      cases ha with
      | cons a r =>
        cases r
        exact ⟨p, vs, _, rfl, rfl, h1, by rw [h2.len, sizeLine_eq]; exact c, q _ _ .non (h2.app (.cons a .nil))⟩
    · cases e
theorem mf_ext : MuF K rExtend (fun G H ws as => RdAll K G H ws as) extF := by
  intro G H p vs ws ds as x es Q g h1 h2 ha e q
  match as, e with
  | [.list fs], e =>
    have e : (if ds.length + fs.length ≤ 16777216 then some (PyData.none, ds ++ fs) else none) = some (x, es) := e
    split at e
    · rename_i c
      cases e
      obtain ⟨v, rfl, r⟩ := ha.one
      cases r with
      | @lst b zs _ w1 w2 =>
        exact ⟨p, b, vs, zs, rfl, rfl, h1, w1, by rw [h2.len, w2.len, sizeLine_eq]; exact c, q _ _ .non (h2.app w2)⟩
    · cases e
theorem RpAll.dropLast {vs : List V} {ds : List D} (h : RpAll K G vs ds) : RpAll K G vs.dropLast ds.dropLast := by
  rw [List.dropLast_eq_take, List.dropLast_eq_take, h.len]
  exact h.take _
theorem mf_pop : MuF K rPop (fun _ _ ws as => ws = [] ∧ as = []) popF := by
  intro G H p vs ws ds as x es Q g h1 h2 ha e q
  obtain ⟨rfl, rfl⟩ := ha
  have e : (ds.getLast?.map fun x => (x, ds.dropLast)) = some (x, es) := e
  cases l : ds.getLast? with
  | none => rw [l] at e; cases e
  | some y =>
    rw [l] at e
    cases e
    rw [List.getLast?_eq_getElem?] at l
    obtain ⟨v, e1, r1⟩ := h2.at l
    exact ⟨p, vs, v, rfl, rfl, h1, by rw [h2.len]; exact e1, q _ _ r1 h2.dropLast⟩
theorem mf_rvs : MuF K rReverse (fun _ _ ws as => ws = [] ∧ as = []) rvsF := by
  intro G H p vs ws ds as x es Q g h1 h2 ha e q
  obtain ⟨rfl, rfl⟩ := ha
  cases e
  exact ⟨p, vs, rfl, rfl, h1, q _ _ .non h2.rev⟩
/-- the arguments' data that stays -/
def dArgs (_ : S) (vs : List Vl) : Option (List D) := dAll vs
theorem re_app (hK : X.K = K := by rfl) (ho : PE X o (tVar i)) (ha : PA X (e :: es) (tA K xi W fr))
    (hbase : attributeBase o "append" X.env (eval o X.env) = eval o X.env := by rfl)
    (hfew : ((backTo cpos (starEach (e :: es) X.env)).all (fun x => !x.1) && (backToKw cpos (keywordEach [] X.env)).all (fun x => x.1.isSome)
      && decide ((e :: es).length + ([] : List Keyword).length + (if ([] : List Keyword).isEmpty then 0 else 1) < 30)) = true := by rfl)
    (hline : (apos.endLine == cpos.line) = true := by rfl) (hs : starEach (e :: es) X.env = (false, eval e X.env) :: starEach es X.env := by rfl) (hplain : (backTo cpos (starEach es X.env)).any (·.1) = false := by rfl) :
    PE X (.Call (.Attribute o "append" apos) (e :: es) [] cpos) (tE K xi W (muE dArgs appF i fr)) := by
  subst hK
  exact PE.mono (pe_bm PySem.F.plainAttrs_list PySem.F.slot_list_append PySem.F.type_list_append mt_append ho ha hbase hfew hline hs hplain) fun _ _ _ h => mu_lift mf_app (fun R r e => dAll_ok r e) h
theorem re_ext (hK : X.K = K := by rfl) (ho : PE X o (tVar i)) (ha : PA X (e :: es) (tA K xi W fr))
    (hbase : attributeBase o "extend" X.env (eval o X.env) = eval o X.env := by rfl)
    (hfew : ((backTo cpos (starEach (e :: es) X.env)).all (fun x => !x.1) && (backToKw cpos (keywordEach [] X.env)).all (fun x => x.1.isSome)
      && decide ((e :: es).length + ([] : List Keyword).length + (if ([] : List Keyword).isEmpty then 0 else 1) < 30)) = true := by rfl)
    (hline : (apos.endLine == cpos.line) = true := by rfl) (hs : starEach (e :: es) X.env = (false, eval e X.env) :: starEach es X.env := by rfl) (hplain : (backTo cpos (starEach es X.env)).any (·.1) = false := by rfl) :
    PE X (.Call (.Attribute o "extend" apos) (e :: es) [] cpos) (tE K xi W (muE rdAll extF i fr)) := by
  subst hK
  exact PE.mono (pe_bm PySem.F.plainAttrs_list PySem.F.slot_list_extend PySem.F.type_list_extend mt_extend ho ha hbase hfew hline hs hplain) fun _ _ _ h => mu_lift mf_ext (fun R r e => rdAll_ok R r e) h
theorem re_pop (hK : X.K = K := by rfl) (ho : PE X o (tVar i)) (hbase : attributeBase o "pop" X.env (eval o X.env) = eval o X.env := by rfl) (hline : (apos.endLine == cpos.line) = true := by rfl) :
    PE X (.Call (.Attribute o "pop" apos) [] [] cpos) (tE K xi W (fun s => mu1 popF i s [])) := by
  subst hK
  exact PE.mono (pe_bm0 PySem.F.plainAttrs_list PySem.F.slot_list_pop PySem.F.type_list_pop mt_pop ho hbase hline) fun _ _ _ h => mu0_lift (rdA := dArgs) mf_pop ⟨rfl, rfl⟩ h
theorem re_rvs (hK : X.K = K := by rfl) (ho : PE X o (tVar i)) (hbase : attributeBase o "reverse" X.env (eval o X.env) = eval o X.env := by rfl) (hline : (apos.endLine == cpos.line) = true := by rfl) :
    PE X (.Call (.Attribute o "reverse" apos) [] [] cpos) (tE K xi W (fun s => mu1 rvsF i s [])) := by
  subst hK
  exact PE.mono (pe_bm0 PySem.F.plainAttrs_list PySem.F.slot_list_reverse PySem.F.type_list_reverse mt_reverse ho hbase hline) fun _ _ _ h => mu0_lift (rdA := dArgs) mf_rvs ⟨rfl, rfl⟩ h
end
end M

set_option Elab.async false
set_option linter.all false
set_option maxRecDepth 100000
set_option maxHeartbeats 4000000
/-! Statements. -/
namespace M
open PySem PySem.Spec PyProof.Rows L2 Sv

inductive Out where
  | nx (s : S)
  | rt (v : Vl) (s : S)
  | er (e : Exn) (s : S)
  | bk (s : S)
  | ct (s : S)
  | no
def PoS (K : PySem.W.Frag) (xi : XI) (W : WX) (G H : Hp) (σ : Ss) (s : S) (r : Out) (D : Ends) : Prop := match r with
  | .nx s' => ∀ G' H' σ', Stp G H σ s G' H' σ' s' → Rep K xi G' H' σ' s' → D.nx σ' H'
  | .rt vl s' => ∀ v G' H' σ', Stp G H σ s G' H' σ' s' → Rep K xi G' H' σ' s' → VR K xi H σ s G' H' σ' s' v vl → D.rt v H'
  | .er e s' => ∀ G' H' σ', Stp G H σ s G' H' σ' s' → Rep K xi G' H' σ' s' → EW K W e σ' H'
  | .bk s' => ∀ G' H' σ', Stp G H σ s G' H' σ' s' → Rep K xi G' H' σ' s' → D.bk σ' H'
  | .ct s' => ∀ G' H' σ', Stp G H σ s G' H' σ' s' → Rep K xi G' H' σ' s' → D.ct σ' H'
  | .no => False
def tS (K : PySem.W.Frag) (xi : XI) (W : WX) (f : S → Out) : TS := fun D σ H => ∃ G s, Rep K xi G H σ s ∧ PoS K xi W G H σ s (f s) D
/-! ### functions -/
def ER.out {α : Type} (r : ER α) (k : α → S → Out) : Out := match r with
  | .ok a s => k a s
  | .er e s => .er e s
  | .no => .no
def nextS : S → Out := fun s => .nx s
def brkS : S → Out := fun s => .bk s
def cntS : S → Out := fun s => .ct s
def Out.seq (r : Out) (g : S → Out) : Out := match r with
  | .nx s => g s
  | r => r
def seqS (f g : S → Out) : S → Out := fun s => (f s).seq g
def dropS (f : S → ER Vl) : S → Out := fun s => (f s).out fun _ s1 => .nx s1
def ifS (c : S → ER Bool) (f g : S → Out) : S → Out := fun s => (c s).out fun b s1 => if b = true then f s1 else g s1
def raiS (c : Str) : S → Out := fun s => .er ⟨c, none⟩ s
/-- a slot that the caller does not look at again -/
def freeO : Option (Option Vl) → Bool
  | some (some (.o false _)) => false
  | none => false
  | _ => true
def freeAt (s : S) (i : Nat) : Bool := freeO s[i]?
def sto (s : S) (i : Nat) (v : Vl) : Option S := if freeAt s i = true then (match v with
  | .d x => some (s.set i (some (.d x)))
  | .o true b => some (s.set i (some (.o true b)))
  | _ => none) else none
def stoO (s : S) (i : Nat) (v : Vl) : Out := match sto s i v with
  | some s1 => .nx s1
  | none => .no
def setS (i : Nat) (f : S → ER Vl) : S → Out := fun s => (f s).out fun v s1 => stoO s1 i v
def ret1 (s : S) : Vl → Out
  | .d x => .rt (.d x) s
  | .o true b => .rt (.o true b) s
  | .r i => match s[i]? with
    | some (some (.d x)) => .rt (.d x) s
    | some (some (.o true b)) => .rt (.o true b) (s.set i none)
    | _ => .no
  | _ => .no
def retS (f : S → ER Vl) : S → Out := fun s => (f s).out fun v s1 => ret1 s1 v
def retN : S → Out := fun s => .rt (.d .none) s
/-! targets -/
abbrev Tg := D → S → Option S
def nmG (i : Nat) : Tg := fun x s => sto s i (.d x)
def itsOf : D → Option (List D)
  | .tuple ds => some ds
  | .list ds => some ds
  | _ => none
def bindAll : List Tg → List D → S → Option S
  | [], [], s => some s
  | g :: gs, d :: ds, s => (g d s).bind (bindAll gs ds)
  | _, _, _ => none
def tpG (gs : List Tg) : Tg := fun x s => (itsOf x).bind fun ds => bindAll gs ds s
def optO : Option S → Out
  | some s => .nx s
  | none => .no
/-- a, b = e -/
def unpS (gs : List Tg) (f : S → ER Vl) : S → Out := fun s => (f s).out fun v s1 => match rd s1 v with
  | some x => optO (tpG gs x s1)
  | none => .no
/-- x op= e -/
def augS (i : Nat) (op : D → D → Option Vl) (f : S → ER Vl) : S → Out := fun s => match s[i]? with
  | some (some (.d x)) => (f s).out fun v s1 => match rd s1 v with
    | some y => (match op x y with
      | some (.d z) => stoO s1 i (.d z)
      | _ => .no)
    | none => .no
  | _ => .no
section
variable {X : Cx} {K : PySem.W.Frag} {xi : XI} {W : WX} {G H G' H' G1 H1 G0 H0 : Hp} {σ σ' σ1 σ0 : Ss} {s s' s1 s0 : S} {e o : Expr} {st : Stmt} {rest : List Stmt} {fa : S → ER Vl} {f g : S → Out} {De : Ends} {pos p : Pos} {i : Nat}
theorem PoS.shift {r : Out} (t : Stp G H σ s G1 H1 σ1 s1) (h : PoS K xi W G H σ s r De) : PoS K xi W G1 H1 σ1 s1 r De := by
  have bk : ∀ {Gx Hx : Hp} {σx : Ss} {sx : S} {v : V} {vl : Vl}, VR K xi H1 σ1 s1 Gx Hx σx sx v vl → VR K xi H σ s Gx Hx σx sx v vl := fun {Gx Hx σx sx v vl} h => by
    cases vl with
    | o f b =>
      obtain ⟨e0, p, e, h1, h2, h3, h4⟩ := h
      refine ⟨e0, p, e, h1, ?_, h3, h4⟩
      rcases h2 with z | z
      · left
        cases q : H p with
        | none => rfl
        | some o => exact absurd z (t.lv p (ne_none q))
      · rcases t.ow true p z with ⟨q, _⟩ | q
        · exact .inl q
        · exact .inr q
    | d x => exact h
    | r i => exact h
    | x e => exact h
    | s ns => exact h
  cases r with
  | nx s' => exact fun G' H' σ' t' R' => h G' H' σ' (t.trans t') R'
  | rt v s' => exact fun v G' H' σ' t' R' q => h v G' H' σ' (t.trans t') R' (bk q)
  | er e s' => exact fun G' H' σ' t' R' => h G' H' σ' (t.trans t') R'
  | bk s' => exact fun G' H' σ' t' R' => h G' H' σ' (t.trans t') R'
  | ct s' => exact fun G' H' σ' t' R' => h G' H' σ' (t.trans t') R'
  | no => exact h
theorem Po.outU {α β : Type} {rel : Rl3 α β} {r : ER α} {k : α → S → Out} {Z : β → Hp → Prop} (t : Stp G0 H0 σ0 s0 G H σ s) (h : PoS K xi W G0 H0 σ0 s0 (r.out k) De)
    (kk : ∀ a s1, r = .ok a s1 → ∀ v G1 H1, Stp G H σ s G1 H1 σ s1 → Rep K xi G1 H1 σ s1 → rel H σ s G1 H1 σ s1 v a → PoS K xi W G0 H0 σ0 s0 (k a s1) De → Z v H1) : Po K xi W rel G H σ s r Z := by
  cases r with
  | ok a s1 => exact fun v G1 H1 t1 R q => kk a s1 rfl v G1 H1 t1 R q h
  | er e s1 => exact fun G' H' t' R' => h G' H' σ (t.trans t') R'
  | no => exact h
theorem rs_nil : PSs X [] (tS K xi W nextS) := PSs.mono pss_nil fun D σ H ⟨G, s, R, h⟩ => h G H σ .refl R
theorem rs_pass : PS X (.Pass pos) (tS K xi W nextS) := PS.mono ps_pass fun D σ H ⟨G, s, R, h⟩ => h G H σ .refl R
theorem rs_brk : PS X (.Break pos) (tS K xi W brkS) := PS.mono ps_break fun D σ H ⟨G, s, R, h⟩ => h G H σ .refl R
theorem rs_cnt : PS X (.Continue pos) (tS K xi W cntS) := PS.mono ps_continue fun D σ H ⟨G, s, R, h⟩ => h G H σ .refl R
theorem rs_one (h : PS X st (tS K xi W f)) : PSs X [st] (tS K xi W f) := pss_one h
theorem rs_cons (h1 : PS X st (tS K xi W f)) (h2 : PSs X rest (tS K xi W g)) : PSs X (st :: rest) (tS K xi W (seqS f g)) := by
  refine PSs.mono (pss_cons h1 h2) fun D σ H h => ?_
  obtain ⟨G, s, R, h⟩ := h
  refine ⟨G, s, R, ?_⟩
  have h : PoS K xi W G H σ s ((f s).seq g) D := h
  cases q : f s with
  | nx s1 => rw [q] at h; exact fun G' H' σ' t R' => ⟨G', s1, R', PoS.shift t h⟩
  | rt v s1 => rw [q] at h; exact h
  | er e s1 => rw [q] at h; exact h
  | bk s1 => rw [q] at h; exact h
  | ct s1 => rw [q] at h; exact h
  | no => rw [q] at h; exact h
theorem rs_expr (he : PE X e (tE K xi W fa)) (hs : swapsWith e none pos.line X.env = pure false := by rfl) : PS X (.Expr e pos) (tS K xi W (dropS fa)) := by
  refine PS.mono (ps_expr he hs) fun D σ H h => ?_
  obtain ⟨G, s, R, h⟩ := h
  exact ⟨G, s, R, Po.outU .refl h fun a s1 _ v G1 H1 t1 R1 r h1 => h1 G1 H1 σ t1 R1⟩
theorem rs_if {c : Expr} {a b : List Stmt} {fc : S → ER Bool} (hc : PT X c (tT K xi W fc)) (ha : PSs X a (tS K xi W f)) (hb : PSs X b (tS K xi W g)) : PS X (.If c a b pos) (tS K xi W (ifS fc f g)) := by
  refine PS.mono (ps_if hc ha hb) fun D σ H h => ?_
  obtain ⟨G, s, R, h⟩ := h
  refine ⟨G, s, R, Po.outU .refl h fun b s1 _ v G1 H1 t1 R1 r h1 => ?_⟩
  have r : v = b := r
  subst r
  cases v with
  | true => exact ⟨G1, s1, R1, PoS.shift t1 h1⟩
  | false => exact ⟨G1, s1, R1, PoS.shift t1 h1⟩
theorem rs_raise {x m : Str} {j : Nat} {p p2 pos pos2 : Pos} (c : ExcF X.K X.mg x) (hc : X.calm = true) (tk : L2N.Takes X W) (hg : Gl X x) (hK : X.K = K := by rfl) (hdb : (x == ("__debug__" : Str)) = false := by decide) :
    PS X (.Raise (some (.Call (.Name x p) [.Constant (.str m) j p2] [] pos)) none pos2) (tS K xi W (raiS x)) := by
  subst hK
  exact PS.mono (L2N.ps_raise hc tk (L2N.pmk_own PySem.F.excBase_ValueError c.q c.g c.kp (raises_own c.sb c.ty) hg hdb)) fun D σ H ⟨G, s, R, h⟩ => h G H σ .refl R
/-! stores -/
theorem freeAt_ok (h : freeAt s i = true) : i < s.length ∧ ∀ b, s[i]? ≠ some (some (.o false b)) := by
  unfold freeAt at h
  refine ⟨?_, fun b e => by rw [e] at h; cases h⟩
  rcases Nat.lt_or_ge i s.length with z | z
  · exact z
  · rw [List.getElem?_eq_none z] at h; cases h
theorem sto_ok {v : Vl} (h : sto s i v = some s1) : freeAt s i = true ∧ s1 = s.set i (some v) ∧ ((∃ x, v = .d x) ∨ ∃ b, v = .o true b) := by
  unfold sto at h
  split at h
  · rename_i c
    cases v with
    | d x => cases h; exact ⟨c, rfl, .inl ⟨x, rfl⟩⟩
    | o f b =>
      cases f with
      | true => cases h; exact ⟨c, rfl, .inr ⟨b, rfl⟩⟩
      | false => cases h
    | _ => cases h
  · cases h
theorem stp_set {v : V} {vl : Vl} (t : Stp G0 H0 σ0 s0 G H σ s) (R : Rep K xi G H σ s) (r : VR K xi H0 σ0 s0 G H σ s v vl) (h : sto s i vl = some s1) : Stp G0 H0 σ0 s0 G H (σ.set i (some v)) s1 := by
  obtain ⟨c, rfl, hv⟩ := sto_ok h
  obtain ⟨hlt, nio⟩ := freeAt_ok c
  have hlt2 : i < σ.length := by rw [← R.len]; exact hlt
  refine ⟨t.gg, t.fr, t.lv, t.gn, fun f p ⟨j, b, h1, h2⟩ => ?_, fun j b h1 => ?_⟩
  · by_cases e : j = i
    · subst e
      rw [List.getElem?_set_self hlt] at h1
      rw [List.getElem?_set_self hlt2] at h2
      cases h1
      cases h2
      obtain ⟨e0, q, e1, _, h3, _, _⟩ := r
      cases e1
      subst e0
      exact h3.elim (fun z => .inl ⟨z, rfl⟩) .inr
    · rw [List.getElem?_set_ne (Ne.symm e)] at h1 h2
      exact t.ow f p ⟨j, b, h1, h2⟩
  · obtain ⟨e1, b', e2⟩ := t.io j b h1
    have n : j ≠ i := fun e => nio b' (by rw [← e]; exact e2)
    exact ⟨by rw [List.getElem?_set_ne (Ne.symm n)]; exact e1, b', by rw [List.getElem?_set_ne (Ne.symm n)]; exact e2⟩
theorem rep_set {v : V} {vl : Vl} (R : Rep K xi G H σ s) (r : VR K xi H0 σ0 s0 G H σ s v vl) (h : sto s i vl = some s1) : Rep K xi G H (σ.set i (some v)) s1 := by
  obtain ⟨c, rfl, hv⟩ := sto_ok h
  obtain ⟨hlt, nio⟩ := freeAt_ok c
  have hlt2 : i < σ.length := by rw [← R.len]; exact hlt
  have fr : ∀ {j : Nat} {f g : Bool} {b c : Ob} {p : Addr}, vl = .o f b → v = .ref p → j ≠ i → s[j]? = some (some (.o g c)) → σ[j]? = some (some (.ref p)) → False := fun {j f g b c p} e1 e2 n h1 h2 => by
    subst e1 e2
    obtain ⟨_, q, e3, _, _, _, h5⟩ := r
    cases e3
    exact h5 g ⟨j, c, h1, h2⟩
  refine ⟨by rw [List.length_set, List.length_set]; exact R.len, R.gh, fun j u hj => ?_, fun j k f g b c p h1 h2 h3 h4 => ?_⟩
  · by_cases e : j = i
    · subst e
      rw [List.getElem?_set_self hlt] at hj
      cases hj
      refine ⟨v, List.getElem?_set_self hlt2, ?_⟩
      rcases hv with ⟨x, rfl⟩ | ⟨b, rfl⟩
      · exact r
      · obtain ⟨_, q, e3, w1, _, w3, _⟩ := r
        exact ⟨q, e3, w1, w3⟩
    · rw [List.getElem?_set_ne (Ne.symm e)] at hj
      obtain ⟨w, e1, w2⟩ := R.sl j u hj
      exact ⟨w, by rw [List.getElem?_set_ne (Ne.symm e)]; exact e1, w2⟩
  · by_cases ej : j = i
    · by_cases ek : k = i
      · rw [ej, ek]
      · subst ej
        rw [List.getElem?_set_self hlt] at h1
        rw [List.getElem?_set_self hlt2] at h3
        rw [List.getElem?_set_ne (Ne.symm ek)] at h2 h4
        cases h1
        cases h3
        exact (fr rfl rfl ek h2 h4).elim
    · by_cases ek : k = i
      · subst ek
        rw [List.getElem?_set_self hlt] at h2
        rw [List.getElem?_set_self hlt2] at h4
        rw [List.getElem?_set_ne (Ne.symm ej)] at h1 h3
        cases h2
        cases h4
        exact (fr rfl rfl ej h1 h3).elim
      · rw [List.getElem?_set_ne (Ne.symm ej)] at h1 h3
        rw [List.getElem?_set_ne (Ne.symm ek)] at h2 h4
        exact R.ap j k f g b c p h1 h2 h3 h4
theorem rs_set {x : Str} {pos' : Pos} (hN : X.N.Nodup) (hi : X.N[i]? = some x) (hx : Loc X.env.scope x) (he : PE X e (tE K xi W fa)) (hs : swapsWith e (some (.Name x pos')) pos.line X.env = pure false := by rfl) (hf : X.fn x = true ∨ X.env.scope.names.lookup x = some .local := by first | exact .inl rfl | exact .inr rfl | assumption) :
    PS X (.Assign [.Name x pos'] e pos) (tS K xi W (setS i fa)) := by
  refine PS.mono (ps_set hN hi hx he hs hf) fun D σ H h => ?_
  obtain ⟨G, s, R, h⟩ := h
  refine ⟨G, s, R, Po.outU .refl h fun a s1 _ v G1 H1 t1 R1 r h1 => ?_⟩
  show D.nx (σ.set i (some v)) H1
  unfold stoO at h1
  split at h1
  · rename_i s2 q
    exact h1 G1 H1 _ (stp_set t1 R1 r q) (rep_set R1 r q)
  · exact h1.elim
theorem rs_ret (he : PE X e (tE K xi W fa)) : PS X (.Return (some e) pos) (tS K xi W (retS fa)) := by
  refine PS.mono (ps_ret he) fun D σ H h => ?_
  obtain ⟨G, s, R, h⟩ := h
  refine ⟨G, s, R, Po.outU .refl h fun a s1 _ v G1 H1 t1 R1 r h1 => ?_⟩
  cases a with
  | d x => exact h1 v G1 H1 σ t1 R1 r
  | o f b =>
    cases f with
    | true => exact h1 v G1 H1 σ t1 R1 r
    | false => exact h1.elim
  | r i =>
    have r : σ[i]? = some (some v) := r
    unfold ret1 at h1
    simp only at h1
    split at h1
    · rename_i x q
      obtain ⟨v', e2, w⟩ := R1.sl i _ q
      rw [r] at e2
      cases e2
      exact h1 v G1 H1 σ t1 R1 w
    · rename_i b q
      obtain ⟨v', e2, w⟩ := R1.sl i _ q
      rw [r] at e2
      cases e2
      obtain ⟨p, rfl, w1, w2⟩ := w
      have hlt : i < s1.length := by
        rcases Nat.lt_or_ge i s1.length with z | z
        · exact z
        · rw [List.getElem?_eq_none z] at q; cases q
      have sub : ∀ {j : Nat} {u : Vl}, (s1.set i none)[j]? = some (some u) → j ≠ i ∧ s1[j]? = some (some u) := fun {j u} h => by
        by_cases e : j = i
        · subst e; rw [List.getElem?_set_self hlt] at h; cases h
        · rw [List.getElem?_set_ne (Ne.symm e)] at h; exact ⟨e, h⟩
      refine h1 (.ref p) G1 H1 σ ⟨t1.gg, t1.fr, t1.lv, t1.gn, fun f q1 ⟨j, c, z1, z2⟩ => t1.ow f q1 ⟨j, c, (sub z1).2, z2⟩, fun j c z => ?_⟩ ⟨by rw [List.length_set]; exact R1.len, R1.gh, fun j u z => R1.sl j u (sub z).2, fun j k f g c d p2 z1 z2 z3 z4 => R1.ap j k f g c d p2 (sub z1).2 (sub z2).2 z3 z4⟩ ⟨rfl, p, rfl, w1, ?_, w2, fun g ⟨j, c, z1, z2⟩ => (sub z1).1 (R1.ap j i g true c b p (sub z1).2 q z2 r)⟩
      · obtain ⟨e1, c', e2⟩ := t1.io j c z
        have n : j ≠ i := fun e => by rw [e, q] at e2; cases e2
        exact ⟨e1, c', by rw [List.getElem?_set_ne (Ne.symm n)]; exact e2⟩
      · rcases t1.ow true p ⟨i, b, q, r⟩ with ⟨z, _⟩ | z
        · exact .inl z
        · exact .inr z
    · exact h1.elim
  | x e => exact h1.elim
  | s ns => exact h1.elim
theorem rs_retN : PS X (.Return none pos) (tS K xi W retN) := PS.mono ps_retN fun D σ H ⟨G, s, R, h⟩ => h .non G H σ .refl R .non
end
end M

set_option Elab.async false
set_option linter.all false
set_option maxRecDepth 100000
set_option maxHeartbeats 4000000
/-! Targets, what is walked, loops, comprehensions. -/
namespace M
open PySem PySem.Spec PyProof.Rows L2 Sv

/-! ### targets -/
theorem PG.mono {X : Cx} {e : Expr} {t t' : TG} (h : PG X e t) (k : ∀ v σ H Q, t' v σ H Q → t v σ H Q) : PG X e t' := ⟨fun pins s σ H v u Q I r w => h.run pins s σ H v u Q I r (k v σ H Q w)⟩
theorem PGs.mono {X : Cx} {e : List Expr} {t t' : TGs} (h : PGs X e t) (k : ∀ v σ H Q, t' v σ H Q → t v σ H Q) : PGs X e t' := ⟨fun pins s σ H v u Q I r w => h.run pins s σ H v u Q I r (k v σ H Q w)⟩
theorem PG.or {X : Cx} {e : Expr} {t t' : TG} (h : PG X e t) (h' : PG X e t') : PG X e (fun v σ H Q => t v σ H Q ∨ t' v σ H Q) := ⟨fun pins s σ H v u Q I r w => w.elim (h.run pins s σ H v u Q I r) (h'.run pins s σ H v u Q I r)⟩
/-- the slots but these stay -/
def Off (sl : List Nat) (σ σ' : Ss) : Prop := σ'.length = σ.length ∧ ∀ j, j ∉ sl → σ'[j]? = σ[j]?
theorem Off.refl {sl : List Nat} {σ : Ss} : Off sl σ σ := ⟨rfl, fun _ _ => rfl⟩
theorem Off.trans {sl : List Nat} {a b c : Ss} (h : Off sl a b) (h' : Off sl b c) : Off sl a c := ⟨h'.1.trans h.1, fun j n => (h'.2 j n).trans (h.2 j n)⟩
theorem Off.mono {sl sl' : List Nat} {a b : Ss} (h : Off sl a b) (k : ∀ j ∈ sl, j ∈ sl') : Off sl' a b := ⟨h.1, fun j n => h.2 j fun m => n (k j m)⟩
section
variable (K : PySem.W.Frag) (xi : XI)
def tG (sl : List Nat) (g : Tg) : TG := fun v σ H Q => ∃ (G0 H0 : Hp) (σ0 : Ss) (s0 : S) (G : Hp) (s : S) (x : D) (s' : S), Stp G0 H0 σ0 s0 G H σ s ∧ Rep K xi G H σ s ∧ Rp K G v x ∧ g x s = some s' ∧ ∀ σ', Off sl σ σ' → Stp G0 H0 σ0 s0 G H σ' s' → Rep K xi G H σ' s' → Q σ' H
def tGs (sl : List Nat) (gs : List Tg) : TGs := fun vs σ H Q => ∃ (G0 H0 : Hp) (σ0 : Ss) (s0 : S) (G : Hp) (s : S) (ds : List D) (s' : S), Stp G0 H0 σ0 s0 G H σ s ∧ Rep K xi G H σ s ∧ RpAll K G vs ds ∧ bindAll gs ds s = some s' ∧ ∀ σ', Off sl σ σ' → Stp G0 H0 σ0 s0 G H σ' s' → Rep K xi G H σ' s' → Q σ' H
end
theorem bindAll_len : ∀ {gs : List Tg} {ds : List D} {s s' : S}, bindAll gs ds s = some s' → ds.length = gs.length
  | [], [], _, _, _ => rfl
  | [], _ :: _, _, _, h => by cases h
  | _ :: _, [], _, _, h => by cases h
  | g :: gs, d :: ds, s, s', h => by
    unfold bindAll at h
    cases q : g d s with
    | none => rw [q] at h; cases h
    | some s1 =>
      rw [q] at h
      rw [List.length_cons, List.length_cons, bindAll_len (show bindAll gs ds s1 = some s' from h)]
section
variable {X : Cx} {K : PySem.W.Frag} {xi : XI} {W : WX} {G H G' H' G1 H1 G0 H0 : Hp} {σ σ' σ1 σ0 : Ss} {s s' s1 s0 : S} {e o tg iter : Expr} {es : List Expr} {fa : S → ER Vl} {f : S → Out} {g : Tg} {gs : List Tg} {De : Ends} {pos p : Pos} {i : Nat} {sl sl' : List Nat}
theorem rg_name {x : Str} (hN : X.N.Nodup) (hi : X.N[i]? = some x) (hx : Loc X.env.scope x) (hf : X.fn x = true ∨ X.env.scope.names.lookup x = some .local := by first | exact .inl rfl | exact .inr rfl | assumption) : PG X (.Name x pos) (tG K xi [i] (nmG i)) := by
  refine PG.mono (pg_name hN hi hx hf) fun v σ H Q ⟨G0, H0, σ0, s0, G, s, x, s', t, R, r, e, h⟩ => ?_
  have rv : VR K xi H0 σ0 s0 G H σ s v (.d x) := r
  refine h _ ⟨List.length_set, fun j n => List.getElem?_set_ne fun e => n (by rw [← e]; exact List.mem_cons_self)⟩ (stp_set t R rv e) (rep_set R rv e)
theorem rgs_nil : PGs X [] (tGs K xi [] []) := by
  refine PGs.mono pgs_nil fun vs σ H Q ⟨G0, H0, σ0, s0, G, s, ds, s', t, R, r, e, h⟩ => ?_
  have hl := bindAll_len e
  have : ds = [] := List.eq_nil_of_length_eq_zero hl
  subst this
  cases r
  cases e
  exact ⟨rfl, h σ .refl t R⟩
theorem rgs_cons (h1 : PG X e (tG K xi sl g)) (h2 : PGs X es (tGs K xi sl' gs)) (hs : (assignEach (e :: es) X.env).map (·.2) = assign e X.env :: (assignEach es X.env).map (·.2) := by rfl) : PGs X (e :: es) (tGs K xi (sl ++ sl') (g :: gs)) := by
  refine PGs.mono (pgs_cons h1 h2 hs) fun vs σ H Q ⟨G0, H0, σ0, s0, G, s, ds, s', t, R, r, e, h⟩ => ?_
  cases r with
  | nil => cases e
  | @cons v vr d dr a r =>
    unfold bindAll at e
    cases q : g d s with
    | none => rw [q] at e; cases e
    | some s1 =>
      rw [q] at e
      have e : bindAll gs dr s1 = some s' := e
      refine ⟨v, vr, rfl, G0, H0, σ0, s0, G, s, d, s1, t, R, a, q, fun σ1 o1 t1 R1 => ⟨G0, H0, σ0, s0, G, s1, dr, s', t1, R1, r, e, fun σ2 o2 t2 R2 => h σ2 ?_ t2 R2⟩⟩
      exact (o1.mono fun j m => List.mem_append_left _ m).trans (o2.mono fun j m => List.mem_append_right _ m)
theorem seq_lift {n : Nat} {v : V} {σ : Ss} {H : Hp} {Q : Ss → Hp → Prop} {x : D} (hn : n = gs.length) (t : Stp G0 H0 σ0 s0 G H σ s) (R : Rep K xi G H σ s) (r : RdR K G H v x) (e : tpG gs x s = some s') (h : ∀ σ', Off sl σ σ' → Stp G0 H0 σ0 s0 G H σ' s' → Rep K xi G H σ' s' → Q σ' H) :
    gTup K n (tGs K xi sl gs) v σ H Q ∨ gLst K n (tGs K xi sl gs) v σ H Q := by
  unfold tpG at e
  cases r with
  | @tup a xs ds w1 w2 =>
    have e : bindAll gs ds s = some s' := e
    exact .inl ⟨a, xs, rfl, same_t R.gh w1, by rw [w2.len, hn]; exact bindAll_len e, G0, H0, σ0, s0, G, s, ds, s', t, R, w2, e, h⟩
  | @lst a xs ds w1 w2 =>
    have e : bindAll gs ds s = some s' := e
    exact .inr ⟨a, xs, rfl, .inl (.inl w1), by rw [w2.len, hn]; exact bindAll_len e, G0, H0, σ0, s0, G, s, ds, s', t, R, w2, e, h⟩
  | _ => cases e
theorem rg_tup {k : Nat} (hc : X.calm = true) (hgs : PGs X es (tGs K xi sl gs)) (hK : X.K = K := by rfl) (hn : (assignEach es X.env).length = gs.length := by rfl) (hst : (assignEach es X.env).findIdx? (·.1) = none := by rfl) : PG X (.Tuple es k pos) (tG K xi sl (tpG gs)) := by
  subst hK
  exact PG.mono (PG.or (pg_tup hc hgs hn hst) (pg_lst hc hgs hn hst)) fun v σ H Q ⟨G0, H0, σ0, s0, G, s, x, s', t, R, r, e, h⟩ => seq_lift rfl t R (RdR.of r R.gh) e h
theorem rs_unp {k : Nat} {tpos : Pos} (hc : X.calm = true) (he : PE X e (tE K xi W fa)) (hgs : PGs X es (tGs K xi sl gs)) (hK : X.K = K := by rfl) (hn : (assignEach es X.env).length = gs.length := by rfl) (hst : (assignEach es X.env).findIdx? (·.1) = none := by rfl)
    (hs : swapsWithSole [.Tuple es k tpos] e pos.line X.env = pure false := by rfl) (hw : swappedStores [.Tuple es k tpos] e X.env = pure none := by rfl) (h1 : (assignEach [.Tuple es k tpos] X.env).map (·.2) = [assign (.Tuple es k tpos) X.env] := by rfl) :
    PS X (.Assign [.Tuple es k tpos] e pos) (tS K xi W (unpS gs fa)) := by
  subst hK
  refine PS.mono (ps_asg he (PG.or (pg_tup hc hgs hn hst) (pg_lst hc hgs hn hst)) hs hw h1) fun D σ H h => ?_
  obtain ⟨G, s, R, h⟩ := h
  refine ⟨G, s, R, Po.outU .refl h fun a s1 _ v G1 H1 t1 R1 r h1 => ?_⟩
  split at h1
  · rename_i x ex
    cases q : tpG gs x s1 with
    | none => rw [q] at h1; exact h1.elim
    | some s2 =>
      rw [q] at h1
      exact seq_lift rfl t1 R1 (rd_ok R1 r ex) q fun σ' _ t' R' => h1 G1 H1 σ' t' R'
  · exact h1.elim
theorem rs_aug {x : Str} {op : Operator} {r : R2} {fop : PyData → PyData → Option Vl} {pos' : Pos} (ho : OpR X (inplaceOp op) r) (hf : OpF K r fop) (hN : X.N.Nodup) (hi : X.N[i]? = some x) (hx : Loc X.env.scope x) (he : PE X e (tE K xi W fa)) (hfn : X.fn x = true ∨ X.env.scope.names.lookup x = some .local := by first | exact .inl rfl | exact .inr rfl | assumption) :
    PS X (.AugAssign (.Name x pos') op e pos) (tS K xi W (augS i fop fa)) := by
  refine PS.mono (ps_aug hN hi hx he ho hfn) fun D σ H h => ?_
  obtain ⟨G, s, R, h⟩ := h
  unfold augS at h
  split at h
  · rename_i d q
    obtain ⟨v, e1, rv⟩ := R.sl i _ q
    refine ⟨v, e1, G, s, R, Po.outU .refl h fun a s1 _ y G1 H1 t1 R1 ry h1 => ?_⟩
    split at h1
    · rename_i dy ey
      split at h1
      · rename_i z ez
        refine hf G1 H1 v y d dy (.d z) _ R1.gh (RdR.of (Rp.same t1.gg rv) R1.gh) (rd_ok R1 ry ey) ez fun u H2 ext => ?_
        refine ext.fin (W := W) R1 (Q := fun z H2 => D.nx (σ.set i (some z)) H2) fun w G2 H2 t2 R2 rw_ => ?_
        unfold stoO at h1
        split at h1
        · rename_i s2 e2
          have rw2 : VR K xi H σ s G2 H2 σ s1 w (.d z) := rw_
          exact h1 G2 H2 _ (stp_set (t1.trans t2) R2 rw2 e2) (rep_set R2 rw2 e2)
        · exact h1.elim
      · exact h1.elim
    · exact h1.elim
  · exact h.elim
/-! ### what is walked -/
/-- these items, one after another, whatever the heap has grown to; a turn lays at most new tuples -/
def IterOk (K : PySem.W.Frag) (G1 : Hp) (J : It) (items : List PyData) : Prop := ∀ (i : Nat) (G2 H2 : Hp), Same G1 G2 → Same G2 H2 →
  (∀ x, items[i]? = some x → J.go i H2 ∧ ∀ v H3, J.yld i H2 v H3 → ∃ G3, Same G2 G3 ∧ Same G3 H3 ∧ Same H2 H3 ∧ (∀ b, G2 b = none → H2 b ≠ none → G3 b = none) ∧ Rp K G3 v x) ∧ (i = items.length → J.stop i H2)
def rI (K : PySem.W.Frag) : Rl3 (List PyData) It := fun _ _ _ G' _ _ _ J items => IterOk K G' J items
theorem backs_I : Backs (rI K) := fun _ _ _ _ _ _ _ _ _ _ _ _ _ _ _ h => h
def tI (K : PySem.W.Frag) (xi : XI) (W : WX) (f : S → ER (List PyData)) : TI := fun σ H R => ∃ G s, Rep K xi G H σ s ∧ Po K xi W (rI K) G H σ s (f s) R
theorem stp_turn {G2 H2 G3 H3 : Hp} (a : Same G2 G3) (b : Same H2 H3) (c : ∀ b, G2 b = none → H2 b ≠ none → G3 b = none) : Stp G2 H2 σ s G3 H3 σ s :=
  ⟨a, fun x o h _ => b x o h, fun x h => by
    cases q : H2 x with
    | none => exact absurd q h
    | some o => exact ne_none (b x o q), fun x h1 h2 h3 => absurd (c x h1 h2) h3, fun _ _ w => .inr w, fun _ b h => ⟨rfl, b, h⟩⟩
theorem rep_turn {G2 H2 G3 H3 : Hp} (R : Rep K xi G2 H2 σ s) (a : Same G2 G3) (g : Same G3 H3) (b : Same H2 H3) (c : ∀ b, G2 b = none → H2 b ≠ none → G3 b = none) : Rep K xi G3 H3 σ s := by
  refine R.quiet (stp_turn a b c) g fun f p w => ?_
  obtain ⟨gp, ob, h⟩ := R.own w
  have hp := h.here
  refine ⟨?_, c p gp hp⟩
  cases q : H2 p with
  | none => exact absurd q hp
  | some o => exact b p o q
/-! ### for -/
end
def forL (g : Tg) (b : S → Out) : List PyData → S → Out
  | [], s => .nx s
  | d :: ds, s => match g d s with
    | none => .no
    | some s1 => match b s1 with
      | .nx s2 => forL g b ds s2
      | .ct s2 => forL g b ds s2
      | .bk s2 => .nx s2
      | .rt v s2 => .rt v s2
      | .er e s2 => .er e s2
      | .no => .no
def forS (it : S → ER (List PyData)) (g : Tg) (b : S → Out) : S → Out := fun s => (it s).out fun ds s1 => forL g b ds s1
section
variable {X : Cx} {K : PySem.W.Frag} {xi : XI} {W : WX} {G H G' H' G1 H1 G0 H0 : Hp} {σ σ' σ1 σ0 : Ss} {s s' s1 s0 : S} {e o tg iter elt : Expr} {es : List Expr} {fa : S → ER Vl} {f : S → Out} {fi : S → ER (List PyData)} {g : Tg} {gs : List Tg} {De : Ends} {pos p : Pos} {i : Nat} {sl sl' : List Nat}
theorem rs_for {body : List Stmt} (hp : PassesOwn (model X.prog X.w) X.A X.env X.xe) (hc : X.calm = true) (hi : PI X tg iter (tI K xi W fi)) (hg : PG X tg (tG K xi sl g)) (hb : PSs X body (tS K xi W f)) (hs : ∀ x, foldedSetIterable iter X.env x = pure x := by intro _; rfl) : PS X (.For tg iter body [] pos) (tS K xi W (forS fi g f)) := by
  refine PS.mono (ps_for hp hc hi hg hb hs) fun D σ H h => ?_
  obtain ⟨G, s, R, h⟩ := h
  refine ⟨G, s, R, Po.outU .refl h fun items s1 _ J G1 H1 t1 R1 ok h1 => ?_⟩
  have ok : IterOk K G1 J items := ok
  refine ⟨fun i m σ2 H2 => m = items.length - i ∧ i ≤ items.length ∧ ∃ G2 s2, Same G1 G2 ∧ Stp G H σ s G2 H2 σ2 s2 ∧ Rep K xi G2 H2 σ2 s2 ∧ PoS K xi W G H σ s (forL g f (items.drop i) s2) D, ⟨_, rfl, Nat.zero_le _, G1, s1, Same.refl _, t1, R1, h1⟩, ?_⟩
  rintro i m σ2 H2 ⟨rfl, hi, G2, s2, g2, t2, R2, h2⟩
  obtain ⟨goes, stops⟩ := ok i G2 H2 g2 R2.gh
  by_cases hlt : i < items.length
  · right
    obtain ⟨go, yl⟩ := goes items[i] (by simp [hlt])
    refine ⟨go, fun σ' H' => ∃ m', m' < items.length - i ∧ (m' = items.length - (i + 1) ∧ i + 1 ≤ items.length ∧ ∃ G2 s2, Same G1 G2 ∧ Stp G H σ s G2 H' σ' s2 ∧ Rep K xi G2 H' σ' s2 ∧ PoS K xi W G H σ s (forL g f (items.drop (i + 1)) s2) D), fun σ' H' h => h, fun v H3 y => ?_⟩
    obtain ⟨G3, g3, gh3, h3, c3, rv⟩ := yl v H3 y
    have t3 := t2.trans (stp_turn g3 h3 c3)
    have R3 := rep_turn R2 g3 gh3 h3 c3
    rw [List.drop_eq_getElem_cons hlt] at h2
    unfold forL at h2
    split at h2
    · exact h2.elim
    · rename_i s4 q4
      refine ⟨G, H, σ, s, G3, s2, items[i], s4, t3, R3, rv, q4, fun σ4 _ t4 R4 => ⟨G3, s4, R4, ?_⟩⟩
      have nxt : ∀ {s5 : S}, PoS K xi W G H σ s (forL g f (items.drop (i + 1)) s5) D → ∀ G5 H5 σ5, Stp G3 H3 σ4 s4 G5 H5 σ5 s5 → Rep K xi G5 H5 σ5 s5 →
          ∃ m', m' < items.length - i ∧ (m' = items.length - (i + 1) ∧ i + 1 ≤ items.length ∧ ∃ G2 s2, Same G1 G2 ∧ Stp G H σ s G2 H5 σ5 s2 ∧ Rep K xi G2 H5 σ5 s2 ∧ PoS K xi W G H σ s (forL g f (items.drop (i + 1)) s2) D) := fun {s5} h5 G5 H5 σ5 t5 R5 =>
        ⟨_, by omega, rfl, hlt, G5, s5, (g2.trans g3).trans t5.gg, t4.trans t5, R5, h5⟩
      have all : ∀ r : Out, PoS K xi W G H σ s (match r with | .nx s2 => forL g f (items.drop (i + 1)) s2 | .ct s2 => forL g f (items.drop (i + 1)) s2 | .bk s2 => .nx s2 | .rt v s2 => .rt v s2 | .er e s2 => .er e s2 | .no => .no) D →
          PoS K xi W G3 H3 σ4 s4 r { D with nx := fun σ' H' => ∃ m', m' < items.length - i ∧ (m' = items.length - (i + 1) ∧ i + 1 ≤ items.length ∧ ∃ G2 s2, Same G1 G2 ∧ Stp G H σ s G2 H' σ' s2 ∧ Rep K xi G2 H' σ' s2 ∧ PoS K xi W G H σ s (forL g f (items.drop (i + 1)) s2) D), ct := fun σ' H' => ∃ m', m' < items.length - i ∧ (m' = items.length - (i + 1) ∧ i + 1 ≤ items.length ∧ ∃ G2 s2, Same G1 G2 ∧ Stp G H σ s G2 H' σ' s2 ∧ Rep K xi G2 H' σ' s2 ∧ PoS K xi W G H σ s (forL g f (items.drop (i + 1)) s2) D), bk := D.nx } := fun r h => by
        cases r with
        | nx s5 => exact nxt h
        | ct s5 => exact nxt h
        | bk s5 => exact fun G5 H5 σ5 t5 R5 => h G5 H5 σ5 (t4.trans t5) R5
        | rt v s5 => exact PoS.shift (De := D) t4 h
        | er e s5 => exact PoS.shift (De := D) t4 h
        | no => exact h
      refine all _ ?_
      exact h2
  · left
    have e : i = items.length := by omega
    subst e
    refine ⟨stops rfl, ?_⟩
    rw [List.drop_length] at h2
    exact h2 G2 H2 σ2 t2 R2
end
end M

set_option Elab.async false
set_option linter.all false
set_option maxRecDepth 100000
set_option maxHeartbeats 4000000
/-! zip of two lists, tuples, texts in any mix. -/
namespace M
open PySem PySem.Spec PyProof.Rows L2 Sv

inductive Kd where
  | l | t | s
/-- what may be zipped: the value and its items -/
def ZV (K : PySem.W.Frag) (H : Hp) (k : Kd) (v : V) (xs : List V) : Prop := match k with
  | .l => ∃ a, v = .ref a ∧ SqL K H a xs
  | .t => ∃ a, v = .ref a ∧ SqT K H a xs
  | .s => ∃ x : Str, v = .str x ∧ xs = x.cps.toList.map fun c => V.str ⟨#[c]⟩
/-- an iterator of its own, drawing the items of v -/
structure Zs (P : Program) (w : World) (K : PySem.W.Frag) (k : Kd) (v : V) (xs : List V) (it : Addr) (own : List Addr) (Si : Nat → Heap → Prop) : Prop where
  live : ∀ i h, Si i h → ∃ o, h.get? it = some o ∧ ∀ c, o.data ≠ .cell c
  frame : ∀ i h h', Si i h → (∀ o, h.get? it = some o → h'.get? it = some o) → Si i h'
  src : ∀ (X : Cx), X.prog = P → X.w = w → X.K = K → ∀ (pins : List (Addr × Obj)) (s : Shared) (σ : L2.St) (H : Hp), Inv X pins σ H s → ZV K H k v xs → ∀ (i : Nat), Si i s.heap →
    ∃ (Pt : Nat → Value → Prop) (St : Nat → Heap → Prop), (∀ A : Around, A.handled = none → Draws P w A it (it :: own) xs.length Pt St) ∧ St i s.heap ∧ (∀ j h, St j h → Si j h) ∧ ∀ j u, Pt j u → ∃ x, xs[j]? = some x ∧ RelV x u
/-- what stands apart in a zip -/
structure ZAp (z TI TO i1 i2 : Addr) (o1 o2 : List Addr) : Prop where
  a1 : TI ≠ z
  a2 : TO ≠ z
  a3 : TI ≠ TO
  a4 : TI ≠ i1
  a5 : TI ≠ i2
  a6 : z ≠ i1
  a7 : z ≠ i2
  a8 : TO ≠ i1
  a9 : TO ≠ i2
  a10 : i1 ≠ i2
  b1 : ∀ c ∈ o1, c ≠ z ∧ c ≠ TO ∧ c ≠ i2
  b2 : ∀ c ∈ o2, c ≠ z ∧ c ≠ TO ∧ c ≠ i1
theorem ZAp.sep {z TI TO i1 i2 : Addr} {o1 o2 : List Addr} (D : ZAp z TI TO i1 i2 o1 o2) : ZipSep2 z TI TO i1 i2 (i1 :: o1) (i2 :: o2) where
  TIz := D.a1
  TOz := D.a2
  TITO := D.a3
  TIi1 := D.a4
  mem1 := List.mem_cons_self
  zf1 := fun h => (List.mem_cons.mp h).elim D.a6 fun m => (D.b1 z m).1 rfl
  Tf1 := fun h => (List.mem_cons.mp h).elim D.a8 fun m => (D.b1 TO m).2.1 rfl
  TIi2 := D.a5
  mem2 := List.mem_cons_self
  zf2 := fun h => (List.mem_cons.mp h).elim D.a7 fun m => (D.b2 z m).1 rfl
  Tf2 := fun h => (List.mem_cons.mp h).elim D.a9 fun m => (D.b2 TO m).2.1 rfl
  sep1_2 := fun h => (List.mem_cons.mp h).elim D.a10 fun m => (D.b2 i1 m).2.2 rfl
  sep2_1 := fun h => (List.mem_cons.mp h).elim (fun e => D.a10 e.symm) fun m => (D.b1 i2 m).2.2 rfl
def ItZ (K : PySem.W.Frag) (k1 k2 : Kd) (v1 v2 : V) (xs ys : List V) : It :=
  ⟨fun i H => (ZV K H k1 v1 xs ∧ ZV K H k2 v2 ys) ∧ i < min xs.length ys.length, fun i H v H' => ∃ T x y, v = .ref T ∧ H T = none ∧ H' = upd H T (.tup [x, y]) ∧ xs[i]? = some x ∧ ys[i]? = some y, fun i H => (ZV K H k1 v1 xs ∧ ZV K H k2 v2 ys) ∧ i = min xs.length ys.length⟩
theorem turn_z {P : Program} {w : World} {K : PySem.W.Frag} {elts : List Expr} {kk : Nat} {tpos : Pos} {k1 k2 : Kd} {v1 v2 : V} {xs ys : List V} {z TI TO i1 i2 : Addr} {o1 o2 : List Addr} {S1 S2 : Nat → Heap → Prop} (D : ZAp z TI TO i1 i2 o1 o2)
    (Z1 : Zs P w K k1 v1 xs i1 o1 S1) (Z2 : Zs P w K k2 v2 ys i2 o2 S2) :
    Turn P w K (.Tuple elts kk tpos) (ItZ K k1 k2 v1 v2 xs ys) [z, TI, TO, i1, i2] z (fun i h => IsZip h z TI TO .none ∧ IsTupOf2 h TI (.ref i1) (.ref i2) ∧ (∃ x y, IsTupOf2 h TO x y) ∧ S1 i h ∧ S2 i h) where
  mem := List.mem_cons_self
  obj := fun i h st c hc => by
    obtain ⟨hz, hTI, ⟨x, y, hTO⟩, t1, t2⟩ := st
    simp only [List.mem_cons, List.not_mem_nil, or_false] at hc
    rcases hc with rfl | rfl | rfl | rfl | rfl
    · exact ⟨_, hz, fun v q => nomatch q⟩
    · exact ⟨_, hTI, fun v q => nomatch q⟩
    · exact ⟨_, hTO, fun v q => nomatch q⟩
    · exact Z1.live i h t1
    · exact Z2.live i h t2
  keep := fun i h h' st k => by
    obtain ⟨hz, hTI, ⟨x, y, hTO⟩, t1, t2⟩ := st
    exact ⟨k z (by simp) _ hz, k TI (by simp) _ hTI, ⟨x, y, k TO (by simp) _ hTO⟩, Z1.frame i h h' t1 (k i1 (by simp)), Z2.frame i h h' t2 (k i2 (by simp))⟩
  item := by
    rintro X rfl rfl rfl calm i pins s σ H E I hfp ⟨hz, hTI, ⟨x0, y0, hTO⟩, t1, t2⟩ ⟨⟨g1, g2⟩, hlt⟩
    obtain ⟨Pt1, St1, D1, st1, back1, rel1⟩ := Z1.src X rfl rfl rfl pins s σ H I g1 i t1
    obtain ⟨Pt2, St2, D2, st2, back2, rel2⟩ := Z2.src X rfl rfl rfl pins s σ H I g2 i t2
    have hh := I.ok.hd calm
    refine wpAny_pyNext_zipD2_item D.sep (D1 X.A.in1 hh) (D2 X.A.in1 hh) hz hTI hTO st1 st2 (by omega) (by omega) fun u1 u2 h' tk p1 p2 c1 c2 c3 c4 c5 _ keep => ⟨_, rfl, ?_⟩
    obtain ⟨x, ex, rx⟩ := rel1 i u1 p1
    obtain ⟨y, ey, ry⟩ := rel2 i u2 p2
    refine wpAny_letOwnedTupleGo_zip (s := { s with heap := h', toks := tk }) c1 fun h2 zz same => ?_
    have lz : z < s.heap.objs.size := Heap.lt_size hz
    have lTO : TO < s.heap.objs.size := Heap.lt_size hTO
    have lTI : TI < s.heap.objs.size := Heap.lt_size hTI
    obtain ⟨oa, hoa, _⟩ := Z1.live i s.heap t1
    obtain ⟨ob, hob, _⟩ := Z2.live i s.heap t2
    have l1 : i1 < s.heap.objs.size := Heap.lt_size hoa
    have l2 : i2 < s.heap.objs.size := Heap.lt_size hob
    have tupN : h2.get? s.heap.objs.size = some { cls := .type "tuple", data := .seq #[u1, u2] } := (same.2 _ (Nat.ne_of_gt lz)).trans c5
    have new : ObjOk X.prog X.w (upd H s.heap.objs.size (.tup [x, y])) h2 s.heap.objs.size (.tup [x, y]) := ⟨by rw [sizeLine_eq]; show 2 ≤ 16777216; decide, [u1, u2], .cons rx (.cons ry .nil), ⟨_, tupN, rfl, _, rfl⟩⟩
    have stays : ∀ (b : Addr) (o : Obj), b ∉ [z, TI, TO, i1, i2] → s.heap.get? b = some o → h2.get? b = some o := fun b o hb q => by
      simp only [List.mem_cons, List.not_mem_nil, or_false, not_or] at hb
      exact (same.2 b hb.1).trans (keep b o hb.1 hb.2.2.1 hb.2.2.2.1 hb.2.2.2.2 q)
    have fr : ∀ b ∈ [z, TI, TO, i1, i2], b < s.heap.objs.size := fun b hb => by
      simp only [List.mem_cons, List.not_mem_nil, or_false] at hb
      rcases hb with rfl | rfl | rfl | rfl | rfl <;> assumption
    refine ⟨.ref s.heap.objs.size, _, I.turnedNew (t' := tk) stays hfp (Nat.le_refl _) new, rfl, ⟨_, x, y, rfl, I.hok.fresh (Nat.le_refl _), rfl, ex, ey⟩, ⟨zz, ?_, ⟨u1, u2, ?_⟩, ?_, ?_⟩, fun b hb => ?_⟩
    · exact (same.2 TI D.a1).trans (keep TI _ D.a1 D.a3 D.a4 D.a5 hTI)
    · exact (same.2 TO D.a2).trans c2
    · exact Z1.frame (i + 1) h' h2 (back1 _ _ c3) fun o q => (same.2 i1 (Ne.symm D.a6)).trans q
    · exact Z2.frame (i + 1) h' h2 (back2 _ _ c4) fun o q => (same.2 i2 (Ne.symm D.a7)).trans q
    · exact (upd_ne (Nat.ne_of_lt (fr b hb))).trans (hfp b hb).1
  done := by
    rintro X rfl rfl rfl calm i pins s σ H E I hfp ⟨hz, hTI, ⟨x0, y0, hTO⟩, t1, t2⟩ ⟨⟨g1, g2⟩, he⟩
    obtain ⟨Pt1, St1, D1, st1, back1, rel1⟩ := Z1.src X rfl rfl rfl pins s σ H I g1 i t1
    obtain ⟨Pt2, St2, D2, st2, back2, rel2⟩ := Z2.src X rfl rfl rfl pins s σ H I g2 i t2
    have hh := I.ok.hd calm
    refine wpAny_pyNext_zipD2_end D.sep (D1 X.A.in1 hh) (D2 X.A.in1 hh) hz hTI hTO st1 st2 (by omega) (by omega) (by omega) fun h' tk keep => ⟨rfl, ?_⟩
    refine I.turnedL (t' := tk) (fun b o hb q => ?_) hfp
    simp only [List.mem_cons, List.not_mem_nil, or_false, not_or] at hb
    exact keep b o hb.1 hb.2.2.1 hb.2.2.2.1 hb.2.2.2.2 q
  self := fun A i s Q E st h => wpAny_pyIter_zip st.1 h
section
variable {P : Program} {w : World} {K : PySem.W.Frag} {v : V} {xs : List V} {it : Addr}
/-- a value that may be zipped, as zip(..) meets it -/
theorem zv_src {X : Cx} {pins : List (Addr × Obj)} {σ : L2.St} {H : Hp} {s : Shared} {u : Value} {k : Kd} (I : Inv X pins σ H s) (h : ZV X.K H k v xs) (r : RelV v u) :
    ∃ (o : Obj) (Hs : Heap → Prop) (own : List Addr), Begins u o Hs ∧ Hs s.heap ∧ (∀ b ∈ own, b < s.heap.objs.size) ∧ ∀ it, s.heap.objs.size ≤ it → ∃ Si : Nat → Heap → Prop, Zs X.prog X.w X.K k v xs it own Si ∧ ∀ h', h'.get? it = some o → Si 0 h' := by
  cases k with
  | l =>
    obtain ⟨a, rfl, hq⟩ := h
    cases r
    obtain ⟨its, rv, p, _⟩ := I.list hq
    have la : a < s.heap.objs.size := by
      obtain ⟨o, n, ho, _⟩ := p
      exact Heap.lt_size ho
    refine ⟨_, _, [a], begins_list a its.toArray, p.isList, fun b hb => (List.mem_singleton.mp hb) ▸ la, fun it hit => ⟨fun i h => h.IsListIter it a i, ?_, fun h' e => ⟨_, e, rfl, rfl⟩⟩⟩
    have ne : a ≠ it := Nat.ne_of_lt (Nat.lt_of_lt_of_le la hit)
    refine ⟨fun i h st => ?_, fun i h h' st k => st.at fun o q => k o q, ?_⟩
    · obtain ⟨o, ho, _, hd⟩ := st
      exact ⟨o, ho, fun c q => by rw [hd] at q; cases q⟩
    · rintro Y e1 e2 e3 pins s2 σ2 H2 I2 ⟨b, eb, hz⟩ i st
      cases eb
      rw [← e3] at hz
      obtain ⟨its2, rv2, p2, _⟩ := I2.list hz
      have size : its2.toArray.size = xs.length := by rw [List.size_toArray, rv2.length]
      refine ⟨fun j v => its2.toArray[j]? = some v, fun j h => h.IsListIter it a j ∧ h.IsList a its2.toArray, fun A hh => size ▸ Draws.list hh it a ne its2.toArray, ⟨st, p2.isList⟩, fun j h st => st.1, fun j u q => ?_⟩
      have q' : its2[j]? = some u := by simpa using q
      have lt : j < xs.length := by rw [rv2.length]; exact (List.getElem?_eq_some_iff.mp q').1
      obtain ⟨u', hu, ru⟩ := rv2.get (i := j) (x := xs[j]) (by simp [lt])
      rw [q'] at hu
      exact ⟨xs[j], by simp [lt], by rw [Option.some.inj hu]; exact ru⟩
  | t =>
    obtain ⟨a, rfl, hq⟩ := h
    cases r
    obtain ⟨its, rv, p, _⟩ := I.tuple hq
    have la : a < s.heap.objs.size := p.lt
    refine ⟨_, _, [a], begins_tuple a its.toArray, p, fun b hb => (List.mem_singleton.mp hb) ▸ la, fun it hit => ⟨fun i h => h.IsTupleIter it a i, ?_, fun h' e => ⟨_, e, rfl, rfl⟩⟩⟩
    have ne : a ≠ it := Nat.ne_of_lt (Nat.lt_of_lt_of_le la hit)
    refine ⟨fun i h st => ?_, fun i h h' st k => st.at fun o q => k o q, ?_⟩
    · obtain ⟨o, ho, _, hd⟩ := st
      exact ⟨o, ho, fun c q => by rw [hd] at q; cases q⟩
    · rintro Y e1 e2 e3 pins s2 σ2 H2 I2 ⟨b, eb, hz⟩ i st
      cases eb
      rw [← e3] at hz
      obtain ⟨its2, rv2, p2, _⟩ := I2.tuple hz
      have size : its2.toArray.size = xs.length := by rw [List.size_toArray, rv2.length]
      refine ⟨fun j v => its2.toArray[j]? = some v, fun j h => h.IsTupleIter it a j ∧ h.IsTuple a its2.toArray, fun A hh => size ▸ Draws.tuple hh it a ne its2.toArray, ⟨st, p2⟩, fun j h st => st.1, fun j u q => ?_⟩
      have q' : its2[j]? = some u := by simpa using q
      have lt : j < xs.length := by rw [rv2.length]; exact (List.getElem?_eq_some_iff.mp q').1
      obtain ⟨u', hu, ru⟩ := rv2.get (i := j) (x := xs[j]) (by simp [lt])
      rw [q'] at hu
      exact ⟨xs[j], by simp [lt], by rw [Option.some.inj hu]; exact ru⟩
  | s =>
    obtain ⟨x, rfl, rfl⟩ := h
    obtain ⟨t, rfl⟩ := r
    refine ⟨_, _, [], begins_text x t, trivial, fun b hb => (nomatch hb), fun it hit => ⟨fun i h => h.IsStrIter it (strIterType x) x t i, ?_, fun h' e => ⟨_, e, rfl, rfl⟩⟩⟩
    refine ⟨fun i h st => ?_, fun i h h' st k => ?_, ?_⟩
    · obtain ⟨o, ho, _, hd⟩ := st
      exact ⟨o, ho, fun c q => by rw [hd] at q; cases q⟩
    · obtain ⟨o, ho, q⟩ := st
      exact ⟨o, k o ho, q⟩
    · rintro Y e1 e2 e3 pins s2 σ2 H2 I2 hz i st
      have size : (x.cps.toList.map fun c => V.str ⟨#[c]⟩).length = x.cps.size := by rw [List.length_map, Array.length_toList]
      refine ⟨_, _, fun A hh => size ▸ Draws.text hh it x t, st, fun j h st => st, fun j u q => ?_⟩
      obtain ⟨c, k, hc, rfl⟩ := q
      refine ⟨.str ⟨#[c]⟩, ?_, k, rfl⟩
      rw [List.getElem?_map, Array.getElem?_toList, hc]
      rfl
end
theorem zap_new (n : Nat) {o1 o2 : List Nat} (h1 : ∀ b ∈ o1, b < n) (h2 : ∀ b ∈ o2, b < n) : ZAp (n + 4) (n + 2) (n + 3) n (n + 1) o1 o2 :=
  ⟨(by omega : (n + 2 : Nat) ≠ n + 4), (by omega : (n + 3 : Nat) ≠ n + 4), (by omega : (n + 2 : Nat) ≠ n + 3), (by omega : (n + 2 : Nat) ≠ n), (by omega : (n + 2 : Nat) ≠ n + 1), (by omega : (n + 4 : Nat) ≠ n), (by omega : (n + 4 : Nat) ≠ n + 1), (by omega : (n + 3 : Nat) ≠ n), (by omega : (n + 3 : Nat) ≠ n + 1), (by omega : (n : Nat) ≠ n + 1),
    fun c hc => ⟨Nat.ne_of_lt (by have := h1 c hc; omega), Nat.ne_of_lt (by have := h1 c hc; omega), Nat.ne_of_lt (by have := h1 c hc; omega)⟩, fun c hc => ⟨Nat.ne_of_lt (by have := h2 c hc; omega), Nat.ne_of_lt (by have := h2 c hc; omega), Nat.ne_of_lt (by have := h2 c hc; omega)⟩⟩
section
variable {X : Cx} {e e2 : Expr} {ta : TA} {p pos tpos : Pos} {elts : List Expr} {kk : Nat}
def iZipU (K : PySem.W.Frag) (ta : TA) : TI := fun σ H R => ta σ H fun vs H1 => ∃ (k1 k2 : Kd) (v1 v2 : V) (xs ys : List V), vs = [v1, v2] ∧ ZV K H1 k1 v1 xs ∧ ZV K H1 k2 v2 ys ∧ R (ItZ K k1 k2 v1 v2 xs ys) H1
theorem pi_zipU (hg : Gl X "zip") (hm : X.mg "zip" = none) (ha : PA X [e, e2] ta) (hs : starEach [e, e2] X.env = (false, eval e X.env) :: starEach [e2] X.env := by rfl) (hpl : (backTo pos (starEach [e2] X.env)).any (·.1) = false := by rfl) :
    PI X (.Tuple elts kk tpos) (.Call (.Name "zip" p) [e, e2] [] pos) (iZipU X.K ta) := by
  refine ⟨fun pins s σ H R I h => ?_⟩
  refine Call_ (ld_blt I hg hm boot_zip (PyProof.Rows.callWith_type1 (thn (ha.run pos pins s σ H _ I h) fun us s1 ⟨vs, H1, I1, r1, k1, k2, v1, v2, xs, ys, ev, z1, z2, q⟩ => ?_) hs hpl))
  subst ev
  cases r1 with
  | cons ra rr =>
    cases rr with
    | cons rb rr =>
      cases rr
      obtain ⟨o1, Hs1, w1, B1, b1, lt1, S1⟩ := zv_src I1 z1 ra
      obtain ⟨o2, Hs2, w2, B2, b2, lt2, S2⟩ := zv_src I1 z2 rb
      obtain ⟨Si1, Z1, st1⟩ := S1 s1.heap.objs.size (Nat.le_refl _)
      obtain ⟨Si2, Z2, st2⟩ := S2 (s1.heap.objs.size + 1) (Nat.le_succ _)
      refine zip_begins2 B1 B2 b1 b2 fun h' hz hTI hTO g1 g2 _ keep => wpAny_pyIter_zip hz ?_
      have D : ZAp (s1.heap.objs.size + 4) (s1.heap.objs.size + 2) (s1.heap.objs.size + 3) s1.heap.objs.size (s1.heap.objs.size + 1) w1 w2 := zap_new _ lt1 lt2
      refine ⟨_, _, _, _, H1, rfl, I1.kept (t' := s1.toks) keep, turn_z D Z1 Z2, ⟨hz, hTI, ⟨_, _, hTO⟩, st1 h' g1, st2 h' g2⟩, fun b hb => ?_, q⟩
      have ge : s1.heap.objs.size ≤ b := by
        simp only [List.mem_cons, List.not_mem_nil, or_false] at hb
        rcases hb with rfl | rfl | rfl | rfl | rfl <;> omega
      exact I1.fpOk ge (I1.hok.fresh ge)
end
end M

set_option Elab.async false
set_option linter.all false
set_option maxRecDepth 100000
set_option maxHeartbeats 4000000
/-! What is walked; comprehensions; while. -/
namespace M
open PySem PySem.Spec PyProof.Rows L2 Sv

theorem PI.mono {X : Cx} {tg e : Expr} {t t' : TI} (h : PI X tg e t) (k : ∀ σ H R, t' σ H R → t σ H R) : PI X tg e t' := ⟨fun pins s σ H R I w => h.run pins s σ H R I (k σ H R w)⟩
theorem PI.or {X : Cx} {tg e : Expr} {t t' : TI} (h : PI X tg e t) (h' : PI X tg e t') : PI X tg e (fun σ H R => t σ H R ∨ t' σ H R) := ⟨fun pins s σ H R I w => w.elim (h.run pins s σ H R I) (h'.run pins s σ H R I)⟩
/-- the items of data -/
def itemsD : D → Option (List D)
  | .list ds => some ds
  | .tuple ds => some ds
  | .str z => some ((Sv.signs z).map .str)
  | _ => none
def optI (s : S) : Option (List D) → ER (List D)
  | some ds => .ok ds s
  | none => .no
def its1 (s : S) : Vl → ER (List D)
  | .d x => optI s (itemsD x)
  | .s ns => .ok (ns.map .int) s
  | _ => .no
def seqI (fa : S → ER Vl) : S → ER (List D) := fun s => (fa s).bind fun a s1 => its1 s1 a
def rngL (lo : Int) (n : Nat) : List D := (List.range n).map fun i => .int (lo + (i : Nat))
/-- a whole number of a size that is no trouble -/
def smI (j : Int) : Bool := decide (j.natAbs < 1073741824)
theorem smI_ok {j : Int} (h : smI j = true) : -(2 ^ 62) ≤ j ∧ j < 2 ^ 62 := by
  have := of_decide_eq_true h
  constructor <;> omega
def rng1I (fa : S → ER (List Vl)) : S → ER (List D) := fun s => (fa s).bind fun vs s1 => match rdAll s1 vs with
  | some [.int j] => if smI j = true then .ok (rngL 0 j.toNat) s1 else .no
  | _ => .no
def rng2I (fa : S → ER (List Vl)) : S → ER (List D) := fun s => (fa s).bind fun vs s1 => match rdAll s1 vs with
  | some [.int i, .int j] => if smI i = true ∧ smI j = true then .ok (rngL i (j - i).toNat) s1 else .no
  | _ => .no
def enumL : Nat → List D → List D
  | _, [] => []
  | k, x :: r => .tuple [.int (k : Nat), x] :: enumL (k + 1) r
def enI (fa : S → ER (List Vl)) : S → ER (List D) := fun s => (fa s).bind fun vs s1 => match vs with
  | [.d x] => optI s1 ((itemsD x).map (enumL 0))
  | _ => .no
def zipL : List D → List D → List D
  | x :: xs, y :: ys => .tuple [x, y] :: zipL xs ys
  | _, _ => []
def zip2 (s : S) (x y : D) : ER (List D) := match itemsD x with
  | some xs => optI s ((itemsD y).map (zipL xs))
  | none => .no
def zipI (fa : S → ER (List Vl)) : S → ER (List D) := fun s => (fa s).bind fun vs s1 => match vs with
  | [.d x, .d y] => zip2 s1 x y
  | _ => .no
theorem enumL_at : ∀ {ds : List D} {k i : Nat} {x : D}, (enumL k ds)[i]? = some x → ∃ y, ds[i]? = some y ∧ x = .tuple [.int ((k + i : Nat) : Int), y]
  | [], _, _, _, h => by simp [enumL] at h
  | y :: r, k, 0, x, h => by
    simp [enumL] at h
    exact ⟨y, rfl, h.symm⟩
  | y :: r, k, i + 1, x, h => by
    have h : (enumL (k + 1) r)[i]? = some x := by simpa [enumL] using h
    obtain ⟨z, h1, h2⟩ := enumL_at h
    refine ⟨z, by simpa using h1, ?_⟩
    rw [h2, show k + 1 + i = k + (i + 1) by omega]
theorem enumL_len : ∀ (ds : List D) (k : Nat), (enumL k ds).length = ds.length
  | [], _ => rfl
  | y :: r, k => by rw [enumL, List.length_cons, List.length_cons, enumL_len r]
theorem zipL_at : ∀ {xs ys : List D} {i : Nat} {x : D}, (zipL xs ys)[i]? = some x → ∃ a b, xs[i]? = some a ∧ ys[i]? = some b ∧ x = .tuple [a, b]
  | [], _, _, _, h => by simp [zipL] at h
  | _ :: _, [], _, _, h => by simp [zipL] at h
  | a :: xs, b :: ys, 0, x, h => by
    simp [zipL] at h
    exact ⟨a, b, rfl, rfl, h.symm⟩
  | a :: xs, b :: ys, i + 1, x, h => by
    have h : (zipL xs ys)[i]? = some x := by simpa [zipL] using h
    obtain ⟨c, d, h1, h2, h3⟩ := zipL_at h
    exact ⟨c, d, by simpa using h1, by simpa using h2, h3⟩
theorem zipL_len : ∀ (xs ys : List D), (zipL xs ys).length = min xs.length ys.length
  | [], ys => by cases ys <;> simp [zipL]
  | _ :: _, [] => by simp [zipL]
  | a :: xs, b :: ys => by rw [zipL, List.length_cons, List.length_cons, List.length_cons, zipL_len xs ys]; omega
section
variable {X : Cx} {K : PySem.W.Frag} {xi : XI} {W : WX} {G H G' H' G1 H1 G0 H0 : Hp} {σ σ' σ1 σ0 : Ss} {s s' s1 s0 : S} {e e2 o tg iter elt : Expr} {es elts : List Expr} {fa fb : S → ER Vl} {fr : S → ER (List Vl)} {fi : S → ER (List PyData)} {pos p tpos : Pos} {i kk : Nat}
/-- a walk that lays nothing -/
theorem iter_walk {J : It} {items : List PyData} {n : Nat} (hn : items.length = n) {Gd : Hp → Prop} {Y : Nat → Hp → V → Hp → Prop} (w : Walk J n Gd Y) (hg : ∀ G2 H2, Same G G2 → Same G2 H2 → Gd H2)
    (hy : ∀ i x G2 H2 v H3, items[i]? = some x → Same G G2 → Same G2 H2 → Y i H2 v H3 → ∃ G3, Same G2 G3 ∧ Same G3 H3 ∧ Same H2 H3 ∧ (∀ b, G2 b = none → H2 b ≠ none → G3 b = none) ∧ Rp K G3 v x) : IterOk K G J items := by
  intro i G2 H2 g1 g2
  refine ⟨fun x hx => ?_, fun e => ?_⟩
  · have hi : i < n := by rw [← hn]; exact (List.getElem?_eq_some_iff.mp hx).1
    exact ⟨w.goes i H2 hi (hg G2 H2 g1 g2), fun v H3 y => hy i x G2 H2 v H3 hx g1 g2 (w.yields i H2 v H3 hi (hg G2 H2 g1 g2) y)⟩
  · rw [e, hn]
    exact w.stops H2 (hg G2 H2 g1 g2)
theorem still_turn {G2 H2 : Hp} {v : V} {x : D} (g : Same G2 H2) (r : Rp K G2 v x) : ∃ G3, Same G2 G3 ∧ Same G3 H2 ∧ Same H2 H2 ∧ (∀ b, G2 b = none → H2 b ≠ none → G3 b = none) ∧ Rp K G3 v x := ⟨G2, Same.refl _, g, Same.refl _, fun _ h _ => h, r⟩
theorem iter_list {a : Addr} {vs : List V} {ds : List D} (h : SqL K G a vs) (ha : RpAll K G vs ds) : IterOk K G (Itl K a) ds :=
  iter_walk (n := vs.length) ha.len.symm walk_list (fun G2 H2 g1 g2 => same_l (g1.trans g2) h) fun i x G2 H2 v H3 hx g1 g2 y => by
    obtain ⟨rfl, hv⟩ := y
    obtain ⟨v', e1, r⟩ := ha.at hx
    rw [hv] at e1
    cases e1
    exact still_turn g2 (Rp.same g1 r)
theorem iter_tup {a : Addr} {vs : List V} {ds : List D} (h : SqT K G a vs) (ha : RpAll K G vs ds) : IterOk K G (Itt K a) ds :=
  iter_walk (n := vs.length) ha.len.symm walk_tup (fun G2 H2 g1 g2 => same_t (g1.trans g2) h) fun i x G2 H2 v H3 hx g1 g2 y => by
    obtain ⟨rfl, hv⟩ := y
    obtain ⟨v', e1, r⟩ := ha.at hx
    rw [hv] at e1
    cases e1
    exact still_turn g2 (Rp.same g1 r)
theorem one_le : (tx [c]).length ≤ sizeLine := by rw [tx_len, sizeLine_eq]; exact (by decide : 1 ≤ 16777216)
theorem iter_str {z : Str} : IterOk K G (Its z) ((Sv.signs z).map .str) :=
  iter_walk (n := z.cps.size) (by rw [List.length_map, signs_len]) walk_str (fun _ _ _ _ => trivial) fun i x G2 H2 v H3 hx g1 g2 y => by
    obtain ⟨rfl, c, hc, rfl⟩ := y
    refine still_turn g2 ?_
    have e : x = .str (tx [c]) := by
      rw [Sv.signs_map, List.map_map, List.getElem?_map, Array.getElem?_toList, hc] at hx
      exact (Option.some.inj hx).symm
    subst e
    exact .str one_le
theorem iter_range {lo : Int} {n : Nat} : IterOk K G (Itr lo n) (rngL lo n) :=
  iter_walk (n := n) (by unfold rngL; simp) walk_range (fun _ _ _ _ => trivial) fun i x G2 H2 v H3 hx g1 g2 y => by
    obtain ⟨rfl, rfl⟩ := y
    refine still_turn g2 ?_
    unfold rngL at hx
    rw [List.getElem?_map] at hx
    have hi : i < n := by
      rcases Nat.lt_or_ge i n with z | z
      · exact z
      · rw [List.getElem?_eq_none (by simpa using z)] at hx; cases hx
    rw [List.getElem?_range hi] at hx
    cases hx
    exact .int _
theorem ri_seq (ha : PE X iter (tE K xi W fa)) (hK : X.K = K := by rfl) : PI X tg iter (tI K xi W (seqI fa)) := by
  subst hK
  refine PI.mono (PI.or (pi_list ha) (PI.or (pi_tup ha) (pi_str ha))) fun σ H Q h => ?_
  obtain ⟨G, s, R, h⟩ := h
  cases q : fa s with
  | no => rw [show seqI fa s = ER.no from by unfold seqI; rw [q]; rfl] at h; exact h.elim
  | er e s1 =>
    rw [show seqI fa s = ER.er e s1 from by unfold seqI; rw [q]; rfl] at h
    exact .inl ⟨G, s, R, by rw [q]; exact h⟩
  | ok va s1 =>
    have h : Po X.K xi W (rI X.K) G H σ s (its1 s1 va) Q := by
      have e : seqI fa s = its1 s1 va := by unfold seqI; rw [q]; rfl
      rw [← e]; exact h
    cases va with
    | d x =>
      cases x with
      | list ds =>
        refine .inl ⟨G, s, R, ?_⟩
        rw [q]
        intro v G1 H1 t1 R1 r
        have r : Rp X.K G1 v (.list ds) := r
        cases r with
        | lst w1 w2 => exact ⟨_, rfl, ⟨_, .inl (.inl (R1.gh _ _ w1))⟩, h _ G1 H1 t1 R1 (iter_list (.inl (.inl w1)) w2)⟩
      | tuple ds =>
        refine .inr (.inl ⟨G, s, R, ?_⟩)
        rw [q]
        intro v G1 H1 t1 R1 r
        have r : Rp X.K G1 v (.tuple ds) := r
        cases r with
        | tup w1 w2 => exact ⟨_, rfl, ⟨_, same_t R1.gh w1⟩, h _ G1 H1 t1 R1 (iter_tup w1 w2)⟩
      | str z =>
        refine .inr (.inr ⟨G, s, R, ?_⟩)
        rw [q]
        intro v G1 H1 t1 R1 r
        have r : Rp X.K G1 v (.str z) := r
        cases r with
        | str w1 => exact ⟨_, rfl, h _ G1 H1 t1 R1 iter_str⟩
      | none => exact h.elim
      | bool b => exact h.elim
      | int b => exact h.elim
      | dict b => exact h.elim
    | s ns =>
      refine .inl ⟨G, s, R, ?_⟩
      rw [q]
      intro v G1 H1 t1 R1 r
      obtain ⟨a, rfl, hs⟩ := r
      refine ⟨a, rfl, ⟨_, same_l R1.gh hs⟩, h _ G1 H1 t1 R1 (iter_list hs ?_)⟩
      have : ∀ ns : List Int, RpAll X.K G1 (ns.map V.int) (ns.map PyData.int) := fun ns => by
        induction ns with
        | nil => exact .nil
        | cons n ns ih => exact .cons (.int n) ih
      exact this ns
    | o f b => exact h.elim
    | r i => exact h.elim
    | x e => exact h.elim
theorem ri_rng1 {a : Expr} (hg : Gl X "range") (hm : X.mg "range" = none) (ha : PA X [a] (tA K xi W fr)) (hs : starEach [a] X.env = [(false, eval a X.env)] := by rfl) : PI X tg (.Call (.Name "range" p) [a] [] pos) (tI K xi W (rng1I fr)) := by
  refine PI.mono (pi_range1 hg hm ha hs) fun σ H Q h => ?_
  obtain ⟨G, s, R, h⟩ := h
  refine ⟨G, s, R, Po.bind h backs_I fun va s1 _ xs G1 H1 t1 R1 ra h1 => ?_⟩
  split at h1
  · rename_i j e
    split at h1
    · rename_i c
      obtain ⟨v, rfl, r⟩ := (rdAll_ok R1 ra.all e).one
      cases r
      exact ⟨j, rfl, (smI_ok c).1, (smI_ok c).2, h1 _ G1 H1 .refl R1 iter_range⟩
    · exact h1.elim
  · exact h1.elim
theorem ri_rng2 {a b : Expr} (hg : Gl X "range") (hm : X.mg "range" = none) (ha : PA X [a, b] (tA K xi W fr)) (hs : starEach [a, b] X.env = [(false, eval a X.env), (false, eval b X.env)] := by rfl) (hs2 : starEach [b] X.env = [(false, eval b X.env)] := by rfl) :
    PI X tg (.Call (.Name "range" p) [a, b] [] pos) (tI K xi W (rng2I fr)) := by
  refine PI.mono (pi_range2 hg hm ha hs hs2) fun σ H Q h => ?_
  obtain ⟨G, s, R, h⟩ := h
  refine ⟨G, s, R, Po.bind h backs_I fun va s1 _ xs G1 H1 t1 R1 ra h1 => ?_⟩
  split at h1
  · rename_i i j e
    split at h1
    · rename_i c
      obtain ⟨v, w, rfl, r1, r2⟩ := (rdAll_ok R1 ra.all e).two
      cases r1
      cases r2
      exact ⟨i, j, rfl, ⟨(smI_ok c.1).1, (smI_ok c.1).2, (smI_ok c.2).1, (smI_ok c.2).2⟩, h1 _ G1 H1 .refl R1 iter_range⟩
    · exact h1.elim
  · exact h1.elim
/-- a turn that lays a pair -/
theorem pair_turn {G2 H2 H3 : Hp} {T : Addr} {u v : V} {x y : D} (g : Same G2 H2) (hT : H2 T = none) (e : H3 = upd H2 T (.tup [u, v])) (r1 : Rp K G2 u x) (r2 : Rp K G2 v y) :
    ∃ G3, Same G2 G3 ∧ Same G3 H3 ∧ Same H2 H3 ∧ (∀ b, G2 b = none → H2 b ≠ none → G3 b = none) ∧ Rp K G3 (.ref T) (.tuple [x, y]) := by
  subst e
  have gT : G2 T = none := by
    cases q : G2 T with
    | none => rfl
    | some o => rw [g T o q] at hT; cases hT
  refine ⟨upd G2 T (.tup [u, v]), Same.new gT, Same.both g, Same.new hT, fun b h1 h2 => ?_, .tup (.inl (.inl upd_same)) (.cons (Rp.same (Same.new gT) r1) (.cons (Rp.same (Same.new gT) r2) .nil))⟩
  rw [upd_ne (fun e => h2 (by rw [e]; exact hT))]
  exact h1
/-- what data may be zipped or told with its numbers -/
theorem zv_of {v : V} {x : D} {ds : List D} (r : Rp K G v x) (e : itemsD x = some ds) : ∃ (k : Kd) (vs : List V), RpAll K G vs ds ∧ ∀ H2, Same G H2 → ZV K H2 k v vs := by
  cases r with
  | @lst a vs _ w1 w2 => cases e; exact ⟨.l, vs, w2, fun H2 g => ⟨a, rfl, .inl (.inl (g _ _ w1))⟩⟩
  | @tup a vs _ w1 w2 => cases e; exact ⟨.t, vs, w2, fun H2 g => ⟨a, rfl, same_t g w1⟩⟩
  | @str z hz =>
    cases e
    refine ⟨.s, z.cps.toList.map fun c => V.str ⟨#[c]⟩, ?_, fun H2 g => ⟨z, rfl, rfl⟩⟩
    have := rp_strs (K := K) (G := G) (ys := Sv.signs z) fun y m => by
      obtain ⟨c, _, rfl⟩ := List.mem_map.mp m
      exact one_le
    rw [Sv.signs_map, List.map_map] at this
    rw [Sv.signs_map]
    exact this
  | _ => cases e
theorem ri_enum (hg : Gl X "enumerate") (hm : X.mg "enumerate" = none) (ha : PA X [e] (tA K xi W fr)) (hK : X.K = K := by rfl) (hs : starEach [e] X.env = [(false, eval e X.env)] := by rfl) : PI X (.Tuple elts kk tpos) (.Call (.Name "enumerate" p) [e] [] pos) (tI K xi W (enI fr)) := by
  subst hK
  refine PI.mono (PI.or (pi_enum hg hm ha hs) (PI.or (pi_enumT hg hm ha hs) (pi_enumS hg hm ha hs))) fun σ H Q h => ?_
  obtain ⟨G, s, R, h⟩ := h
  cases q : fr s with
  | no => rw [show enI fr s = ER.no from by unfold enI; rw [q]; rfl] at h; exact h.elim
  | er e s1 =>
    rw [show enI fr s = ER.er e s1 from by unfold enI; rw [q]; rfl] at h
    exact .inl ⟨G, s, R, by rw [q]; exact h⟩
  | ok va s1 =>
    match va, q with
    | [.d x], q =>
      have h : Po X.K xi W (rI X.K) G H σ s (optI s1 ((itemsD x).map (enumL 0))) Q := by
        have e : enI fr s = optI s1 ((itemsD x).map (enumL 0)) := by unfold enI; rw [q]; rfl
        rw [← e]; exact h
      have one : ∀ {vs : List V} {G1 H1 : Hp}, rAs X.K xi H σ s G1 H1 σ s1 vs [.d x] → ∃ v, vs = [v] ∧ Rp X.K G1 v x := fun {vs G1 H1} r => by
        obtain ⟨all, _⟩ := r
        cases all with
        | cons a r => cases r; exact ⟨_, rfl, a⟩
      have pairs : ∀ {G1 : Hp} {J : It} {ds : List D} {vs : List V} {Gd : Hp → Prop}, RpAll X.K G1 vs ds → (∀ H2, Same G1 H2 → Gd H2) → (∀ i H2, i < ds.length → Gd H2 → J.go i H2) → (∀ H2, Gd H2 → J.stop ds.length H2) →
          (∀ i H2 v H3, i < ds.length → Gd H2 → J.yld i H2 v H3 → ∃ T u, v = .ref T ∧ H2 T = none ∧ H3 = upd H2 T (.tup [.int (i : Nat), u]) ∧ vs[i]? = some u) → IterOk X.K G1 J (enumL 0 ds) := fun {G1 J ds vs Gd} a hg go st yl i G2 H2 g1 g2 => by
        have gd := hg H2 (g1.trans g2)
        refine ⟨fun y hy => ?_, fun e => by rw [e, enumL_len]; exact st H2 gd⟩
        have hi : i < ds.length := by rw [← enumL_len ds 0]; exact (List.getElem?_eq_some_iff.mp hy).1
        refine ⟨go i H2 hi gd, fun v H3 yy => ?_⟩
        obtain ⟨T, u, rfl, hT, eH, hu⟩ := yl i H2 v H3 hi gd yy
        obtain ⟨z, h1, rfl⟩ := enumL_at hy
        obtain ⟨u', e1, ru⟩ := a.at h1
        rw [hu] at e1
        cases e1
        have := pair_turn (x := .int ((0 + i : Nat) : Int)) g2 hT eH (by rw [Nat.zero_add]; exact .int _) (Rp.same g1 ru)
        exact this
      cases x with
      | list ds =>
        refine .inl ⟨G, s, R, ?_⟩
        rw [q]
        intro vs G1 H1 t1 R1 r
        obtain ⟨v, ev, rr⟩ := one r
        subst ev
        have rr : Rp X.K G1 v (.list ds) := rr
        cases rr with
        | @lst a us _ w1 w2 =>
          refine ⟨a, us, rfl, .inl (.inl (R1.gh _ _ w1)), h _ G1 H1 t1 R1 ?_⟩
          refine pairs (Gd := fun H2 => SqL X.K H2 a us) w2 (fun H2 g => .inl (.inl (g _ _ w1))) (fun i H2 hi hq => ⟨us, us[i]'(by rw [w2.len]; exact hi), hq, by simp⟩) (fun H2 hq => ⟨us, hq, by rw [w2.len]; exact Nat.le_refl _⟩) fun i H2 v H3 hi hq y => ?_
          obtain ⟨T, u, e1, e2, e3, e4⟩ := y
          exact ⟨T, u, e1, e2, e3, e4 us hq⟩
      | tuple ds =>
        refine .inr (.inl ⟨G, s, R, ?_⟩)
        rw [q]
        intro vs G1 H1 t1 R1 r
        obtain ⟨v, ev, rr⟩ := one r
        subst ev
        have rr : Rp X.K G1 v (.tuple ds) := rr
        cases rr with
        | @tup a us _ w1 w2 =>
          refine ⟨a, us, rfl, same_t R1.gh w1, h _ G1 H1 t1 R1 ?_⟩
          refine pairs (Gd := fun H2 => SqT X.K H2 a us) w2 (fun H2 g => same_t g w1) (fun i H2 hi hq => ⟨hq, by rw [w2.len]; exact hi⟩) (fun H2 hq => ⟨hq, by rw [w2.len]⟩) fun i H2 v H3 hi hq y => ?_
          obtain ⟨T, e1, e2, e3⟩ := y
          exact ⟨T, _, e1, e2, e3, by show us[i]? = some (us.getD i .non); rw [List.getD_eq_getElem?_getD, List.getElem?_eq_getElem (by rw [w2.len]; exact hi)]; rfl⟩
      | str z =>
        refine .inr (.inr ⟨G, s, R, ?_⟩)
        rw [q]
        intro vs G1 H1 t1 R1 r
        obtain ⟨v, ev, rr⟩ := one r
        subst ev
        have rr : Rp X.K G1 v (.str z) := rr
        cases rr with
        | str hz =>
          have sz : ((Sv.signs z).map PyData.str).length = z.cps.size := by rw [List.length_map, signs_len]
          refine ⟨z, rfl, h _ G1 H1 t1 R1 ?_⟩
          refine pairs (vs := (Sv.signs z).map V.str) (Gd := fun _ => True) (rp_strs fun y m => by
            obtain ⟨c, _, rfl⟩ := List.mem_map.mp m
            exact one_le) (fun _ _ => trivial) (fun i H2 hi hq => ⟨hq, by rw [← sz]; exact hi⟩) (fun H2 hq => ⟨hq, sz⟩) fun i H2 v H3 hi hq y => ?_
          obtain ⟨T, e1, e2, e3⟩ := y
          refine ⟨T, _, e1, e2, e3, ?_⟩
          rw [sz] at hi
          show ((Sv.signs z).map V.str)[i]? = some (V.str ⟨#[z.cps.getD i 0]⟩)
          rw [Sv.signs_map, List.map_map, List.getElem?_map, Array.getElem?_toList, Array.getD_eq_getD_getElem?, Array.getElem?_eq_getElem hi]
          rfl
      | none => exact h.elim
      | bool b => exact h.elim
      | int b => exact h.elim
      | dict b => exact h.elim
    | [], q => rw [show enI fr s = ER.no from by unfold enI; rw [q]; rfl] at h; exact h.elim
    | .o _ _ :: _, q => rw [show enI fr s = ER.no from by unfold enI; rw [q]; rfl] at h; exact h.elim
    | .r _ :: _, q => rw [show enI fr s = ER.no from by unfold enI; rw [q]; rfl] at h; exact h.elim
    | .x _ :: _, q => rw [show enI fr s = ER.no from by unfold enI; rw [q]; rfl] at h; exact h.elim
    | .s _ :: _, q => rw [show enI fr s = ER.no from by unfold enI; rw [q]; rfl] at h; exact h.elim
    | .d _ :: _ :: _, q => rw [show enI fr s = ER.no from by unfold enI; rw [q]; rfl] at h; exact h.elim
theorem ri_zip (hg : Gl X "zip") (hm : X.mg "zip" = none) (ha : PA X [e, e2] (tA K xi W fr)) (hK : X.K = K := by rfl) (hs : starEach [e, e2] X.env = (false, eval e X.env) :: starEach [e2] X.env := by rfl) (hpl : (backTo pos (starEach [e2] X.env)).any (·.1) = false := by rfl) :
    PI X (.Tuple elts kk tpos) (.Call (.Name "zip" p) [e, e2] [] pos) (tI K xi W (zipI fr)) := by
  subst hK
  refine PI.mono (pi_zipU hg hm ha hs hpl) fun σ H Q h => ?_
  obtain ⟨G, s, R, h⟩ := h
  refine ⟨G, s, R, Po.bind h backs_I fun va s1 _ xs G1 H1 t1 R1 ra h1 => ?_⟩
  split at h1
  · rename_i x y _
    obtain ⟨all, _⟩ := ra
    cases all with
    | @cons v1 _ _ _ r1 all =>
      cases all with
      | @cons v2 _ _ _ r2 all =>
        cases all
        have r1 : Rp X.K G1 v1 x := r1
        have r2 : Rp X.K G1 v2 y := r2
        unfold zip2 at h1
        cases ex : itemsD x with
        | none => rw [ex] at h1; exact h1.elim
        | some ds =>
          rw [ex] at h1
          cases ey : itemsD y with
          | none => rw [ey] at h1; exact h1.elim
          | some es =>
            rw [ey] at h1
            have h1 : Po X.K xi W (rI X.K) G1 H1 σ s1 (.ok (zipL ds es) s1) Q := h1
            obtain ⟨k1, us1, a1, z1⟩ := zv_of r1 ex
            obtain ⟨k2, us2, a2, z2⟩ := zv_of r2 ey
            refine ⟨k1, k2, v1, v2, us1, us2, rfl, z1 H1 R1.gh, z2 H1 R1.gh, h1 _ G1 H1 .refl R1 ?_⟩
            intro i G2 H2 g1 g2
            have zz : ZV X.K H2 k1 v1 us1 ∧ ZV X.K H2 k2 v2 us2 := ⟨z1 H2 (g1.trans g2), z2 H2 (g1.trans g2)⟩
            have ln : (zipL ds es).length = min us1.length us2.length := by rw [zipL_len, a1.len, a2.len]
            refine ⟨fun x hx => ⟨⟨zz, by rw [← ln]; exact (List.getElem?_eq_some_iff.mp hx).1⟩, fun v H3 y => ?_⟩, fun e => ⟨zz, by rw [e, ln]⟩⟩
            obtain ⟨T, u, w, rfl, hT, eH, hu, hw⟩ := y
            obtain ⟨a, b, ha, hb, rfl⟩ := zipL_at hx
            obtain ⟨u', q1, ru⟩ := a1.at ha
            obtain ⟨w', q2, rw_⟩ := a2.at hb
            rw [hu] at q1
            rw [hw] at q2
            cases q1
            cases q2
            exact pair_turn g2 hT eH (Rp.same g1 ru) (Rp.same g1 rw_)
  · exact h1.elim
end
end M

set_option Elab.async false
set_option linter.all false
set_option maxRecDepth 100000
set_option maxHeartbeats 4000000
/-! Comprehensions. -/
namespace M
open PySem PySem.Spec PyProof.Rows L2 Sv

def wipeS (s : S) : List Nat → S
  | [] => s
  | v :: vs => (wipeS s vs).set v none
def restS (s s' : S) : List Nat → S
  | [] => s'
  | v :: vs => (restS s s' vs).set v (s.getD v none)
def plainO : Option (Option Vl) → Bool
  | some (some (.o _ _)) => false
  | some _ => true
  | none => false
def plainAt (s : S) (v : Nat) : Bool := plainO s[v]?
theorem wipeS_len (s : S) : ∀ vs, (wipeS s vs).length = s.length
  | [] => rfl
  | v :: vs => by rw [wipeS, List.length_set, wipeS_len s vs]
theorem restS_len (s s' : S) : ∀ vs, (restS s s' vs).length = s'.length
  | [] => rfl
  | v :: vs => by rw [restS, List.length_set, restS_len s s' vs]
theorem wipeS_off {s : S} {j : Nat} : ∀ {vs : List Nat}, j ∉ vs → (wipeS s vs)[j]? = s[j]?
  | [], _ => rfl
  | v :: vs, h => by
    rw [wipeS, List.getElem?_set_ne (fun e => h (by rw [← e]; exact List.mem_cons_self)), wipeS_off fun m => h (List.mem_cons_of_mem _ m)]
theorem wipe_off {s : Ss} {j : Nat} : ∀ {vs : List Nat}, j ∉ vs → (wipe s vs)[j]? = s[j]?
  | [], _ => rfl
  | v :: vs, h => by
    rw [wipe, List.getElem?_set_ne (fun e => h (by rw [← e]; exact List.mem_cons_self)), wipe_off fun m => h (List.mem_cons_of_mem _ m)]
theorem wipeS_on {s : S} {j : Nat} {u : Vl} : ∀ {vs : List Nat}, j ∈ vs → (wipeS s vs)[j]? ≠ some (some u)
  | v :: vs, h => fun e => by
    rw [wipeS] at e
    by_cases c : v = j
    · subst c
      rw [List.getElem?_set] at e
      split at e
      · split at e <;> cases e
      · contradiction
    · rw [List.getElem?_set_ne c] at e
      rcases List.mem_cons.mp h with z | z
      · exact c z.symm
      · exact wipeS_on z e
theorem restS_off {s s' : S} {j : Nat} : ∀ {vs : List Nat}, j ∉ vs → (restS s s' vs)[j]? = s'[j]?
  | [], _ => rfl
  | v :: vs, h => by
    rw [restS, List.getElem?_set_ne (fun e => h (by rw [← e]; exact List.mem_cons_self)), restS_off fun m => h (List.mem_cons_of_mem _ m)]
theorem restS_on {s s' : S} {j : Nat} (hl : s'.length = s.length) : ∀ {vs : List Nat}, j ∈ vs → (restS s s' vs)[j]? = s[j]?
  | v :: vs, h => by
    rw [restS]
    by_cases c : v = j
    · subst c
      rw [List.getElem?_set]
      simp only [if_true, restS_len, hl]
      split
      · rename_i lt
        rw [List.getD_eq_getElem?_getD, List.getElem?_eq_getElem lt]
        rfl
      · rename_i lt
        rw [List.getElem?_eq_none (by omega)]
    · rw [List.getElem?_set_ne c]
      rcases List.mem_cons.mp h with z | z
      · exact absurd z.symm c
      · exact restS_on hl z
theorem wipe_same {a b : Ss} : ∀ {vs : List Nat}, a.length = b.length → (∀ j, j ∉ vs → a[j]? = b[j]?) → wipe a vs = wipe b vs := fun {vs} hl h => by
  apply List.ext_getElem?
  intro j
  by_cases m : j ∈ vs
  · have on : ∀ {c : Ss} {ws : List Nat}, j ∈ ws → (wipe c ws)[j]? = if j < c.length then some none else none := fun {c ws} => by
      induction ws with
      | nil => intro h; cases h
      | cons v ws ih =>
        intro h
        rw [wipe]
        by_cases e : v = j
        · subst e
          rw [List.getElem?_set]
          simp only [if_true, wipe_length]
        · rw [List.getElem?_set_ne e]
          rcases List.mem_cons.mp h with z | z
          · exact absurd z.symm e
          · exact ih z
    rw [on m, on m, hl]
  · rw [wipe_off m, wipe_off m]
    exact h j m
def lcL (g : Tg) (c : S → ER Bool) (e : S → ER Vl) (vs : List Nat) : List D → List D → S → ER Vl
  | [], acc, s => .ok (.o true (.L acc)) s
  | d :: ds, acc, s => match g d (wipeS s vs) with
    | none => .no
    | some s1 => match c s1 with
      | .ok true s2 => (match e s2 with
        | .ok (.d x) s3 => if acc.length < 16777216 then lcL g c e vs ds (acc ++ [x]) (restS s s3 vs) else .no
        | _ => .no)
      | .ok false s2 => lcL g c e vs ds acc (restS s s2 vs)
      | _ => .no
def lcE (it : S → ER (List D)) (g : Tg) (c : S → ER Bool) (e : S → ER Vl) (vs : List Nat) : S → ER Vl := fun s => (it s).bind fun ds s1 => if vs.all (plainAt s1) = true then lcL g c e vs ds [] s1 else .no
def yesT : S → ER Bool := fun s => .ok true s
section
variable {X : Cx} {K : PySem.W.Frag} {xi : XI} {W : WX} {G H G' H' G1 H1 G0 H0 G2 H2 : Hp} {σ σ' σ1 σ0 σ2 : Ss} {s s' s1 s0 s2 s3 : S} {e o tg iter elt : Expr} {es : List Expr} {fa fe : S → ER Vl} {fc : S → ER Bool} {fi : S → ER (List PyData)} {g : Tg} {pos p : Pos} {i : Nat} {sl vs : List Nat}
theorem plain_no {j : Nat} (h : vs.all (plainAt s) = true) (m : j ∈ vs) {f : Bool} {b : Ob} : s[j]? ≠ some (some (.o f b)) := fun e => by
  have := List.all_eq_true.mp h j m
  unfold plainAt at this
  rw [e] at this
  cases this
theorem own_wipe {f : Bool} {p : Addr} (h : vs.all (plainAt s) = true) : Own σ s f p ↔ Own (wipe σ vs) (wipeS s vs) f p := by
  refine ⟨fun ⟨j, b, h1, h2⟩ => ?_, fun ⟨j, b, h1, h2⟩ => ?_⟩
  · have m : j ∉ vs := fun m => plain_no h m h1
    exact ⟨j, b, by rw [wipeS_off m]; exact h1, by rw [wipe_off m]; exact h2⟩
  · have m : j ∉ vs := fun m => wipeS_on m h1
    rw [wipeS_off m] at h1
    rw [wipe_off m] at h2
    exact ⟨j, b, h1, h2⟩
theorem rep_wipe (R : Rep K xi G H σ s) : Rep K xi G H (wipe σ vs) (wipeS s vs) := by
  have sub : ∀ {j : Nat} {u : Vl}, (wipeS s vs)[j]? = some (some u) → j ∉ vs ∧ s[j]? = some (some u) := fun {j u} h => by
    have m : j ∉ vs := fun m => wipeS_on m h
    rw [wipeS_off m] at h
    exact ⟨m, h⟩
  refine ⟨by rw [wipeS_len, wipe_length]; exact R.len, R.gh, fun j u h => ?_, fun j k f g b c p h1 h2 h3 h4 => ?_⟩
  · obtain ⟨m, h⟩ := sub h
    obtain ⟨v, e, w⟩ := R.sl j u h
    exact ⟨v, by rw [wipe_off m]; exact e, w⟩
  · obtain ⟨m1, h1⟩ := sub h1
    obtain ⟨m2, h2⟩ := sub h2
    rw [wipe_off m1] at h3
    rw [wipe_off m2] at h4
    exact R.ap j k f g b c p h1 h2 h3 h4
/-- out of a comprehension's turn -/
theorem stp_out (h : vs.all (plainAt s) = true) (hl : s1.length = s.length) (off : ∀ j, j ∉ vs → σ1[j]? = (wipe σ vs)[j]?) (t : Stp G H (wipe σ vs) (wipeS s vs) G1 H1 σ1 s1) : Stp G H σ s G1 H1 σ (restS s s1 vs) := by
  refine ⟨t.gg, fun b o q n => t.fr b o q fun f w => n f ((own_wipe h).mpr w), t.lv, fun b h1 h2 h3 => (own_wipe h).mpr (t.gn b h1 h2 h3), fun f p ⟨j, b, h1, h2⟩ => ?_, fun j b h1 => ?_⟩
  · by_cases m : j ∈ vs
    · rw [restS_on hl m] at h1
      exact absurd h1 (plain_no h m)
    · rw [restS_off m] at h1
      rcases t.ow f p ⟨j, b, h1, by rw [off j m, wipe_off m]; exact h2⟩ with z | z
      · exact .inl z
      · exact .inr ((own_wipe h).mpr z)
  · have m : j ∉ vs := fun m => plain_no h m h1
    obtain ⟨_, b', e⟩ := t.io j b (by rw [wipeS_off m]; exact h1)
    exact ⟨rfl, b', by rw [restS_off m]; exact e⟩
theorem rep_out (R : Rep K xi G H σ s) (h : vs.all (plainAt s) = true) (off : ∀ j, j ∉ vs → σ1[j]? = (wipe σ vs)[j]?) (hs : σ1.length = σ.length) (t : Stp G H (wipe σ vs) (wipeS s vs) G1 H1 σ1 s1) (R1 : Rep K xi G1 H1 σ1 s1) : Rep K xi G1 H1 σ (restS s s1 vs) := by
  have hl : s1.length = s.length := by rw [R1.len, R.len, hs]
  refine ⟨by rw [restS_len, hl]; exact R.len, R1.gh, fun j u q => ?_, fun j k f g b c p h1 h2 h3 h4 => ?_⟩
  · by_cases m : j ∈ vs
    · rw [restS_on hl m] at q
      obtain ⟨v, e, w⟩ := R.sl j u q
      refine ⟨v, e, ?_⟩
      cases u with
      | d x => exact Rp.same t.gg w
      | o f b => exact absurd q (plain_no h m)
      | r k => exact w
      | x y =>
        obtain ⟨a, cls, d, z1, z2, z3, z4⟩ := w
        refine ⟨a, cls, d, z1, z2, z3, fun nm n e => ?_⟩
        obtain ⟨dd, q1, q2⟩ := z4 nm n e
        refine ⟨dd, q1, t.fr _ _ q2 fun f w => ?_⟩
        obtain ⟨_, b, z⟩ := R.own ((own_wipe h).mpr w)
        exact z.noxd q2
      | s ns =>
        obtain ⟨a, e, w⟩ := w
        exact ⟨a, e, same_l t.gg w⟩
    · rw [restS_off m] at q
      obtain ⟨v, e, w⟩ := R1.sl j u q
      exact ⟨v, by rw [off j m, wipe_off m] at e; exact e, w⟩
  · have nin : ∀ {j : Nat} {f : Bool} {b : Ob}, (restS s s1 vs)[j]? = some (some (.o f b)) → j ∉ vs := fun {j f b} q m => by
      rw [restS_on hl m] at q
      exact plain_no h m q
    have m1 := nin h1
    have m2 := nin h2
    rw [restS_off m1] at h1
    rw [restS_off m2] at h2
    exact R1.ap j k f g b c p h1 h2 (by rw [off j m1, wipe_off m1]; exact h3) (by rw [off k m2, wipe_off m2]; exact h4)
/-- a cell that no slot tells of, written -/
theorem stp_hid {A : Addr} {ob : HO} (t : Stp G0 H0 σ0 s0 G H σ s) (h : H0 A = none) : Stp G0 H0 σ0 s0 G (upd H A ob) σ s := by
  refine ⟨t.gg, fun b o q n => ?_, fun b q => ?_, t.gn, t.ow, t.io⟩
  · rw [upd_ne (fun e => by rw [e, h] at q; cases q)]
    exact t.fr b o q n
  · by_cases e : b = A
    · subst e; rw [upd_same]; exact fun z => nomatch z
    · rw [upd_ne e]; exact t.lv b q
theorem rep_hid {A : Addr} {us ws : List V} (R : Rep K xi G H σ s) (h : H A = some (.lst us)) (g : G A = none) (n : ∀ f, ¬ Own σ s f A) : Rep K xi G (upd H A (.lst ws)) σ s := by
  refine ⟨R.len, Same.upd2 R.gh g, fun j u q => ?_, R.ap⟩
  obtain ⟨v, e, w⟩ := R.sl j u q
  refine ⟨v, e, ?_⟩
  cases u with
  | d x => exact w
  | o f b =>
    obtain ⟨p, rfl, w1, w2⟩ := w
    exact ⟨p, rfl, w1, w2.mono (Same.refl _) (upd_ne fun e2 => n f ⟨j, b, q, by rw [e, e2]⟩)⟩
  | r k => exact w
  | x y =>
    obtain ⟨a, cls, d, z1, z2, z3, z4⟩ := w
    refine ⟨a, cls, d, z1, z2, z3, fun nm n e => ?_⟩
    obtain ⟨dd, q1, q2⟩ := z4 nm n e
    refine ⟨dd, q1, ?_⟩
    rw [upd_ne (fun e2 => by rw [e2, h] at q2; cases q2)]
    exact q2
  | s ns => exact w
theorem plain_rest (h : vs.all (plainAt s) = true) (hl : s1.length = s.length) : vs.all (plainAt (restS s s1 vs)) = true := by
  refine List.all_eq_true.mpr fun j m => ?_
  have := List.all_eq_true.mp h j m
  unfold plainAt at this ⊢
  rw [restS_on hl m]
  exact this
theorem lc_lift {Q : VK} (hsl : ∀ j ∈ sl, j ∈ vs) (h : tE K xi W (lcE fi g fc fe vs) σ H Q) : tLc (tI K xi W fi) (tG K xi sl g) (tT K xi (fun _ _ _ _ => False) fc) (tE K xi (fun _ _ _ _ => False) fe) vs σ H Q := by
  obtain ⟨G, s, R, h⟩ := h
  refine ⟨G, s, R, Po.bindU .refl h fun items s1 _ J G1 H1 t1 R1 okI h1 => ?_⟩
  have okI : IterOk K G1 J items := okI
  split at h1
  · rename_i pl
    intro A hA
    have gA : G1 A = none := R1.free hA
    have h0A : H A = none := by
      cases q : H A with
      | none => rfl
      | some o => exact absurd hA (t1.lv A (ne_none q))
    refine ⟨fun i m H2 => m = items.length - i ∧ i ≤ items.length ∧ ∃ G2 s2 us acc, Same G1 G2 ∧ Stp G H σ s G2 H2 σ s2 ∧ Rep K xi G2 H2 σ s2 ∧ H2 A = some (.lst us) ∧ RpAll K G2 us acc ∧ G2 A = none ∧ (∀ f, ¬ Own σ s2 f A) ∧ vs.all (plainAt s2) = true ∧ Po K xi W (VR K xi) G H σ s (lcL g fc fe vs (items.drop i) acc s2) Q,
      ⟨_, rfl, Nat.zero_le _, G1, s1, [], [], Same.refl _, stp_hid t1 h0A, ?_, upd_same, .nil, gA, fun f w => R1.noOwn hA f w, pl, h1⟩, ?_⟩
    · exact rep_new R1 hA (.inl rfl)
    rintro i m H2 ⟨rfl, hi, G2, s2, us, acc, g2, t2, R2, hus, hacc, g2A, nown, pl2, h2⟩
    obtain ⟨goes, stops⟩ := okI i G2 H2 g2 R2.gh
    by_cases hlt : i < items.length
    · right
      obtain ⟨go, yl⟩ := goes items[i] (by simp [hlt])
      refine ⟨go, fun H' => ∃ m', m' < items.length - i ∧ (m' = items.length - (i + 1) ∧ i + 1 ≤ items.length ∧ ∃ G2 s2 us acc, Same G1 G2 ∧ Stp G H σ s G2 H' σ s2 ∧ Rep K xi G2 H' σ s2 ∧ H' A = some (.lst us) ∧ RpAll K G2 us acc ∧ G2 A = none ∧ (∀ f, ¬ Own σ s2 f A) ∧ vs.all (plainAt s2) = true ∧ Po K xi W (VR K xi) G H σ s (lcL g fc fe vs (items.drop (i + 1)) acc s2) Q), fun H' h => h, fun v H3 y => ?_⟩
      obtain ⟨G3, g3, gh3, h3, c3, rv⟩ := yl v H3 y
      have t3 := t2.trans (stp_turn (σ := σ) (s := s2) g3 h3 c3)
      have R3 := rep_turn R2 g3 gh3 h3 c3
      have h3A : H3 A = some (.lst us) := h3 _ _ hus
      have g3A : G3 A = none := c3 A g2A (ne_none hus)
      rw [List.drop_eq_getElem_cons hlt] at h2
      unfold lcL at h2
      split at h2
      · exact h2.elim
      · rename_i s4 q4
        have Rw := rep_wipe (vs := vs) R3
        refine ⟨G3, H3, wipe σ vs, wipeS s2 vs, G3, wipeS s2 vs, items[i], s4, .refl, Rw, rv, q4, fun σ4 off4 t4 R4 => ⟨?_, G3, s4, R4, ?_⟩⟩
        · have := wipe_same (vs := vs) (off4.1) fun j m => off4.2 j fun z => m (hsl j z)
          rw [this]
          exact wipe_same (wipe_length _ _) fun j m => wipe_off m
        have offv : ∀ j, j ∉ vs → σ4[j]? = (wipe σ vs)[j]? := fun j m => off4.2 j fun z => m (hsl j z)
        have len4 : σ4.length = σ.length := off4.1.trans (wipe_length _ _)
        -- what stays of the hidden list
        have hid : ∀ {G5 H5 : Hp} {s5 : S}, Stp G3 H3 (wipe σ vs) (wipeS s2 vs) G5 H5 σ4 s5 → H5 A = some (.lst us) ∧ G5 A = none := fun {G5 H5 s5} t5 => by
          have nw : ∀ f, ¬ Own (wipe σ vs) (wipeS s2 vs) f A := fun f w => nown f ((own_wipe pl2).mpr w)
          refine ⟨t5.fr A _ h3A nw, ?_⟩
          cases q : G5 A with
          | none => rfl
          | some o => exact absurd (t5.gn A g3A (ne_none h3A) (ne_none q)) (nw true)
        have out : ∀ {G5 H5 : Hp} {s5 : S}, Stp G3 H3 (wipe σ vs) (wipeS s2 vs) G5 H5 σ4 s5 → Rep K xi G5 H5 σ4 s5 → Stp G H σ s G5 H5 σ (restS s2 s5 vs) ∧ Rep K xi G5 H5 σ (restS s2 s5 vs) ∧ s5.length = s2.length ∧ ∀ f, ¬ Own σ (restS s2 s5 vs) f A := fun {G5 H5 s5} t5 R5 => by
          have l5 : s5.length = s2.length := by rw [R5.len, len4, R2.len]
          have R6 := rep_out R3 pl2 offv len4 t5 R5
          exact ⟨t3.trans (stp_out pl2 l5 offv t5), R6, l5, fun f w => by
            obtain ⟨g5, _⟩ := R6.own w
            obtain ⟨z1, z2⟩ := hid t5
            obtain ⟨j, b, e1, e2⟩ := w
            have m : j ∉ vs := fun m => by rw [restS_on l5 m] at e1; exact plain_no pl2 m e1
            rw [restS_off m] at e1
            rcases t5.ow f A ⟨j, b, e1, by rw [offv j m, wipe_off m]; exact e2⟩ with ⟨z, _⟩ | z
            · rw [h3A] at z; cases z
            · exact nown f ((own_wipe pl2).mpr z)⟩
        cases qc : fc s4 with
        | no => rw [qc] at h2; exact h2.elim
        | er e s5 => rw [qc] at h2; exact h2.elim
        | ok b s5 =>
          rw [qc] at h2
          intro k G5 H5 t5 R5 eb
          have eb : k = b := eb
          subst eb
          have t45 := t4.trans t5
          cases k with
          | false =>
            rw [if_neg Bool.false_ne_true]
            obtain ⟨z1, z2⟩ := hid t45
            obtain ⟨o1, o2, o3, o4⟩ := out t45 R5
            exact ⟨_, by omega, rfl, hlt, G5, restS s2 s5 vs, us, acc, (g2.trans g3).trans t45.gg, o1, o2, z1, RpAll.same (g3.trans t45.gg) hacc, z2, o4, plain_rest pl2 o3, h2⟩
          | true =>
            rw [if_pos rfl]
            refine ⟨G5, s5, R5, ?_⟩
            have h2 : Po K xi W (VR K xi) G H σ s (match fe s5 with | .ok (.d x) s3 => if acc.length < 16777216 then lcL g fc fe vs (items.drop (i + 1)) (acc ++ [x]) (restS s2 s3 vs) else .no | _ => .no) Q := h2
            cases qe : fe s5 with
            | no => rw [qe] at h2; exact h2.elim
            | er e s6 => rw [qe] at h2; exact h2.elim
            | ok u s6 =>
              rw [qe] at h2
              cases u with
              | d x =>
                intro y G6 H6 t6 R6 ry
                have ry : Rp K G6 y x := ry
                have t46 := t45.trans t6
                obtain ⟨z1, z2⟩ := hid t46
                obtain ⟨o1, o2, o3, o4⟩ := out t46 R6
                by_cases lt : acc.length < 16777216
                · have h2 : Po K xi W (VR K xi) G H σ s (if acc.length < 16777216 then lcL g fc fe vs (items.drop (i + 1)) (acc ++ [x]) (restS s2 s6 vs) else .no) Q := h2
                  rw [if_pos lt] at h2
                  refine ⟨us, z1, by rw [hacc.len, sizeLine_eq]; exact lt, _, by omega, rfl, hlt, G6, restS s2 s6 vs, us ++ [y], acc ++ [x], (g2.trans g3).trans t46.gg, stp_hid o1 h0A, rep_hid o2 z1 z2 o4, upd_same, (RpAll.same (g3.trans t46.gg) hacc).app (.cons ry .nil), z2, o4, plain_rest pl2 o3, h2⟩
                · have h2 : Po K xi W (VR K xi) G H σ s (if acc.length < 16777216 then lcL g fc fe vs (items.drop (i + 1)) (acc ++ [x]) (restS s2 s6 vs) else .no) Q := h2
                  rw [if_neg lt] at h2
                  exact h2.elim
              | o f b => exact h2.elim
              | r k => exact h2.elim
              | x y => exact h2.elim
              | s ns => exact h2.elim
    · left
      have e : i = items.length := by omega
      subst e
      refine ⟨stops rfl, ?_⟩
      rw [List.drop_length] at h2
      exact h2 (.ref A) G2 H2 t2 R2 ⟨rfl, A, rfl, g2A, .inl h0A, ⟨us, hus, hacc⟩, nown⟩
  · exact h1.elim
theorem re_lc {ifs : List Expr} {scope : Scope} {own : List (Str × Nat)} (hc : X.calm = true) (hN : X.N.Nodup) (hi : PI X tg iter (tI K xi W fi)) (ok : BlkOk X.N X.env.scope scope own)
    (hg : ∀ (s : Shared) (H : Hp) (C : Addr) (cl : List (Str × Addr)) (fp : List Addr), PG (X.blk s H scope (compEnvC scope cl C X.env) fp) tg (tG K xi sl g)) (ht : ∀ (s : Shared) (H : Hp) (C : Addr) (cl : List (Str × Addr)) (fp : List Addr), PTs (X.blk s H scope (compEnvC scope cl C X.env) fp) ifs (tT K xi (fun _ _ _ _ => False) fc))
    (he : ∀ (s : Shared) (H : Hp) (C : Addr) (cl : List (Str × Addr)) (fp : List Addr), PE (X.blk s H scope (compEnvC scope cl C X.env) fp) elt (tE K xi (fun _ _ _ _ => False) fe)) (hsl : ∀ j ∈ sl, j ∈ own.map (·.2)) (hs : ∀ x, foldedSetIterable iter X.env x = pure x := by intro _; rfl) :
    PE X (.ListComp elt [⟨tg, iter, ifs, 0⟩] scope pos) (tE K xi W (lcE fi g fc fe (own.map (·.2)))) := by
  exact PE.mono (pe_lc hc hN hi ok hg ht he hs) fun σ H Q h => lc_lift hsl h
theorem rs_setLc {y : Str} {py spos : Pos} {ifs : List Expr} {scope : Scope} {own : List (Str × Nat)} (hc : X.calm = true) (hN : X.N.Nodup) (hy : X.N[i]? = some y) (hyl : X.env.scope.names.lookup y = some .local)
    (hsw : swapsWith (.ListComp elt [⟨tg, iter, ifs, 0⟩] scope pos) (some (.Name y py)) spos.line X.env = pure true) (hi : PI X tg iter (tI K xi W fi)) (ok : BlkOk X.N X.env.scope scope own)
    (hg : ∀ (s : Shared) (H : Hp) (C : Addr) (cl : List (Str × Addr)) (fp : List Addr), PG (X.blk s H scope (compEnvC scope cl C X.env) fp) tg (tG K xi sl g)) (ht : ∀ (s : Shared) (H : Hp) (C : Addr) (cl : List (Str × Addr)) (fp : List Addr), PTs (X.blk s H scope (compEnvC scope cl C X.env) fp) ifs (tT K xi (fun _ _ _ _ => False) fc))
    (he : ∀ (s : Shared) (H : Hp) (C : Addr) (cl : List (Str × Addr)) (fp : List Addr), PE (X.blk s H scope (compEnvC scope cl C X.env) fp) elt (tE K xi (fun _ _ _ _ => False) fe)) (hsl : ∀ j ∈ sl, j ∈ own.map (·.2)) (hs : ∀ x, foldedSetIterable iter X.env x = pure x := by intro _; rfl) :
    PS X (.Assign [.Name y py] (.ListComp elt [⟨tg, iter, ifs, 0⟩] scope pos) spos) (tS K xi W (setS i (lcE fi g fc fe (own.map (·.2))))) := by
  refine PS.mono (ps_setLc hc hN hy hyl hsw hi ok hg ht he hs) fun D σ H h => lc_lift hsl ?_
  obtain ⟨G, s, R, h⟩ := h
  refine ⟨G, s, R, Po.outU .refl h fun a s1 _ v G1 H1 t1 R1 r h1 => ?_⟩
  show D.nx (σ.set i (some v)) H1
  unfold stoO at h1
  split at h1
  · rename_i s2 q
    exact h1 G1 H1 _ (stp_set t1 R1 r q) (rep_set R1 r q)
  · exact h1.elim
theorem rt_yes : PTs X [] (tT K xi W yesT) := ⟨fun pins s σ H Q I ⟨G, st, R, h⟩ => pts_nil.run pins s σ H Q I (h true G H .refl R rfl)⟩
theorem rt_one {c : Expr} (h : PT X c (tT K xi W fc)) : PTs X [c] (tT K xi W fc) := pts_one h
end
end M

set_option Elab.async false
set_option linter.all false
set_option maxRecDepth 100000
set_option maxHeartbeats 4000000
/-! Defs: what they promise, how they are called. -/
namespace M
open PySem PySem.Spec PyProof.Rows L2 Sv

/-- what may be handed to a def -/
def argR : Option (Option Vl) → Option Vl
  | some (some (.d x)) => some (.d x)
  | some (some (.o _ b)) => some (.o false b)
  | _ => none
def argV (s : S) : Vl → Option Vl
  | .d x => some (.d x)
  | .r i => argR s[i]?
  | .s ns => some (.s ns)
  | .x e => some (.x e)
  | _ => none
def argVs (s : S) : List Vl → Option (List Vl)
  | [] => some []
  | v :: vs => match argV s v with
    | some a => (argVs s vs).map (a :: ·)
    | none => none
def refs : List Vl → List Nat
  | [] => []
  | .r i :: vs => i :: refs vs
  | _ :: vs => refs vs
/-- the objects that were handed over come back -/
def back1 (s : S) : Vl → Option Vl → S
  | .r i, some (.o false b) => (match s[i]? with
    | some (some (.o f _)) => s.set i (some (.o f b))
    | _ => s)
  | _, _ => s
def putBack : List Vl → S → S → S
  | v :: vs, o :: os, s => putBack vs os (back1 s v o)
  | _, _, s => s
def plainA (as : List Vl) : Bool := as.all fun v => match v with
  | .x _ => false
  | _ => true
def argS (as : List Vl) : S := as.map some
def callR (vls : List Vl) (s1 : S) (r : ER Vl) : ER Vl := match r with
  | .ok (.d x) s' => .ok (.d x) (putBack vls s' s1)
  | .ok (.o true b) s' => .ok (.o true b) (putBack vls s' s1)
  | .ok _ _ => .no
  | .er e s' => .er e (putBack vls s' s1)
  | .no => .no
def call1 (n : Nat) (F : S → ER Vl) (vls : List Vl) (s1 : S) : ER Vl := match argVs s1 vls with
  | some as => if (refs vls).Nodup ∧ vls.length = n ∧ plainA as = true then callR vls s1 (F (argS as)) else .no
  | none => .no
def callE (n : Nat) (F : S → ER Vl) (fa : S → ER (List Vl)) : S → ER Vl := fun s => (fa s).bind fun vls s1 => call1 n F vls s1
/-- the arguments that come back: what is written, else what was there -/
def outs : S → S → S
  | some (.o false _) :: r, x :: r' => x :: outs r r'
  | a :: r, _ :: r' => a :: outs r r'
  | r, _ => r
def fin1 (s0 : S) : Out → ER Vl
  | .nx s' => .ok (.d .none) (outs s0 s')
  | .rt (.d x) s' => .ok (.d x) (outs s0 s')
  | .rt (.o true b) s' => .ok (.o true b) (outs s0 s')
  | .er e s' => .er e (outs s0 s')
  | _ => .no
def fin (N : Nat) (f : S → Out) : S → ER Vl := fun s0 => fin1 s0 (f (s0 ++ List.replicate (N - s0.length) none))
def isArg : Option Vl → Prop
  | some (.d _) => True
  | some (.o false _) => True
  | some (.s _) => True
  | some (.x _) => True
  | _ => False
/-- what a def promises: the answer of F -/
def spF (K : PySem.W.Frag) (n : Nat) (F : S → ER Vl) : Sp := fun vs H Q E => vs.length = n ∧ ∃ (G : Hp) (s0 : S), (∀ a ∈ s0, isArg a) ∧ Rep K none G H (vs.map some) s0 ∧ Po K none (WX0 E) (VR K none) G H (vs.map some) s0 (F s0) Q
section
variable {X : Cx} {K : PySem.W.Frag} {xi : XI} {W : WX} {G H G' H' G1 H1 G0 H0 : Hp} {σ σ' σ1 σ0 : Ss} {s s' s1 s0 : S} {f : S → Out}
theorem outs_at : ∀ {s0 s' : S} {i : Nat}, s0.length ≤ s'.length → (outs s0 s')[i]? = (match s0[i]? with | some (some (.o false _)) => s'[i]? | x => x)
  | [], s', i, _ => by simp [outs]
  | a :: r, [], i, h => by simp at h
  | a :: r, x :: r', 0, h => by
    cases a with
    | none => rfl
    | some v =>
      cases v with
      | o f b => cases f <;> rfl
      | _ => rfl
  | a :: r, x :: r', i + 1, h => by
    have ih := outs_at (s0 := r) (s' := r') (i := i) (by simpa using h)
    have e : (outs (a :: r) (x :: r'))[i + 1]? = (outs r r')[i]? := by
      cases a with
      | none => rfl
      | some v =>
        cases v with
        | o f b => cases f <;> rfl
        | _ => rfl
    rw [e, ih]
    simp
theorem outs_len : ∀ {s0 s' : S}, (outs s0 s').length = s0.length
  | [], s' => by simp [outs]
  | a :: r, [] => by
    cases a with
    | none => rfl
    | some v =>
      cases v with
      | o f b => cases f <;> rfl
      | _ => rfl
  | a :: r, x :: r' => by
    have ih := outs_len (s0 := r) (s' := r')
    cases a with
    | none => simp [outs, ih]
    | some v =>
      cases v with
      | o f b => cases f <;> simp [outs, ih]
      | _ => simp [outs, ih]
theorem pad_at {α : Type} {l : List (Option α)} {n i : Nat} {u : α} : (l ++ List.replicate n none)[i]? = some (some u) ↔ l[i]? = some (some u) := by
  by_cases h : i < l.length
  · rw [List.getElem?_append_left h]
  · rw [List.getElem?_append_right (by omega), List.getElem?_eq_none (l := l) (by omega)]
    constructor
    · intro e
      rw [List.getElem?_replicate] at e
      split at e <;> cases e
    · intro e; cases e
theorem own_pad {n m : Nat} {f : Bool} {p : Addr} : Own (σ ++ List.replicate n none) (s ++ List.replicate m none) f p ↔ Own σ s f p :=
  ⟨fun ⟨i, b, h1, h2⟩ => ⟨i, b, pad_at.mp h1, pad_at.mp h2⟩, fun ⟨i, b, h1, h2⟩ => ⟨i, b, pad_at.mpr h1, pad_at.mpr h2⟩⟩
theorem rep_pad {n m : Nat} (e : n = m) (R : Rep K xi G H σ s) : Rep K xi G H (σ ++ List.replicate n none) (s ++ List.replicate m none) := by
  refine ⟨by simp [R.len, e], R.gh, fun i vl h => ?_, fun i j f g b c p h1 h2 h3 h4 => R.ap i j f g b c p (pad_at.mp h1) (pad_at.mp h2) (pad_at.mp h3) (pad_at.mp h4)⟩
  obtain ⟨v, e, w⟩ := R.sl i vl (pad_at.mp h)
  exact ⟨v, pad_at.mpr e, w⟩
/-- back from a def's body to its arguments -/
theorem fin_stp {n m : Nat} (en : n = m) (ha : ∀ a ∈ s, isArg a) (R : Rep K xi G H σ s) (t : Stp G H (σ ++ List.replicate n none) (s ++ List.replicate m none) G' H' σ' s') (R' : Rep K xi G' H' σ' s') : Stp G H σ s G' H' σ (outs s s') ∧ Rep K xi G' H' σ (outs s s') ∧
    ∀ f p, Own σ (outs s s') f p → Own σ' s' f p := by
  have hio : ∀ {i : Nat} {b : Ob}, s[i]? = some (some (.o false b)) → σ'[i]? = σ[i]? ∧ ∃ b', s'[i]? = some (some (.o false b')) := fun {i b} h => by
    obtain ⟨e1, e2⟩ := t.io i b (pad_at.mpr h)
    have hlt : i < s.length := (List.getElem?_eq_some_iff.mp h).1
    rw [List.getElem?_append_left (by rw [← R.len]; exact hlt)] at e1
    exact ⟨e1, e2⟩
  have len : ∀ {i : Nat} {b : Ob}, s[i]? = some (some (.o false b)) → i < s'.length := fun {i b} h => by
    obtain ⟨_, b', e⟩ := hio h
    exact (List.getElem?_eq_some_iff.mp e).1
  have oat : ∀ {i : Nat}, (outs s s')[i]? = (match s[i]? with | some (some (.o false _)) => s'[i]? | x => x) := fun {i} => by
    by_cases h : s.length ≤ s'.length
    · exact outs_at h
    · -- the part behind s' holds no written one
      clear R t R' hio
      induction s generalizing s' i with
      | nil => simp [outs]
      | cons a r ih =>
        cases s' with
        | nil =>
          have e : outs (a :: r) [] = a :: r := by
            cases a with
            | none => rfl
            | some v => cases v with
              | o f b => cases f <;> rfl
              | _ => rfl
          rw [e]
          split
          · rename_i b q
            exact absurd (len q) (by simp)
          · rfl
        | cons x r' =>
          have step : ∀ {i : Nat}, (outs (a :: r) (x :: r'))[i + 1]? = (outs r r')[i]? := fun {i} => by
            cases a with
            | none => rfl
            | some v => cases v with
              | o f b => cases f <;> rfl
              | _ => rfl
          cases i with
          | zero =>
            cases a with
            | none => rfl
            | some v => cases v with
              | o f b => cases f <;> rfl
              | _ => rfl
          | succ i =>
            rw [step, ih (s' := r') (i := i) (fun a m => ha a (List.mem_cons_of_mem _ m)) (fun {i b} q => by simpa using len (i := i + 1) (b := b) (by simpa using q)) (by simpa using h)]
            simp
  have ob : ∀ {i : Nat} {f : Bool} {b : Ob}, (outs s s')[i]? = some (some (.o f b)) → f = false ∧ s'[i]? = some (some (.o f b)) ∧ σ'[i]? = σ[i]? ∧ ∃ c, s[i]? = some (some (.o false c)) := fun {i f b} h => by
    rw [oat] at h
    split at h
    · rename_i c q
      obtain ⟨e1, b', e2⟩ := hio q
      rw [e2] at h
      cases h
      exact ⟨rfl, e2, e1, c, q⟩
    · rename_i hne
      have z := ha _ (List.mem_of_getElem? h)
      cases f with
      | false => exact absurd h (by intro e; exact hne b e)
      | true => exact z.elim
  refine ⟨⟨t.gg, fun b o h n => t.fr b o h fun f w => n f (own_pad.mp w), t.lv, fun b h1 h2 h3 => own_pad.mp (t.gn b h1 h2 h3), fun f p ⟨i, b, h1, h2⟩ => ?_, fun i b h => ?_⟩, ⟨by rw [outs_len]; exact R.len, R'.gh, fun i vl h => ?_, fun i j f g b c p h1 h2 h3 h4 => ?_⟩, fun f p ⟨i, b, h1, h2⟩ => ?_⟩
  · obtain ⟨rfl, e1, e2, c, e3⟩ := ob h1
    exact .inr ⟨i, c, e3, h2⟩
  · obtain ⟨e1, b', e2⟩ := hio h
    refine ⟨rfl, b', ?_⟩
    rw [oat, h]
    exact e2
  · cases vl with
    | o f b =>
      obtain ⟨_, e1, e2, _⟩ := ob h
      obtain ⟨v, q, w⟩ := R'.sl i _ e1
      exact ⟨v, by rw [← e2]; exact q, w⟩
    | d x =>
      rw [oat] at h
      split at h
      · rename_i c q
        obtain ⟨_, b', e2⟩ := hio q
        rw [e2] at h; cases h
      · obtain ⟨v, q, w⟩ := R.sl i _ h
        exact ⟨v, q, Rp.same t.gg w⟩
    | r j =>
      rw [oat] at h
      split at h
      · rename_i c q
        obtain ⟨_, b', e2⟩ := hio q
        rw [e2] at h; cases h
      · exact (ha _ (List.mem_of_getElem? h)).elim
    | x e =>
      rw [oat] at h
      split at h
      · rename_i c q
        obtain ⟨_, b', e2⟩ := hio q
        rw [e2] at h; cases h
      · obtain ⟨v, q, a, cls, d, h1, h2, h3, h4⟩ := R.sl i _ h
        refine ⟨v, q, a, cls, d, h1, h2, h3, fun nm n e => ?_⟩
        obtain ⟨dd, q1, q2⟩ := h4 nm n e
        refine ⟨dd, q1, t.fr _ _ q2 fun f w => ?_⟩
        obtain ⟨_, b, z⟩ := R.own (own_pad.mp w)
        exact z.noxd q2
    | s ns =>
      rw [oat] at h
      split at h
      · rename_i c q
        obtain ⟨_, b', e2⟩ := hio q
        rw [e2] at h; cases h
      · obtain ⟨v, q, a, e, w⟩ := R.sl i _ h
        exact ⟨v, q, a, e, same_l t.gg w⟩
  · obtain ⟨_, e1, e2, _⟩ := ob h1
    obtain ⟨_, e3, e4, _⟩ := ob h2
    exact R'.ap i j f g b c p e1 e3 (by rw [e2]; exact h3) (by rw [e4]; exact h4)
  · obtain ⟨_, e1, e2, _⟩ := ob h1
    exact ⟨i, b, e1, by rw [e2]; exact h2⟩
theorem fin_gen {N : List Str} {vs : List V} {Q : VK} {E : XK} (ha : ∀ a ∈ s0, isArg a) (R : Rep K xi G H (vs.map some) s0) (h : Po K xi (WX0 E) (VR K xi) G H (vs.map some) s0 (fin N.length f s0) Q) : tS K xi (WX0 E) f { nx := fun _ H' => Q .non H', rt := Q } (start N vs) H := by
  have len : s0.length = vs.length := by rw [R.len, List.length_map]
  refine ⟨G, s0 ++ List.replicate (N.length - s0.length) none, rep_pad (by rw [len]) R, ?_⟩
  have h : Po K xi (WX0 E) (VR K xi) G H (vs.map some) s0 (fin1 s0 (f (s0 ++ List.replicate (N.length - s0.length) none))) Q := h
  generalize f (s0 ++ List.replicate (N.length - s0.length) none) = r at h
  have el : N.length - vs.length = N.length - s0.length := by rw [len]
  cases r with
  | nx s' => exact fun G' H' σ' t R' => (by
      obtain ⟨t1, R1, _⟩ := fin_stp el ha R t R'
      exact h .non G' H' t1 R1 .non)
  | rt v s' =>
    cases v with
    | d x => exact fun v G' H' σ' t R' r => (by
      obtain ⟨t1, R1, _⟩ := fin_stp el ha R t R'
      exact h v G' H' t1 R1 r)
    | o fl b =>
      cases fl with
      | true => exact fun v G' H' σ' t R' r => (by
          obtain ⟨t1, R1, o1⟩ := fin_stp el ha R t R'
          obtain ⟨_, p, rfl, w1, w2, w3, w4⟩ := r
          exact h _ G' H' t1 R1 ⟨rfl, p, rfl, w1, w2.imp id own_pad.mp, w3, fun g w => w4 g (o1 g p w)⟩)
      | false => exact h.elim
    | r i => exact h.elim
    | x e => exact h.elim
    | s ns => exact h.elim
  | er e s' => exact fun G' H' σ' t R' => (by
      obtain ⟨t1, R1, _⟩ := fin_stp el ha R t R'
      have z := h G' H' t1 R1
      unfold EW at z ⊢
      exact z)
  | bk s' => exact h.elim
  | ct s' => exact h.elim
  | no => exact h.elim
theorem fin_of {n : Nat} {N : List Str} {vs : List V} {Q : VK} {E : XK} (h : spF K n (fin N.length f) vs H Q E) : tS K none (WX0 E) f { nx := fun _ H' => Q .non H', rt := Q } (start N vs) H := by
  obtain ⟨_, G, s0, ha, R, h⟩ := h
  exact fin_gen ha R h
/-! ### a call -/
theorem argVs_at : ∀ {vls as : List Vl}, argVs s vls = some as → vls.length = as.length ∧ ∀ (i : Nat) (v : Vl), vls[i]? = some v → ∃ a : Vl, as[i]? = some a ∧ argV s v = some a
  | [], as, h => by cases h; exact ⟨rfl, fun i v e => by simp at e⟩
  | v :: vs, as, h => by
    unfold argVs at h
    split at h
    · rename_i a ea
      cases q : argVs s vs with
      | none => rw [q] at h; cases h
      | some bs =>
        rw [q] at h
        cases h
        obtain ⟨l, k⟩ := argVs_at q
        refine ⟨by simp [l], fun i u e => ?_⟩
        cases i with
        | zero => cases e; exact ⟨a, rfl, ea⟩
        | succ i => exact k i u e
    · cases h
theorem VRs.at {v : V} : ∀ {vs : List V} {vls : List Vl} {i : Nat}, VRs K xi H0 σ0 s0 G H σ s vs vls → vs[i]? = some v → ∃ vl, vls[i]? = some vl ∧ VR K xi H0 σ0 s0 G H σ s v vl
  | _, _, _, .nil, e => by simp at e
  | _, _, 0, .cons a _, e => by cases e; exact ⟨_, rfl, a⟩
  | _, _, i + 1, .cons _ b, e => VRs.at (i := i) b e
theorem VRs.len : ∀ {vs : List V} {vls : List Vl}, VRs K xi H0 σ0 s0 G H σ s vs vls → vs.length = vls.length
  | _, _, .nil => rfl
  | _, _, .cons _ b => by simp [VRs.len b]
theorem refs_mem : ∀ {vls : List Vl} {i k : Nat}, vls[k]? = some (.r i) → i ∈ refs vls
  | v :: vs, i, 0, e => by cases e; exact List.mem_cons_self
  | v :: vs, i, k + 1, e => by
    have := refs_mem (vls := vs) (k := k) (by simpa using e)
    cases v <;> first | exact this | exact List.mem_cons_of_mem _ this
theorem refs_of {j : Nat} : ∀ {vls : List Vl}, j ∈ refs vls → ∃ k : Nat, vls[k]? = some (.r j)
  | [], h => nomatch h
  | v :: vs, h => by
    have go : j ∈ refs vs → ∃ k : Nat, (v :: vs)[k]? = some (.r j) := fun m => by
      obtain ⟨k, e⟩ := refs_of m
      exact ⟨k + 1, e⟩
    cases v with
    | r i =>
      rcases List.mem_cons.mp h with z | z
      · exact ⟨0, by rw [z]; rfl⟩
      · exact go z
    | _ => exact go h
theorem refs_inj : ∀ {vls : List Vl} {i j k : Nat}, (refs vls).Nodup → vls[j]? = some (.r i) → vls[k]? = some (.r i) → j = k
  | [], i, j, k, _, e, _ => by simp at e
  | v :: vs, i, j, k, nd, e1, e2 => by
    have nd2 : (refs vs).Nodup := by cases v <;> first | exact nd | exact (List.nodup_cons.mp nd).2
    cases j with
    | zero =>
      cases k with
      | zero => rfl
      | succ k =>
        cases e1
        exact absurd (refs_mem (by simpa using e2)) (List.nodup_cons.mp nd).1
    | succ j =>
      cases k with
      | zero =>
        cases e2
        exact absurd (refs_mem (by simpa using e1)) (List.nodup_cons.mp nd).1
      | succ k => exact congrArg (· + 1) (refs_inj (i := i) (j := j) (k := k) nd2 (by simpa using e1) (by simpa using e2))
theorem argS_at {as : List Vl} {i : Nat} {u : Vl} : (argS as)[i]? = some (some u) ↔ as[i]? = some u := by
  unfold argS
  rw [List.getElem?_map]
  cases as[i]? with
  | none => simp
  | some a => simp
theorem vals_at {vs : List V} {i : Nat} {u : V} : (vs.map some)[i]? = some (some u) ↔ vs[i]? = some u := by
  rw [List.getElem?_map]
  cases vs[i]? with
  | none => simp
  | some a => simp
/-- which slot an argument that is written stands for -/
theorem arg_o {vs : List V} {vls as : List Vl} {k : Nat} {f : Bool} {b : Ob} (ra : VRs K xi H0 σ0 s0 G1 H1 σ s1 vs vls) (ea : argVs s1 vls = some as) (h : as[k]? = some (.o f b)) : f = false ∧ ∃ i g p, vls[k]? = some (.r i) ∧ s1[i]? = some (some (.o g b)) ∧ vs[k]? = some p ∧ σ[i]? = some (some p) := by
  obtain ⟨l, at_⟩ := argVs_at ea
  have hk : k < vls.length := by rw [l]; exact (List.getElem?_eq_some_iff.mp h).1
  obtain ⟨a, e1, e2⟩ := at_ k _ (List.getElem?_eq_getElem hk)
  rw [h] at e1
  cases e1
  have hv : k < vs.length := by rw [ra.len]; exact hk
  obtain ⟨vl, q1, q2⟩ := ra.at (List.getElem?_eq_getElem hv)
  rw [List.getElem?_eq_getElem hk] at q1
  cases q1
  generalize hw : vls[k] = w at e2 q2
  cases w with
  | d x => cases e2
  | o g c => cases e2
  | x e => cases e2
  | s ns => cases e2
  | r i =>
    have e2 : argR s1[i]? = some (.o f b) := e2
    unfold argR at e2
    split at e2
    · cases e2
    · rename_i g c q
      cases e2
      exact ⟨rfl, i, g, vs[k], by rw [List.getElem?_eq_getElem hk, hw], q, List.getElem?_eq_getElem hv, q2⟩
    · cases e2
theorem rep_args {vs : List V} {vls as : List Vl} (R1 : Rep K xi G1 H1 σ s1) (ra : VRs K xi H0 σ0 s0 G1 H1 σ s1 vs vls) (ea : argVs s1 vls = some as) (nd : (refs vls).Nodup) : (∀ a ∈ argS as, isArg a) ∧ Rep K xi G1 H1 (vs.map some) (argS as) := by
  obtain ⟨l, at_⟩ := argVs_at ea
  have lv := ra.len
  refine ⟨fun a m => ?_, by simp [argS, lv, l], R1.gh, fun k u h => ?_, fun j k f g b c p h1 h2 h3 h4 => ?_⟩
  · obtain ⟨k, hk⟩ := List.mem_iff_getElem?.mp m
    unfold argS at hk
    rw [List.getElem?_map] at hk
    cases q : as[k]? with
    | none => rw [q] at hk; cases hk
    | some u =>
      rw [q] at hk
      cases hk
      cases u with
      | o f b =>
        obtain ⟨rfl, _⟩ := arg_o ra ea q
        exact trivial
      | d x => exact trivial
      | s ns => exact trivial
      | r i =>
        have hk : k < vls.length := by rw [l]; exact (List.getElem?_eq_some_iff.mp q).1
        obtain ⟨a, e1, e2⟩ := at_ k _ (List.getElem?_eq_getElem hk)
        rw [q] at e1
        cases e1
        generalize vls[k] = w at e2
        cases w with
        | r j =>
          have e2 : argR s1[j]? = some (.r i) := e2
          unfold argR at e2
          split at e2 <;> cases e2
        | _ => cases e2
      | x e => exact trivial
  · have h := argS_at.mp h
    have hk : k < vls.length := by rw [l]; exact (List.getElem?_eq_some_iff.mp h).1
    have hv : k < vs.length := by rw [lv]; exact hk
    obtain ⟨a, e1, e2⟩ := at_ k _ (List.getElem?_eq_getElem hk)
    rw [h] at e1
    cases e1
    obtain ⟨vl, q1, q2⟩ := ra.at (List.getElem?_eq_getElem hv)
    rw [List.getElem?_eq_getElem hk] at q1
    cases q1
    refine ⟨vs[k], vals_at.mpr (List.getElem?_eq_getElem hv), ?_⟩
    generalize vls[k] = w at e2 q2
    cases w with
    | d x => cases e2; exact q2
    | o g c => cases e2
    | x e => cases e2; exact q2
    | s ns => cases e2; exact q2
    | r i =>
      have q2 : σ[i]? = some (some vs[k]) := q2
      have e2 : argR s1[i]? = some u := e2
      unfold argR at e2
      split at e2
      · rename_i x q
        cases e2
        obtain ⟨w, e3, w1⟩ := R1.sl i _ q
        rw [q2] at e3
        cases e3
        exact w1
      · rename_i g c q
        cases e2
        obtain ⟨w, e3, w1⟩ := R1.sl i _ q
        rw [q2] at e3
        cases e3
        exact w1
      · cases e2
  · obtain ⟨_, i1, g1, p1, a1, a2, a3, a4⟩ := arg_o ra ea (argS_at.mp h1)
    obtain ⟨_, i2, g2, p2, b1, b2, b3, b4⟩ := arg_o ra ea (argS_at.mp h2)
    have e1 := vals_at.mp h3
    have e2 := vals_at.mp h4
    rw [a3] at e1
    rw [b3] at e2
    cases e1
    cases e2
    have := R1.ap i1 i2 g1 g2 b c p a2 b2 a4 b4
    subst this
    exact refs_inj nd a1 b1
theorem back1_at (s : S) (v : Vl) (o : Option Vl) (j : Nat) : (back1 s v o)[j]? = s[j]? ∨ ∃ b f c, v = .r j ∧ o = some (.o false b) ∧ s[j]? = some (some (.o f c)) ∧ (back1 s v o)[j]? = some (some (.o f b)) := by
  unfold back1
  split
  · rename_i i b
    split
    · rename_i f c q
      by_cases e : i = j
      · subst e
        exact .inr ⟨b, f, c, rfl, rfl, q, List.getElem?_set_self (List.getElem?_eq_some_iff.mp q).1⟩
      · exact .inl (List.getElem?_set_ne e)
    · exact .inl rfl
  · exact .inl rfl
theorem back1_len (s : S) (v : Vl) (o : Option Vl) : (back1 s v o).length = s.length := by
  unfold back1
  split
  · split
    · exact List.length_set
    · rfl
  · rfl
theorem pb_len : ∀ {vls : List Vl} {os s : S}, (putBack vls os s).length = s.length
  | [], os, s => by cases os <;> rfl
  | v :: vs, [], s => rfl
  | v :: vs, o :: os, s => by
    show (putBack vs os (back1 s v o)).length = _
    rw [pb_len, back1_len]
theorem pb_at : ∀ (vls : List Vl) (os s : S) (j : Nat), (putBack vls os s)[j]? = s[j]? ∨ ∃ (k : Nat) (b : Ob) (f : Bool) (c : Ob), vls[k]? = some (.r j) ∧ os[k]? = some (some (.o false b)) ∧ s[j]? = some (some (.o f c)) ∧ (putBack vls os s)[j]? = some (some (.o f b))
  | [], os, s, j => by cases os <;> exact .inl rfl
  | v :: vs, [], s, j => .inl rfl
  | v :: vs, o :: os, s, j => by
    show (putBack vs os (back1 s v o))[j]? = s[j]? ∨ ∃ (k : Nat) (b : Ob) (f : Bool) (c : Ob), (v :: vs)[k]? = some (.r j) ∧ (o :: os)[k]? = some (some (.o false b)) ∧ s[j]? = some (some (.o f c)) ∧ (putBack vs os (back1 s v o))[j]? = some (some (.o f b))
    rcases pb_at vs os (back1 s v o) j with h | ⟨k, b, f, c, h1, h2, h3, h4⟩
    · rcases back1_at s v o j with e | ⟨b, f, c, rfl, rfl, e3, e4⟩
      · exact .inl (h.trans e)
      · exact .inr ⟨0, b, f, c, rfl, rfl, e3, h.trans e4⟩
    · rcases back1_at s v o j with e | ⟨b', f', c', rfl, rfl, e3, e4⟩
      · exact .inr ⟨k + 1, b, f, c, h1, h2, by rw [← e]; exact h3, h4⟩
      · rw [e4] at h3
        cases h3
        exact .inr ⟨k + 1, b, f, c', h1, h2, e3, h4⟩
theorem pb_off {j : Nat} {vls : List Vl} {os s : S} (h : j ∉ refs vls) : (putBack vls os s)[j]? = s[j]? := by
  rcases pb_at vls os s j with e | ⟨k, b, f, c, h1, _⟩
  · exact e
  · exact absurd (refs_mem h1) h
theorem pb_on : ∀ {vls : List Vl} {os s : S} {j k : Nat} {b c : Ob} {f : Bool}, (refs vls).Nodup → vls[k]? = some (.r j) → os[k]? = some (some (.o false b)) → s[j]? = some (some (.o f c)) → (putBack vls os s)[j]? = some (some (.o f b))
  | v :: vs, o :: os, s, j, 0, b, c, f, nd, h1, h2, h3 => by
    cases h1
    cases h2
    show (putBack vs os (back1 s (.r j) (some (.o false b))))[j]? = _
    rw [pb_off (List.nodup_cons.mp nd).1]
    show (match s[j]? with | some (some (.o f _)) => s.set j (some (.o f b)) | _ => s)[j]? = _
    rw [h3]
    exact List.getElem?_set_self (List.getElem?_eq_some_iff.mp h3).1
  | v :: vs, o :: os, s, j, k + 1, b, c, f, nd, h1, h2, h3 => by
    have nd2 : (refs vs).Nodup := by cases v <;> first | exact nd | exact (List.nodup_cons.mp nd).2
    show (putBack vs os (back1 s v o))[j]? = _
    refine pb_on (c := c) nd2 h1 h2 ?_
    rcases back1_at s v o j with e | ⟨b', f', c', rfl, rfl, e3, e4⟩
    · rw [e]; exact h3
    · exact absurd (refs_mem (show vs[k]? = some (.r j) from h1)) (List.nodup_cons.mp nd).1
  | [], _, _, _, _, _, _, _, _, h1, _, _ => by simp at h1
  | _ :: _, [], _, _, _, _, _, _, _, _, h2, _ => by simp at h2
theorem call_back {vs : List V} {vls as : List Vl} (R1 : Rep K xi G1 H1 σ s1) (ra : VRs K xi H0 σ0 s0 G1 H1 σ s1 vs vls) (ea : argVs s1 vls = some as) (nd : (refs vls).Nodup) {xj : XI} (t : Stp G1 H1 (vs.map some) (argS as) G' H' (vs.map some) s') (R' : Rep K xj G' H' (vs.map some) s') :
    Stp G1 H1 σ s1 G' H' σ (putBack vls s' s1) ∧ Rep K xi G' H' σ (putBack vls s' s1) ∧ ∀ f p, Own σ (putBack vls s' s1) f p → Own σ s1 f p := by
  have up : ∀ {f : Bool} {p : Addr}, Own (vs.map some) (argS as) f p → f = false ∧ ∃ g i b, s1[i]? = some (some (.o g b)) ∧ σ[i]? = some (some (.ref p)) ∧ i ∈ refs vls := fun {f p} ⟨k, b, h1, h2⟩ => by
    obtain ⟨e, i, g, q, a1, a2, a3, a4⟩ := arg_o ra ea (argS_at.mp h1)
    have h2 := vals_at.mp h2
    rw [a3] at h2
    cases h2
    exact ⟨e, g, i, b, a2, a4, refs_mem a1⟩
  have noT : ∀ {p : Addr}, ¬ Own (vs.map some) (argS as) true p := fun {p} w => by
    obtain ⟨e, _⟩ := up w
    cases e
  have down : ∀ f p, Own σ (putBack vls s' s1) f p → Own σ s1 f p := fun f p ⟨j, b, h1, h2⟩ => by
    rcases pb_at vls s' s1 j with e | ⟨k, b', f', c, _, _, e3, e4⟩
    · exact ⟨j, b, by rw [← e]; exact h1, h2⟩
    · rw [e4] at h1
      cases h1
      exact ⟨j, c, e3, h2⟩
  have st : Stp G1 H1 σ s1 G' H' σ (putBack vls s' s1) := by
    refine ⟨t.gg, fun b o h n => t.fr b o h fun f w => ?_, t.lv, fun b h1 h2 h3 => absurd (t.gn b h1 h2 h3) noT, fun f p w => .inr (down f p w), fun j b h => ⟨rfl, ?_⟩⟩
    · obtain ⟨_, g, i, c, e1, e2, _⟩ := up w
      exact n g ⟨i, c, e1, e2⟩
    · rcases pb_at vls s' s1 j with e | ⟨k, b', f', c, _, _, e3, e4⟩
      · exact ⟨b, by rw [e]; exact h⟩
      · rw [h] at e3
        cases e3
        exact ⟨b', e4⟩
  refine ⟨st, ⟨by rw [pb_len]; exact R1.len, R'.gh, fun j u h => ?_, fun i j f g b c p h1 h2 h3 h4 => ?_⟩, down⟩
  · by_cases hu : ∃ f b, u = .o f b
    · obtain ⟨f, b, rfl⟩ := hu
      obtain ⟨l, at_⟩ := argVs_at ea
      have own1 : ∃ c, s1[j]? = some (some (.o f c)) := by
        rcases pb_at vls s' s1 j with e | ⟨k, b', f', c, _, _, e3, e4⟩
        · exact ⟨b, by rw [← e]; exact h⟩
        · rw [e4] at h
          cases h
          exact ⟨c, e3⟩
      obtain ⟨c, hc⟩ := own1
      obtain ⟨v, e1, p, rfl, w1, w2⟩ := R1.sl j _ hc
      refine ⟨_, e1, p, rfl, ?_⟩
      by_cases hk : j ∈ refs vls
      · -- handed over
        obtain ⟨k, hk⟩ := refs_of hk
        obtain ⟨a, q1, q2⟩ := at_ k _ hk
        have q2 : argR s1[j]? = some a := q2
        rw [hc] at q2
        cases q2
        obtain ⟨q3, b', q4⟩ := t.io k c (argS_at.mpr q1)
        have q5 := pb_on nd hk q4 hc
        rw [q5] at h
        cases h
        obtain ⟨y, z1, p', rfl, z2, z3⟩ := R'.sl k _ q4
        have z1 := vals_at.mp z1
        obtain ⟨vl, z4, z5⟩ := ra.at z1
        rw [hk] at z4
        cases z4
        have z5 : σ[j]? = some (some (.ref p')) := z5
        rw [e1] at z5
        cases z5
        exact ⟨z2, z3⟩
      · rw [pb_off hk, hc] at h
        cases h
        have nw : ∀ g, ¬ Own (vs.map some) (argS as) g p := fun g w => by
          obtain ⟨_, g', i, b', e3, e4, e5⟩ := up w
          have := R1.ap j i f g' _ b' p hc e3 e1 e4
          exact hk (by rw [this]; exact e5)
        have hp : H' p = H1 p := by
          cases q : H1 p with
          | none => exact absurd q w2.here
          | some o => exact t.fr p o q nw
        refine ⟨?_, w2.mono t.gg hp⟩
        cases q : G' p with
        | none => rfl
        | some o => exact absurd (t.gn p w1 w2.here (ne_none q)) noT
    · have e : (putBack vls s' s1)[j]? = s1[j]? := by
        rcases pb_at vls s' s1 j with e | ⟨k, b', f', c, _, _, e3, e4⟩
        · exact e
        · rw [e4] at h
          cases h
          exact absurd ⟨_, _, rfl⟩ hu
      rw [e] at h
      obtain ⟨v, e1, w⟩ := R1.sl j _ h
      exact ⟨v, e1, w.step R1 st fun p _ hh => absurd hh hu⟩
  · have back : ∀ {j : Nat} {f : Bool} {b : Ob}, (putBack vls s' s1)[j]? = some (some (.o f b)) → ∃ c, s1[j]? = some (some (.o f c)) := fun {j f b} h => by
      rcases pb_at vls s' s1 j with e | ⟨k, b', f', c, _, _, e3, e4⟩
      · exact ⟨b, by rw [← e]; exact h⟩
      · rw [e4] at h
        cases h
        exact ⟨c, e3⟩
    obtain ⟨c1, q1⟩ := back h1
    obtain ⟨c2, q2⟩ := back h2
    exact R1.ap i j f g c1 c2 p q1 q2 h3 h4
theorem rep_plain {as : List Vl} {σ : Ss} (px : plainA as = true) (R : Rep K xi G H σ (argS as)) : Rep K none G H σ (argS as) := by
  refine ⟨R.len, R.gh, fun i v h => ?_, R.ap⟩
  obtain ⟨w, e, r⟩ := R.sl i v h
  refine ⟨w, e, ?_⟩
  cases v with
  | x e =>
    have := List.all_eq_true.mp px _ (List.mem_of_getElem? (argS_at.mp h))
    cases this
  | _ => exact r
theorem call_lift {n : Nat} {F : S → ER Vl} {fa : S → ER (List Vl)} {Q : VK} (h : tE K xi W (callE n F fa) σ H Q) : tCallS (spF K n F) (WE W) (tA K xi W fa) σ H Q := by
  obtain ⟨G, s, R, h⟩ := h
  refine ⟨G, s, R, Po.bindU .refl h fun vls s1 _ vs G1 H1 t1 R1 ra h1 => ?_⟩
  unfold call1 at h1
  split at h1
  · rename_i as ea
    split at h1
    · rename_i cond
      obtain ⟨nd, ln, px⟩ := cond
      obtain ⟨ia, Ra⟩ := rep_args R1 ra.all ea nd
      refine ⟨by rw [ra.all.len]; exact ln, G1, argS as, ia, rep_plain px Ra, ?_⟩
      generalize F (argS as) = r at h1
      cases r with
      | ok vl s' =>
        cases vl with
        | d x => exact fun v G' H' t R' rv => (by
            obtain ⟨t2, R2, _⟩ := call_back R1 ra.all ea nd t R'
            exact h1 v G' H' (t1.trans t2) R2 rv)
        | o f b =>
          cases f with
          | true => exact fun v G' H' t R' rv => (by
              obtain ⟨t2, R2, dn⟩ := call_back R1 ra.all ea nd t R'
              obtain ⟨_, p, rfl, w1, w2, w3, w4⟩ := rv
              have hp : H1 p = none := by
                rcases w2 with z | ⟨k, c, z1, z2⟩
                · exact z
                · obtain ⟨e, _⟩ := arg_o ra.all ea (argS_at.mp z1)
                  cases e
              refine h1 _ G' H' (t1.trans t2) R2 ⟨rfl, p, rfl, w1, .inl ?_, w3, fun g w => R1.noOwn hp g (dn g p w)⟩
              cases q : H p with
              | none => rfl
              | some o => exact absurd hp (t1.lv p (ne_none q)))
          | false => exact h1.elim
        | r i => exact h1.elim
        | x e => exact h1.elim
        | s ns => exact h1.elim
      | er e s' => exact fun G' H' t R' => (by
          obtain ⟨t2, R2, _⟩ := call_back R1 ra.all ea nd t R'
          have z := h1 G' H' (t1.trans t2) R2
          unfold EW at z ⊢
          exact z)
      | no => exact h1.elim
    · exact h1.elim
  · exact h1.elim
/-- the def that the module's name x holds keeps sp -/
structure CalN (P : Program) (w : World) (K : PySem.W.Frag) (mg : Str → Option Value) (base : Heap) (k : Nat) (x : Str) (sp : Sp) : Prop where
  ex : ∃ (f : Addr) (fd : FuncData) (ps : List Str), FnOk P w K mg base (L2N.CX P w) k f fd ps sp ∧ mg x = some (.ref f) ∧ PySem.W.keepIn K (.ref f) = true ∧ Binds K fd ps []
theorem re_call {n k : Nat} {F : S → ER Vl} {fa : S → ER (List Vl)} {x : Str} {p pos : Pos} {e : Expr} {es : List Expr} (c : CalN X.prog X.w X.K X.mg X.base k x (spF X.K n F)) (hr : Room k X.A) (hg : Gl X x) (tk : L2N.Takes X W) (ha : PA X (e :: es) (tA K xi W fa)) (hK : X.K = K := by rfl) (hdb : (x == ("__debug__" : Str)) = false := by decide)
    (he : starEach (e :: es) X.env = (false, eval e X.env) :: starEach es X.env := by rfl) (hpl : (backTo pos (starEach es X.env)).any (·.1) = false := by rfl) : PE X (.Call (.Name x p) (e :: es) [] pos) (tE K xi W (callE n F fa)) := by
  subst hK
  obtain ⟨f, fd, ps, F1, hm, hk, hb⟩ := c.ex
  exact PE.mono (pe_callS F1 hr hg hm hk hb (fun σ => L2N.passAt tk σ) ha hdb he hpl) fun σ H Q h => call_lift h
end
end M

set_option Elab.async false
set_option linter.all false
set_option maxRecDepth 100000
set_option maxHeartbeats 4000000
/-! while, try. -/
namespace M
open PySem PySem.Spec PyProof.Rows L2 Sv

/-! ### while -/
def loopK (k : S → Out) : Out → Out
  | .nx s => k s
  | .ct s => k s
  | .bk s => .nx s
  | .rt v s => .rt v s
  | .er e s => .er e s
  | .no => .no
def whileN (c : S → ER Bool) (b : S → Out) : Nat → S → Out
  | 0, _ => .no
  | n + 1, s => (c s).out fun k s1 => if k = true then loopK (whileN c b n) (b s1) else .nx s1
open Classical in
noncomputable def whileS (c : S → ER Bool) (b : S → Out) : S → Out := fun s => if h : ∃ n, whileN c b n s ≠ .no then whileN c b h.choose s else .no
theorem whileN_mono {c : S → ER Bool} {b : S → Out} : ∀ {n m : Nat} {s : S}, whileN c b n s ≠ .no → n ≤ m → whileN c b m s = whileN c b n s
  | 0, _, _, h, _ => absurd rfl h
  | n + 1, 0, _, _, l => by omega
  | n + 1, m + 1, s, h, l => by
    unfold whileN at h ⊢
    cases q : c s with
    | no => rfl
    | er e s1 => rfl
    | ok k s1 =>
      rw [q] at h
      cases k with
      | false => rfl
      | true =>
        have h : loopK (whileN c b n) (b s1) ≠ .no := h
        show loopK (whileN c b m) (b s1) = loopK (whileN c b n) (b s1)
        cases e : b s1 with
        | nx s2 => rw [e] at h; exact whileN_mono h (by omega)
        | ct s2 => rw [e] at h; exact whileN_mono h (by omega)
        | _ => rfl
theorem whileS_of {c : S → ER Bool} {b : S → Out} {n : Nat} {s : S} (h : whileN c b n s ≠ .no) : whileS c b s = whileN c b n s := by
  have e : ∃ n, whileN c b n s ≠ .no := ⟨n, h⟩
  unfold whileS
  rw [dif_pos e]
  rcases Nat.le_total n e.choose with z | z
  · exact whileN_mono h z
  · exact (whileN_mono e.choose_spec z).symm
theorem whileS_no {c : S → ER Bool} {b : S → Out} {s : S} (h : ∀ n, whileN c b n s = .no) : whileS c b s = .no := by
  unfold whileS
  rw [dif_neg]
  rintro ⟨n, q⟩
  exact q (h n)
theorem whileS_at (c : S → ER Bool) (b : S → Out) (s : S) : ∃ n, whileS c b s = whileN c b n s := by
  by_cases h : ∃ n, whileN c b n s ≠ .no
  · obtain ⟨n, q⟩ := h
    exact ⟨n, whileS_of q⟩
  · exact ⟨0, whileS_no fun n => Classical.byContradiction fun q => h ⟨n, q⟩⟩
theorem loopK_at (c : S → ER Bool) (b : S → Out) (r : Out) : ∃ n, loopK (whileS c b) r = loopK (whileN c b n) r := by
  cases r with
  | nx s2 => exact whileS_at c b s2
  | ct s2 => exact whileS_at c b s2
  | _ => exact ⟨0, rfl⟩
theorem loopK_no (c : S → ER Bool) (b : S → Out) (r : Out) (h : loopK (whileS c b) r = .no) (n : Nat) : loopK (whileN c b n) r = .no := by
  have go : ∀ s2, whileS c b s2 = .no → whileN c b n s2 = .no := fun s2 h => Classical.byContradiction fun q => q (by rw [← whileS_of q]; exact h)
  cases r with
  | nx s2 => exact go s2 h
  | ct s2 => exact go s2 h
  | bk s2 => cases h
  | rt v s2 => cases h
  | er e s2 => cases h
  | no => rfl
/-- one turn -/
theorem whileS_eq (c : S → ER Bool) (b : S → Out) (s : S) : whileS c b s = (c s).out fun k s1 => if k = true then loopK (whileS c b) (b s1) else .nx s1 := by
  have one : ∀ n, whileN c b (n + 1) s = (c s).out fun k s1 => if k = true then loopK (whileN c b n) (b s1) else .nx s1 := fun n => rfl
  cases q : c s with
  | no =>
    refine whileS_no fun n => ?_
    cases n with
    | zero => rfl
    | succ n => rw [one, q]; rfl
  | er e s1 =>
    have z : whileN c b 1 s = .er e s1 := by rw [one, q]; rfl
    exact (whileS_of (n := 1) (by rw [z]; exact fun h => nomatch h)).trans z
  | ok k s1 =>
    cases k with
    | false =>
      have z : whileN c b 1 s = .nx s1 := by rw [one, q]; rfl
      exact (whileS_of (n := 1) (by rw [z]; exact fun h => nomatch h)).trans z
    | true =>
      show whileS c b s = loopK (whileS c b) (b s1)
      have z : ∀ n, whileN c b (n + 1) s = loopK (whileN c b n) (b s1) := fun n => by rw [one, q]; rfl
      by_cases h : loopK (whileS c b) (b s1) = .no
      · rw [h]
        refine whileS_no fun n => ?_
        cases n with
        | zero => rfl
        | succ n => rw [z]; exact loopK_no c b _ h n
      · obtain ⟨n, e⟩ := loopK_at c b (b s1)
        rw [e] at h ⊢
        rw [← z] at h ⊢
        exact whileS_of h
section
variable {X : Cx} {K : PySem.W.Frag} {xi : XI} {W : WX} {G H G' H' G1 H1 G0 H0 : Hp} {σ σ' σ1 σ0 : Ss} {s s' s1 s0 : S} {f g : S → Out} {fc : S → ER Bool} {De : Ends} {pos p : Pos} {i : Nat}
theorem rs_while {c : Expr} {body : List Stmt} (hp : PassesOwn (model X.prog X.w) X.A X.env X.xe) (hc : PT X c (tT K xi W fc)) (hb : PSs X body (tS K xi W f)) : PS X (.While c body [] pos) (tS K xi W (whileS fc f)) := by
  refine PS.mono (ps_while hp hc hb) fun D σ H h => ?_
  obtain ⟨G, s, R, h⟩ := h
  obtain ⟨n0, e0⟩ := whileS_at fc f s
  rw [e0] at h
  refine ⟨fun n σ1 H1 => ∃ G1 s1, Stp G H σ s G1 H1 σ1 s1 ∧ Rep K xi G1 H1 σ1 s1 ∧ PoS K xi W G H σ s (whileN fc f n s1) D, ⟨n0, G, s, .refl, R, h⟩, ?_⟩
  rintro n σ1 H1 ⟨G1, s1, t1, R1, h1⟩
  cases n with
  | zero => exact h1.elim
  | succ n =>
    have h1 : PoS K xi W G H σ s ((fc s1).out fun k s2 => if k = true then loopK (whileN fc f n) (f s2) else .nx s2) D := h1
    refine ⟨G1, s1, R1, Po.outU t1 h1 fun b s2 _ k G2 H2 t2 R2 ek h2 => ?_⟩
    have ek : k = b := ek
    subst ek
    cases k with
    | false =>
      rw [if_neg Bool.false_ne_true]
      exact h2 G2 H2 σ1 (t1.trans t2) R2
    | true =>
      rw [if_pos rfl]
      have h2 : PoS K xi W G H σ s (loopK (whileN fc f n) (f s2)) D := h2
      refine ⟨fun σ' H' => ∃ G3 s3, Stp G H σ s G3 H' σ' s3 ∧ Rep K xi G3 H' σ' s3 ∧ PoS K xi W G H σ s (whileN fc f n s3) D, fun σ' H' z => ⟨n, Nat.lt_succ_self n, z⟩, G2, s2, R2, ?_⟩
      have t12 := t1.trans t2
      cases q : f s2 with
      | nx s3 => rw [q] at h2; exact fun G3 H3 σ3 t3 R3 => ⟨G3, s3, t12.trans t3, R3, h2⟩
      | ct s3 => rw [q] at h2; exact fun G3 H3 σ3 t3 R3 => ⟨G3, s3, t12.trans t3, R3, h2⟩
      | bk s3 => rw [q] at h2; exact fun G3 H3 σ3 t3 R3 => h2 G3 H3 σ3 (t12.trans t3) R3
      | rt v s3 => rw [q] at h2; exact PoS.shift (De := D) t12 h2
      | er e s3 => rw [q] at h2; exact PoS.shift (De := D) t12 h2
      | no => rw [q] at h2; exact h2
end
/-! ### try -/
def noX (s : S) : Bool := s.all fun v => match v with
  | some (.x _) => false
  | _ => true
def setN (s : S) : Option Nat → Option Vl → S
  | some i, v => s.set i v
  | none, _ => s
/-- behind a suite: the error's name is gone -/
def endX (oi : Option Nat) : Out → Out
  | .nx s => if noX (setN s oi none) = true then .nx (setN s oi none) else .no
  | .rt (.d x) s => if noX (setN s oi none) = true then .rt (.d x) (setN s oi none) else .no
  | .rt (.o true b) s => if noX (setN s oi none) = true then .rt (.o true b) (setN s oi none) else .no
  | .bk s => if noX (setN s oi none) = true then .bk (setN s oi none) else .no
  | .ct s => if noX (setN s oi none) = true then .ct (setN s oi none) else .no
  | _ => .no
def freeN (s : S) : Option Nat → Bool
  | some i => freeAt s i
  | none => true
def hdX (cm : Str → Option Bool) (oi : Option Nat) (g : S → Out) : Out → Out
  | .er e s1 => (match cm e.c with
    | some true => if freeN s1 oi = true then endX oi (g (setN s1 oi (some (.x e)))) else .no
    | some false => .er e s1
    | none => .no)
  | r => r
/-- try: f; except ..: g. cm: which classes are taken -/
def tryS (cm : Str → Option Bool) (oi : Option Nat) (f g : S → Out) : S → Out := fun s => hdX cm oi g (f s)
abbrev WF : WX := fun _ _ _ _ => False
def setσ (σ : Ss) : Option Nat → Option V → Ss
  | some i, v => σ.set i v
  | none, _ => σ
section
variable {X : Cx} {K : PySem.W.Frag} {xi : XI} {W : WX} {G H G' H' G1 H1 G0 H0 : Hp} {σ σ' σ1 σ0 : Ss} {s s' s1 s0 : S} {f g : S → Out} {De : Ends} {pos p : Pos} {oi : Option Nat}
theorem noX_at {i : Nat} {e : Exn} (h : noX s = true) : s[i]? ≠ some (some (.x e)) := fun q => by
  have := List.all_eq_true.mp h _ (List.mem_of_getElem? q)
  cases this
theorem setN_len {v : Option Vl} : (setN s oi v).length = s.length := by
  cases oi with
  | none => rfl
  | some i => exact List.length_set
theorem setN_at {j : Nat} {u : Vl} (h : (setN s oi none)[j]? = some (some u)) : s[j]? = some (some u) ∧ some j ≠ oi := by
  cases oi with
  | none => exact ⟨h, fun e => nomatch e⟩
  | some i =>
    have h : (s.set i none)[j]? = some (some u) := h
    by_cases e : i = j
    · subst e
      rw [List.getElem?_set] at h
      simp only [if_true] at h
      split at h <;> cases h
    · rw [List.getElem?_set_ne e] at h
      exact ⟨h, fun q => e (by cases q; rfl)⟩
theorem setσ_at {j : Nat} {v : Option V} (h : some j ≠ oi) : (setσ σ oi v)[j]? = σ[j]? := by
  cases oi with
  | none => rfl
  | some i => exact List.getElem?_set_ne fun e => h (by rw [e])
theorem setσ_len {v : Option V} : (setσ σ oi v).length = σ.length := by
  cases oi with
  | none => rfl
  | some i => exact List.length_set
/-- the error's name is taken off: slots may stay or not -/
theorem rep_clear {u : Option Nat} (R : Rep K xi G H σ s) (h : noX (setN s oi none) = true) (hu : u = oi ∨ u = none) : Rep K none G H (setσ σ u none) (setN s oi none) := by
  have at_ : ∀ {j : Nat}, some j ≠ oi → (setσ σ u none)[j]? = σ[j]? := fun {j} n => by
    rcases hu with rfl | rfl
    · exact setσ_at n
    · rfl
  refine ⟨by rw [setN_len, setσ_len]; exact R.len, R.gh, fun j v q => ?_, fun i j f g b c p h1 h2 h3 h4 => ?_⟩
  · obtain ⟨q1, q2⟩ := setN_at q
    obtain ⟨w, e, r⟩ := R.sl j v q1
    refine ⟨w, by rw [at_ q2]; exact e, ?_⟩
    cases v with
    | x e => exact absurd q (noX_at h)
    | _ => exact r
  · obtain ⟨a1, a2⟩ := setN_at h1
    obtain ⟨b1, b2⟩ := setN_at h2
    rw [at_ a2] at h3
    rw [at_ b2] at h4
    exact R.ap i j f g b c p a1 b1 h3 h4
theorem stp_clear {u : Option Nat} (t : Stp G0 H0 σ0 s0 G H σ s) (hio : ∀ i b, oi = some i → s0[i]? ≠ some (some (.o false b))) (hu : u = oi ∨ u = none) : Stp G0 H0 σ0 s0 G H (setσ σ u none) (setN s oi none) := by
  have at_ : ∀ {j : Nat}, some j ≠ oi → (setσ σ u none)[j]? = σ[j]? := fun {j} n => by
    rcases hu with rfl | rfl
    · exact setσ_at n
    · rfl
  refine ⟨t.gg, t.fr, t.lv, t.gn, fun f p ⟨j, b, h1, h2⟩ => ?_, fun j b h1 => ?_⟩
  · obtain ⟨a1, a2⟩ := setN_at h1
    rw [at_ a2] at h2
    exact t.ow f p ⟨j, b, a1, h2⟩
  · obtain ⟨e1, b', e2⟩ := t.io j b h1
    have n : some j ≠ oi := fun e => hio j b e.symm h1
    refine ⟨by rw [at_ n]; exact e1, b', ?_⟩
    cases oi with
    | none => exact e2
    | some i => 
      show (s.set i none)[j]? = _
      rw [List.getElem?_set_ne fun e => n (by rw [e])]
      exact e2
theorem free_io {i : Nat} {b : Ob} (t : Stp G H σ s G1 H1 σ1 s1) (h : freeN s1 oi = true) (e : oi = some i) : s[i]? ≠ some (some (.o false b)) := fun q => by
  subst e
  obtain ⟨_, b', z⟩ := t.io i b q
  exact (freeAt_ok h).2 b' z
/-- into a suite -/
theorem rep_caught {a : Addr} {cls : Value} {d : Option Addr} {e : Exn} (R : Rep K none G H σ s) (hx : cls = .ref (He.ga K e.c) ∧ (e.fld = none → d = none)) (hf : ∀ nm n, e.fld = some (nm, n) → ∃ dd, d = some dd ∧ H dd = some (.xd [(nm, .int n)])) : Rep K (some (a, cls, d)) G H (setσ σ oi (some (.ref a))) (setN s oi (some (.x e))) := by
  have at_ : ∀ {j : Nat} {u : Vl}, (setN s oi (some (.x e)))[j]? = some (some u) → (s[j]? = some (some u) ∧ (setσ σ oi (some (.ref a)))[j]? = σ[j]?) ∨ (u = .x e ∧ (setσ σ oi (some (.ref a)))[j]? = some (some (.ref a))) := fun {j u} h => by
    cases oi with
    | none => exact .inl ⟨h, rfl⟩
    | some i =>
      have h : (s.set i (some (.x e)))[j]? = some (some u) := h
      by_cases q : i = j
      · subst q
        have lt : i < s.length := by
          have := (List.getElem?_eq_some_iff.mp h).1
          rw [List.length_set] at this
          exact this
        rw [List.getElem?_set_self lt] at h
        cases h
        exact .inr ⟨rfl, List.getElem?_set_self (by rw [← R.len]; exact lt)⟩
      · rw [List.getElem?_set_ne q] at h
        exact .inl ⟨h, List.getElem?_set_ne q⟩
  refine ⟨by rw [setN_len, setσ_len]; exact R.len, R.gh, fun j v q => ?_, fun i j f g b c p h1 h2 h3 h4 => ?_⟩
  · rcases at_ q with ⟨q1, q2⟩ | ⟨rfl, q2⟩
    · obtain ⟨w, z, r⟩ := R.sl j v q1
      refine ⟨w, by rw [q2]; exact z, ?_⟩
      cases v with
      | x e => obtain ⟨_, _, _, z, _⟩ := r; cases z
      | _ => exact r
    · exact ⟨_, q2, a, cls, d, rfl, rfl, hx, hf⟩
  · rcases at_ h1 with ⟨a1, a2⟩ | ⟨z, _⟩
    · rcases at_ h2 with ⟨b1, b2⟩ | ⟨z, _⟩
      · exact R.ap i j f g b c p a1 b1 (by rw [← a2]; exact h3) (by rw [← b2]; exact h4)
      · cases z
    · cases z
theorem stp_caught {a : Addr} {e : Exn} (t : Stp G0 H0 σ0 s0 G H σ s) (h : freeN s oi = true) : Stp G0 H0 σ0 s0 G H (setσ σ oi (some (.ref a))) (setN s oi (some (.x e))) := by
  cases oi with
  | none => exact t
  | some i =>
    obtain ⟨lt, nio⟩ := freeAt_ok h
    refine ⟨t.gg, t.fr, t.lv, t.gn, fun f p ⟨j, b, h1, h2⟩ => ?_, fun j b h1 => ?_⟩
    · have h1 : (s.set i (some (.x e)))[j]? = some (some (.o f b)) := h1
      have h2 : (σ.set i (some (.ref a)))[j]? = some (some (.ref p)) := h2
      by_cases q : i = j
      · subst q
        rw [List.getElem?_set_self lt] at h1
        cases h1
      · rw [List.getElem?_set_ne q] at h1 h2
        exact t.ow f p ⟨j, b, h1, h2⟩
    · obtain ⟨e1, b', e2⟩ := t.io j b h1
      have n : i ≠ j := fun q => nio b' (by rw [q]; exact e2)
      exact ⟨by show (σ.set i _)[j]? = _; rw [List.getElem?_set_ne n]; exact e1, b', by show (s.set i _)[j]? = _; rw [List.getElem?_set_ne n]; exact e2⟩
/-- the suite's wish -/
theorem suite_ok {a : Addr} {cls : Value} {d : Option Addr} {e : Exn} (R : Rep K none G1 H1 σ1 s1) (t : Stp G H σ s G1 H1 σ1 s1) (hfr : freeN s1 oi = true) (hx : cls = .ref (He.ga K e.c) ∧ (e.fld = none → d = none)) (hf : ∀ nm n, e.fld = some (nm, n) → ∃ dd, d = some dd ∧ H1 dd = some (.xd [(nm, .int n)]))
    (h : PoS K none W G H σ s (endX oi (g (setN s1 oi (some (.x e))))) De) : tS K (some (a, cls, d)) WF g { nx := fun σ' H' => De.nx (setσ σ' oi none) H', rt := De.rt, bk := fun σ' H' => De.bk (setσ σ' oi none) H', ct := fun σ' H' => De.ct (setσ σ' oi none) H' } (setσ σ1 oi (some (.ref a))) H1 := by
  refine ⟨G1, setN s1 oi (some (.x e)), rep_caught R hx hf, ?_⟩
  have t1 : Stp G H σ s G1 H1 (setσ σ1 oi (some (.ref a))) (setN s1 oi (some (.x e))) := stp_caught t hfr
  have io0 : ∀ i b, oi = some i → s[i]? ≠ some (some (.o false b)) := fun i b e => free_io t hfr e
  generalize g (setN s1 oi (some (.x e))) = r at h
  cases r with
  | nx s2 =>
    have h : PoS K none W G H σ s (if noX (setN s2 oi none) = true then .nx (setN s2 oi none) else .no) De := h
    split at h
    · rename_i c
      exact fun G2 H2 σ2 t2 R2 => h G2 H2 _ (stp_clear (t1.trans t2) io0 (.inl rfl)) (rep_clear R2 c (.inl rfl))
    · exact h.elim
  | bk s2 =>
    have h : PoS K none W G H σ s (if noX (setN s2 oi none) = true then .bk (setN s2 oi none) else .no) De := h
    split at h
    · rename_i c
      exact fun G2 H2 σ2 t2 R2 => h G2 H2 _ (stp_clear (t1.trans t2) io0 (.inl rfl)) (rep_clear R2 c (.inl rfl))
    · exact h.elim
  | ct s2 =>
    have h : PoS K none W G H σ s (if noX (setN s2 oi none) = true then .ct (setN s2 oi none) else .no) De := h
    split at h
    · rename_i c
      exact fun G2 H2 σ2 t2 R2 => h G2 H2 _ (stp_clear (t1.trans t2) io0 (.inl rfl)) (rep_clear R2 c (.inl rfl))
    · exact h.elim
  | rt v s2 =>
    cases v with
    | d x =>
      have h : PoS K none W G H σ s (if noX (setN s2 oi none) = true then .rt (.d x) (setN s2 oi none) else .no) De := h
      split at h
      · rename_i c
        exact fun v G2 H2 σ2 t2 R2 rv => h v G2 H2 (setσ σ2 oi none) (stp_clear (t1.trans t2) io0 (.inl rfl)) (rep_clear R2 c (.inl rfl)) rv
      · exact h.elim
    | o f b =>
      cases f with
      | true =>
        have h : PoS K none W G H σ s (if noX (setN s2 oi none) = true then .rt (.o true b) (setN s2 oi none) else .no) De := h
        split at h
        · rename_i c
          refine fun v G2 H2 σ2 t2 R2 rv => ?_
          obtain ⟨_, p, rfl, w1, w2, w3, w4⟩ := rv
          refine h _ G2 H2 (setσ σ2 oi none) (stp_clear (t1.trans t2) io0 (.inl rfl)) (rep_clear R2 c (.inl rfl)) ⟨rfl, p, rfl, w1, ?_, w3, fun g ⟨j, c, z1, z2⟩ => ?_⟩
          · rcases w2 with z | z
            · left
              cases q : H p with
              | none => rfl
              | some o => exact absurd z (t.lv p (ne_none q))
            · rcases t1.ow true p z with ⟨q, _⟩ | q
              · exact .inl q
              · exact .inr q
          · obtain ⟨a1, a2⟩ := setN_at z1
            rw [setσ_at a2] at z2
            exact w4 g ⟨j, c, a1, z2⟩
        · exact h.elim
      | false => exact h.elim
    | r j => exact h.elim
    | x y => exact h.elim
    | s ns => exact h.elim
  | er y s2 => exact h.elim
  | no => exact h.elim
theorem rs_try_as {x n : Str} {c : Value} {i : Nat} {body suite : List Stmt} {b₀ : Stmt} {np pos' : Pos} {cm : Str → Option Bool} (hs : X.stack = X.env :: X.outer) (hf : X.env.frame = some X.env.locals) (hN : X.N.Nodup) (hi : X.N[i]? = some n) (hln : X.env.kindOf n = some .local) (hc : Names X x c) (tk : L2N.Takes X W)
    (hcm : ∀ nm b, cm nm = some b → PySem.W.exmOne X.K (.ref (He.ga X.K nm)) c = some b)
    (hb : ∀ (W : WX) (pn : List (Addr × Obj)) (xe : Value → Shared → Prop), L2N.Takes (X.tr pn xe) W → PassesOwn (model X.prog X.w) X.A X.env xe → PSs (X.tr pn xe) body (tS K none W f))
    (hsu : ∀ (a : Addr) (oe : Obj) (cls : Value) (d : Option Addr) (pn : List (Addr × Obj)), L2N.Zn cls d oe → (∃ vs, oe.data = .fields vs) → PSs (X.suite a ((a, oe) :: pn)) (b₀ :: suite) (tS K (some (a, cls, d)) WF g)) (hK : X.K = K := by rfl) :
    PS X (.Try body [.ExceptHandler (some (.Name x np)) (some n) (b₀ :: suite) pos'] [] [] pos) (tS K none W (tryS cm (some i) f g)) := by
  subst hK
  refine PS.mono (L2N.ps_try_as hs hf hN hi hln hc tk hb hsu) fun D σ H h => ?_
  obtain ⟨G, s, R, h⟩ := h
  refine ⟨G, s, R, ?_⟩
  have h : PoS X.K none W G H σ s (hdX cm (some i) g (f s)) D := h
  cases q : f s with
  | nx s1 => rw [q] at h; exact h
  | rt v s1 => rw [q] at h; exact h
  | bk s1 => rw [q] at h; exact h
  | ct s1 => rw [q] at h; exact h
  | no => rw [q] at h; exact h
  | er e s1 =>
    rw [q] at h
    intro G1 H1 σ1 t1 R1
    have h : PoS X.K none W G H σ s (match cm e.c with
      | some true => if freeN s1 (some i) = true then endX (some i) (g (setN s1 (some i) (some (.x e)))) else .no
      | some false => .er e s1
      | none => .no) D := h
    have all : ∀ d : Option Addr, (e.fld = none → d = none) → (∀ nm n, e.fld = some (nm, n) → ∃ dd, d = some dd ∧ H1 dd = some (.xd [(nm, .int n)])) → (cm e.c = some false → W (.ref (He.ga X.K e.c)) d σ1 H1) →
        wAs X.K c i (fun a cls d => tS X.K (some (a, cls, d)) WF g) W D (.ref (He.ga X.K e.c)) d σ1 H1 := fun d h1 h2 h3 => by
      split at h
      · rename_i ec
        split at h
        · rename_i fr
          exact ⟨true, hcm _ _ ec, fun _ a _ => suite_ok (oi := some i) R1 t1 fr ⟨rfl, h1⟩ h2 h, fun z => nomatch z⟩
        · exact h.elim
      · rename_i ec
        exact ⟨false, hcm _ _ ec, (fun z => nomatch z), fun _ => h3 ec⟩
      · exact h.elim
    unfold EW
    split
    · rename_i ef
      refine all none (fun _ => rfl) (fun nm n z => by rw [ef] at z; cases z) fun ec => ?_
      rw [ec] at h
      have z := h G1 H1 σ1 t1 R1
      unfold EW at z
      rw [ef] at z
      exact z
    · rename_i nm n ef
      intro dd hd
      refine all (some dd) (fun z => by rw [ef] at z; cases z) (fun nm' n' z => by rw [ef] at z; cases z; exact ⟨dd, rfl, hd⟩) fun ec => ?_
      rw [ec] at h
      have z := h G1 H1 σ1 t1 R1
      unfold EW at z
      rw [ef] at z
      exact z dd hd
theorem rs_try_only {x : Str} {c : Value} {body suite : List Stmt} {b₀ : Stmt} {np pos' : Pos} {cm : Str → Option Bool} (hs : X.stack = X.env :: X.outer) (hf : X.env.frame = some X.env.locals) (hc : Names X x c) (tk : L2N.Takes X W)
    (hcm : ∀ nm b, cm nm = some b → PySem.W.exmOne X.K (.ref (He.ga X.K nm)) c = some b)
    (hb : ∀ (W : WX) (pn : List (Addr × Obj)) (xe : Value → Shared → Prop), L2N.Takes (X.tr pn xe) W → PassesOwn (model X.prog X.w) X.A X.env xe → PSs (X.tr pn xe) body (tS K none W f))
    (hsu : ∀ (a : Addr) (oe : Obj) (cls : Value) (d : Option Addr) (pn : List (Addr × Obj)), L2N.Zn cls d oe → (∃ vs, oe.data = .fields vs) → PSs (X.suite a ((a, oe) :: pn)) (b₀ :: suite) (tS K (some (a, cls, d)) WF g)) (hK : X.K = K := by rfl) :
    PS X (.Try body [.ExceptHandler (some (.Name x np)) none (b₀ :: suite) pos'] [] [] pos) (tS K none W (tryS cm none f g)) := by
  subst hK
  refine PS.mono (L2N.ps_try_many hs hf tk hb (.cons hc hsu .nil)) fun D σ H h => ?_
  obtain ⟨G, s, R, h⟩ := h
  refine ⟨G, s, R, ?_⟩
  have h : PoS X.K none W G H σ s (hdX cm none g (f s)) D := h
  cases q : f s with
  | nx s1 => rw [q] at h; exact h
  | rt v s1 => rw [q] at h; exact h
  | bk s1 => rw [q] at h; exact h
  | ct s1 => rw [q] at h; exact h
  | no => rw [q] at h; exact h
  | er e s1 =>
    rw [q] at h
    intro G1 H1 σ1 t1 R1
    have h : PoS X.K none W G H σ s (match cm e.c with
      | some true => if freeN s1 none = true then endX none (g (setN s1 none (some (.x e)))) else .no
      | some false => .er e s1
      | none => .no) D := h
    have all : ∀ d : Option Addr, (e.fld = none → d = none) → (∀ nm n, e.fld = some (nm, n) → ∃ dd, d = some dd ∧ H1 dd = some (.xd [(nm, .int n)])) → (cm e.c = some false → W (.ref (He.ga X.K e.c)) d σ1 H1) →
        wMany X.K W D [(c, fun a cls d => tS X.K (some (a, cls, d)) WF g)] (.ref (He.ga X.K e.c)) d σ1 H1 := fun d h1 h2 h3 => by
      split at h
      · rename_i ec
        rw [if_pos (show freeN s1 none = true from rfl)] at h
        exact ⟨true, hcm _ _ ec, fun _ a _ => suite_ok (oi := none) R1 t1 rfl ⟨rfl, h1⟩ h2 h, fun z => nomatch z⟩
      · rename_i ec
        exact ⟨false, hcm _ _ ec, (fun z => nomatch z), fun _ => h3 ec⟩
      · exact h.elim
    unfold EW
    split
    · rename_i ef
      refine all none (fun _ => rfl) (fun nm n z => by rw [ef] at z; cases z) fun ec => ?_
      rw [ec] at h
      have z := h G1 H1 σ1 t1 R1
      unfold EW at z
      rw [ef] at z
      exact z
    · rename_i nm n ef
      intro dd hd
      refine all (some dd) (fun z => by rw [ef] at z; cases z) (fun nm' n' z => by rw [ef] at z; cases z; exact ⟨dd, rfl, hd⟩) fun ec => ?_
      rw [ec] at h
      have z := h G1 H1 σ1 t1 R1
      unfold EW at z
      rw [ef] at z
      exact z dd hd
end
end M

set_option Elab.async false
set_option linter.all false
set_option maxRecDepth 100000
set_option maxHeartbeats 4000000
/-! xs[i] = e; f(*e); isinstance of the error; a def called in a suite. -/
namespace M
open PySem PySem.Spec PyProof.Rows L2 Sv

/-- xs[k] = v -/
def subS (i : Nat) (fk fv : S → ER Vl) : S → Out := fun s => (fv s).out fun v s1 => match v with
  | .d x => (match lstAt s1 i with
    | some _ => (fk s1).out fun k s2 => (match lstAt s2 i, rd s2 k with
      | some (f, ds), some (.int n) => (match ixN ds.length n with
        | some j => .nx (s2.set i (some (.o f (.L (ds.set j x)))))
        | none => .no)
      | _, _ => .no)
    | none => .no)
  | _ => .no
def seqD : D → Option (List D)
  | .list ds => some ds
  | .tuple ds => some ds
  | _ => none
/-- *e, .. -/
def starA (fa : S → ER Vl) (fr : S → ER (List Vl)) : S → ER (List Vl) := fun s => (fa s).bind fun a s1 => match (rd s1 a).bind seqD with
  | some ds => (fr s1).bind fun r s2 => .ok (ds.map .d ++ r) s2
  | none => .no
/-- isinstance of the error in slot i -/
def isxE (i : Nat) (km : Str → Option Bool) : S → ER Vl := fun s => match s[i]? with
  | some (some (.x e)) => (match e.fld, km e.c with
    | none, some b => .ok (.d (.bool b)) s
    | _, _ => .no)
  | _ => .no
section
variable {X : Cx} {K : PySem.W.Frag} {xi : XI} {W : WX} {G H G' H' G1 H1 G0 H0 : Hp} {σ σ' σ1 σ0 : Ss} {s s' s1 s0 : S} {e ev : Expr} {es : List Expr} {fa fk fv : S → ER Vl} {fr : S → ER (List Vl)} {f g : S → Out} {De : Ends} {pos p q tpos : Pos} {i : Nat}
theorem rs_sub {x : Str} (hx : PE X (.Name x q) (tVar i)) (hk : PE X e (tE K xi W fk)) (hv : PE X ev (tE K xi W fv)) (ha : ∀ v, assign (.Subscript (.Name x q) e tpos) X.env v = (do
      let ov ← holding [v] (eval (.Name x q) X.env)
      let iv ← holding [v, ov] (eval e X.env)
      standAt tpos
      holding [v, ov, iv] (setItem ov iv v)
      release [v, ov, iv] []) := by intro _; rfl) (hs : swapsWithSole [.Subscript (.Name x q) e tpos] ev pos.line X.env = pure false := by rfl) (hw : swappedStores [.Subscript (.Name x q) e tpos] ev X.env = pure none := by rfl)
    (h1 : (assignEach [.Subscript (.Name x q) e tpos] X.env).map (·.2) = [assign (.Subscript (.Name x q) e tpos) X.env] := by rfl) : PS X (.Assign [.Subscript (.Name x q) e tpos] ev pos) (tS K xi W (subS i fk fv)) := by
  refine PS.mono (ps_asg hv (pg_sub hx hk set_list ha) hs hw h1) fun D σ H h => ?_
  obtain ⟨G, s, R, h⟩ := h
  refine ⟨G, s, R, Po.outU .refl h fun va s1 _ v G1 H1 t1 R1 rv h1 => ?_⟩
  cases va with
  | d x =>
    have h1 : PoS K xi W G H σ s (match lstAt s1 i with
      | some _ => (fk s1).out fun k s2 => (match lstAt s2 i, rd s2 k with
        | some (f, ds), some (.int n) => (match ixN ds.length n with
          | some j => .nx (s2.set i (some (.o f (.L (ds.set j x)))))
          | none => .no)
        | _, _ => .no)
      | none => .no) D := h1
    split at h1
    · rename_i gd e1
      obtain ⟨g, ds⟩ := gd
      obtain ⟨_, p1, _, a1, _, _⟩ := lstAt_ok R1 e1
      refine ⟨.ref p1, a1, G1, s1, R1, Po.outU t1 h1 fun k s2 _ kv G2 H2 t2 R2 rk h2 => ?_⟩
      split at h2
      · rename_i f ds2 n e2 e3
        split at h2
        · rename_i j ej
          obtain ⟨b1, p2, vs, b2, b3, b4⟩ := lstAt_ok R2 e2
          rw [a1] at b2
          cases b2
          have rn := rd_ok R2 rk e3
          cases rn
          refine ⟨p1, vs, n, j, rfl, rfl, b3, by rw [b4.len]; exact ej, ?_⟩
          exact h2 G2 _ σ ((t1.trans t2).trans (stp_write R2 b1 a1)) (rep_write R2 b1 a1 ⟨_, upd_same, b4.set (Rp.same t2.gg rv) j⟩)
        · exact h2.elim
      · exact h2.elim
    · exact h1.elim
  | o f b => exact h1.elim
  | r j => exact h1.elim
  | x y => exact h1.elim
  | s ns => exact h1.elim
theorem VRs.app : ∀ {vs us : List V} {ds : List D} {vls : List Vl}, RpAll K G vs ds → VRs K xi H0 σ0 s0 G H σ s us vls → VRs K xi H0 σ0 s0 G H σ s (vs ++ us) (ds.map .d ++ vls)
  | _, _, _, _, .nil, b => b
  | _, _, _, _, .cons a r, b => .cons a (VRs.app r b)
theorem dat_at {ds : List D} {vls : List Vl} {i : Nat} {f : Bool} {b : Ob} (h : (ds.map Vl.d ++ vls)[i]? = some (.o f b)) : ds.length ≤ i ∧ vls[i - ds.length]? = some (.o f b) := by
  by_cases c : i < ds.length
  · rw [List.getElem?_append_left (by simpa using c)] at h
    rw [List.getElem?_map] at h
    cases q : ds[i]? with
    | none => rw [q] at h; cases h
    | some d => rw [q] at h; cases h
  · rw [List.getElem?_append_right (by simpa using c)] at h
    exact ⟨by omega, by simpa using h⟩
theorem ra_star (he : PE X e (tE K xi W fa)) (hr : PA X es (tA K xi W fr)) (hK : X.K = K := by rfl) (hs : starEach (.Starred e p :: es) X.env = (true, eval e X.env) :: starEach es X.env := by rfl) : PA X (.Starred e p :: es) (tA K xi W (starA fa fr)) := by
  subst hK
  refine PA.mono (StX.pa_star he hr hs) fun σ H Q h => ?_
  obtain ⟨G, s, R, h⟩ := h
  refine ⟨G, s, R, Po.bindU .refl h fun va s1 _ x G1 H1 t1 R1 ra h1 => ?_⟩
  cases q : rd s1 va with
  | none => rw [q] at h1; exact h1.elim
  | some d =>
    rw [q] at h1
    have rr := rd_ok R1 ra q
    cases qi : seqD d with
    | none =>
      have h1 : Po X.K xi W (rAs X.K xi) G H σ s (match seqD d with
        | some ds => (fr s1).bind fun r s2 => .ok (ds.map .d ++ r) s2
        | none => .no) Q := h1
      rw [qi] at h1
      exact h1.elim
    | some ds =>
      have h1 : Po X.K xi W (rAs X.K xi) G H σ s (match seqD d with
        | some ds => (fr s1).bind fun r s2 => .ok (ds.map .d ++ r) s2
        | none => .no) Q := h1
      rw [qi] at h1
      have h1 : Po X.K xi W (rAs X.K xi) G H σ s ((fr s1).bind fun r s2 => .ok (ds.map .d ++ r) s2) Q := h1
      have two : ∃ p xs, x = .ref p ∧ (SqT X.K H1 p xs ∨ SqL X.K H1 p xs) ∧ RpAll X.K G1 xs ds := by
        cases rr with
        | lst h a => cases qi; exact ⟨_, _, rfl, .inr (.inl (.inl h)), a⟩
        | tup h a => cases qi; exact ⟨_, _, rfl, .inl (same_t R1.gh h), a⟩
        | _ => cases qi
      obtain ⟨p, xs, rfl, hx, ax⟩ := two
      refine ⟨p, xs, rfl, hx, G1, s1, R1, Po.bindU t1 h1 fun r s2 _ ys G2 H2 t2 R2 rb h2 => ?_⟩
      refine h2 (xs ++ ys) G2 H2 (t1.trans t2) R2 ⟨VRs.app (RpAll.same t2.gg ax) (rb.all.back t1), fun i j f g b c p h1 h2 h3 h4 => ?_⟩
      obtain ⟨l1, e1⟩ := dat_at h1
      obtain ⟨l2, e2⟩ := dat_at h2
      have lx := ax.len
      rw [List.getElem?_append_right (by omega)] at h3 h4
      have := rb.ap (i - ds.length) (j - ds.length) f g b c p e1 e2 (by rw [← lx]; exact h3) (by rw [← lx]; exact h4)
      omega
/-! ### the error's class -/
theorem call_isX {a : Addr} {oe : Obj} {C cls : Value} {d : Option Addr} {c : V} {b : Bool} {nm : Str} {pins : List (Addr × Obj)} {Q : VK} {us : List Value} (hp : (a, oe) ∈ X.pn) (hz : Zc cls d oe) (hf : ∃ vs, oe.data = .fields vs) (hcls : cls = .ref (He.ga X.K nm)) (hd : d = none) (hc : ExcC X.K (He.ga X.K nm)) (hcv : ∀ u, RelV c u → u = C) (hb : PySem.W.kitOne X.K (.ref (He.ga X.K nm)) C = some b)
    {st : Shared} (I : Inv X pins σ H st) (r : Vals [.ref a, c] us) (qq : Q (.bl b) H) : wpAny (model X.prog X.w) X.A (call (.builtin "isinstance") us) (EP X pins σ Q) X.xe st := by
  subst hcls hd
  obtain ⟨u1, u2, rfl, r1, r2⟩ := vals2 r
  cases (show u1 = Value.ref a from r1)
  have e2 := hcv _ r2
  subst e2
  have look := (I.pin (a, oe) (List.mem_append_left _ hp)).1
  obtain ⟨vs, hv⟩ := hf
  have inst : PySem.W.InstAt st.heap a oe (He.ga X.K nm) none := by
    cases oe
    simp only [Zc] at hz
    obtain ⟨z1, z2⟩ := hz
    subst z1 z2 hv
    exact ⟨look, rfl, rfl, trivial⟩
  exact PySem.W.kia_one (PySem.W.handS_kitx_exc hc.hg hc.hk hc.hs hc.hd hc.ha hc.hn hc.ht hc.hm) I.kIn inst hb (fun z => nomatch z) fun tk => ⟨.bl b, H, I.tok tk, rfl, qq⟩
theorem re_isx {a : Addr} {oe : Obj} {cls : Value} {d : Option Addr} {n c : Str} {C : Addr} {km : Str → Option Bool} {q1 q2 : Pos} (hp : (a, oe) ∈ X.pn) (hz : Zc cls d oe) (hf : ∃ vs, oe.data = .fields vs) (hg : Gl X "isinstance") (hm : X.mg "isinstance" = none) (hn : PE X (.Name n q1) (tVar i)) (hc : PE X (.Name c q2) (tC (.ref C)))
    (hk : ∀ nm b, km nm = some b → ExcC X.K (He.ga X.K nm) ∧ PySem.W.kitOne X.K (.ref (He.ga X.K nm)) (.ref C) = some b) (hK : X.K = K := by rfl) (hs : starEach [.Name n q1, .Name c q2] X.env = (false, eval (.Name n q1) X.env) :: starEach [.Name c q2] X.env := by rfl) (hs2 : starEach [.Name c q2] X.env = (false, eval (.Name c q2) X.env) :: starEach [] X.env := by rfl) (hpl : (backTo pos (starEach [.Name c q2] X.env)).any (·.1) = false := by rfl) :
    PE X (.Call (.Name "isinstance" p) [.Name n q1, .Name c q2] [] pos) (tE K (some (a, cls, d)) W (isxE i km)) := by
  subst hK
  refine ⟨fun pins st σ H Q I h => ?_⟩
  obtain ⟨G, s, R, h⟩ := h
  have ha : PA X [.Name n q1, .Name c q2] (tCons (tVar i) (tCons (tC (.ref C)) tNil)) := pa_cons hn (pa_cons hc pa_nil hs2) hs
  unfold isxE at h
  split at h
  · rename_i e qe
    split at h
    · rename_i b ef ek
      obtain ⟨v, sv, a', cls', d', h1, rfl, ⟨h3, h4⟩, h5⟩ := R.sl i _ qe
      cases h1
      obtain ⟨k1, k2⟩ := hk _ _ ek
      refine wpAny_Call_Name_kw (ld_blt I hg hm boot_isinstance ?_)
      refine PyProof.Rows.callWith_builtin1 (thn (ha.run pos pins st σ H (fun vs H1 => vs = [.ref a, .ref C] ∧ H1 = H) I ⟨_, sv, rfl, rfl⟩) fun us s1 ⟨vs, H1, I1, r1, ev, eH⟩ => ?_) hs hpl
      subst ev eH
      exact call_isX (c := .ref C) (C := .ref C) hp hz hf h3 (h4 ef) k1 (fun u r => r) k2 I1 r1 (h _ G _ .refl R (.bl b))
    · exact h.elim
  · exact h.elim
end
end M

set_option Elab.async false
set_option linter.all false
set_option maxRecDepth 100000
set_option maxHeartbeats 4000000
/-! A def called in a suite, with the error. -/
namespace M
open PySem PySem.Spec PyProof.Rows L2 Sv L2H

structure FnI (P : Program) (w : World) (K : PySem.W.Frag) (mg : Str → Option Value) (base : Heap) (k : Nat) (f : Addr) (fd : FuncData) (ps : List Str) (sp : Addr × Obj → Sp) : Prop where
  run : ∀ (p : Addr × Obj) (A : Around) (outer : List Env) (s : Shared) (H : Hp) (args : Args) (us : List Value) (vs : List V) (Q : VK) (E : XK), RoomH k A → Hot1 A p → PinOk outer H s p → Env0 P w K mg base A outer s H → BindsTo s fd args (ps.zip us) → vs.length = ps.length → Vals vs us → sp p vs H Q E →
    codeAny (model P w) A (.call (.ref f) args) (CR (L2N.CX P w) outer P w H s Q E) s
theorem fnI_of {P : Program} {w : World} {K : PySem.W.Frag} {mg : Str → Option Value} {base : Heap} {nm q : Str} {st : Stmt} {f : Addr} {fd : FuncData} {N ps : List Str} {k : Nat} {sp : Addr × Obj → Sp} (F : Fun K nm q st f fd) (S : FnScope N ps (defScope st))
    (hb : ∀ (c : Value) (p : Addr × Obj) (A : Around) (outer : List Env) (s : Shared) (H : Hp) (vs : List V) (Q : VK) (E : XK), Hot1 A p → RoomH k (A.deeper (envOfC q (defScope st) s.heap.objs.size f c)) → sp p vs H Q E →
      ∃ t, PSs (cxH (L2N.CX P w) P w K mg base N q (defScope st) f c A outer s H E p) (defBody st) t ∧ t { nx := fun _ H' => Q .non H', rt := Q } (L2.start N vs) H) : FnI P w K mg base (k + 1) f fd ps sp := by
  refine ⟨fun p A outer s H args us vs Q E rm hot pin e0 bind hl rel hsp => ?_⟩
  obtain ⟨oc, od, kv, dc, pm, an, c, ct, sl, rfl, look, code⟩ := F.ex
  have inK : K.In s.heap := e0.mod.kin.keeps fun _ _ z => (e0.bs _ _ z).1
  have noL : s.heap.NoLimit := e0.mod.nolimit.keeps fun _ _ z => (e0.bs _ _ z).1
  have par : ∀ y ∈ ps.zip us, (defScope st).names.lookup y.1 = some .local ∨ ((defScope st).names.lookup y.1 = some .cell ∧ ((cellsFrom (s.heap.objs.size + 1) (defScope st).names []).lookup y.1).isSome = true) := by
    rintro ⟨n, z⟩ m
    exact (S.par n (List.of_mem_zip m).1).imp id fun e => ⟨e, PySem.W.cellsFrom_some _ _ _ (.inl e)⟩
  refine codeAny_call_function rm.depth (inK _ _ look) rfl S.co S.gen rfl (PySem.W.codeRec_of inK code) (bind _ _ _ _ ?_)
  refine wpAny_newFunctionEnv_cells S.kind par ?_
  rintro env rfl s1 x1
  refine ⟨noL.keeps x1.toInCall.keep, codeAny_func ?_⟩
  obtain ⟨t, ht, goal⟩ := hb c p A outer s H vs Q E hot (rm.deeper _) hsp
  have I := inv_startH (CX := L2N.CX P w) (E := E) S pin e0 hl rel x1
  refine wpAny_mono (ht.run [] s1 _ H _ I goal) ?_ fun _ _ z => z
  rintro fl s2 done
  cases fl with
  | next =>
    obtain ⟨σ2, H2, J, z⟩ := done
    exact ⟨.non, H2, J.os, J.bare, J.base, J.hok, rfl, z⟩
  | ret y =>
    obtain ⟨v2, σ2, H2, J, rv, z⟩ := done
    exact ⟨v2, H2, J.os, J.bare, J.base, J.hok, rv, z⟩
  | brk => exact done.elim fun _ z => z.elim fun _ z => z.2.elim
  | cont => exact done.elim fun _ z => z.elim fun _ z => z.2.elim
structure CalI (P : Program) (w : World) (K : PySem.W.Frag) (mg : Str → Option Value) (base : Heap) (k : Nat) (x : Str) (n : Nat) (sp : Addr × Obj → Sp) : Prop where
  ex : ∃ (f : Addr) (fd : FuncData) (ps : List Str), ps.length = n ∧ FnI P w K mg base k f fd ps sp ∧ mg x = some (.ref f) ∧ PySem.W.keepIn K (.ref f) = true ∧ Binds K fd ps []
/-- the promise: the error of the suite may be among the arguments -/
def spI (K : PySem.W.Frag) (n : Nat) (F : S → ER Vl) : Addr × Obj → Sp := fun p vs H Q E => vs.length = n ∧ ∃ (G : Hp) (s0 : S) (cls : Value) (d : Option Addr), Zc cls d p.2 ∧ (∃ vs, p.2.data = .fields vs) ∧ (∀ a ∈ s0, isArg a) ∧ Rep K (some (p.1, cls, d)) G H (vs.map some) s0 ∧
  Po K (some (p.1, cls, d)) (WX0 E) (VR K (some (p.1, cls, d))) G H (vs.map some) s0 (F s0) Q
theorem fin_ofI {K : PySem.W.Frag} {H : Hp} {f : S → Out} {n : Nat} {N : List Str} {vs : List V} {Q : VK} {E : XK} {p : Addr × Obj} {X : Cx} {bd : List Stmt} (h : spI K n (fin N.length f) p vs H Q E)
    (hb : ∀ (cls : Value) (d : Option Addr), Zc cls d p.2 → (∃ vs, p.2.data = .fields vs) → PSs X bd (tS K (some (p.1, cls, d)) (WX0 E) f)) : ∃ t, PSs X bd t ∧ t { nx := fun _ H' => Q .non H', rt := Q } (L2.start N vs) H := by
  obtain ⟨_, G, s0, cls, d, hz, hf, ha, R, h⟩ := h
  exact ⟨_, hb cls d hz hf, fin_gen ha R h⟩
def call1I (n : Nat) (F : S → ER Vl) (vls : List Vl) (s1 : S) : ER Vl := match argVs s1 vls with
  | some as => if (refs vls).Nodup ∧ vls.length = n then callR vls s1 (F (argS as)) else .no
  | none => .no
def callI (n : Nat) (F : S → ER Vl) (fa : S → ER (List Vl)) : S → ER Vl := fun s => (fa s).bind fun vls s1 => call1I n F vls s1
section
variable {X : Cx} {K : PySem.W.Frag} {xi : XI} {W : WX} {G H G' H' G1 H1 : Hp} {σ σ' σ1 : Ss} {s s' s1 : S}
theorem re_callI {n k : Nat} {F : S → ER Vl} {fa : S → ER (List Vl)} {x : Str} {p pos : Pos} {e : Expr} {es : List Expr} {a : Addr} {oe : Obj} {cls : Value} {d : Option Addr} (c : CalI X.prog X.w X.K X.mg X.base k x n (spI X.K n F)) (hr : RoomH k X.A) (hot : Hot1 X.A (a, oe)) (hp : (a, oe) ∈ X.pn) (hz : Zc cls d oe) (hf : ∃ vs, oe.data = .fields vs) (hg : Gl X x)
    (ha : PA X (e :: es) (tA K (some (a, cls, d)) WF fa)) (hK : X.K = K := by rfl) (hdb : (x == ("__debug__" : Str)) = false := by decide)
    (he : starEach (e :: es) X.env = (false, eval e X.env) :: starEach es X.env := by rfl) (hpl : (backTo pos (starEach es X.env)).any (·.1) = false := by rfl) : PE X (.Call (.Name x p) (e :: es) [] pos) (tE K (some (a, cls, d)) WF (callI n F fa)) := by
  subst hK
  obtain ⟨f, fd, ps, hn, F1, hm, hk, hb⟩ := c.ex
  refine ⟨fun pins st σ H Q I h => ?_⟩
  obtain ⟨G, s, R, h⟩ := h
  have h2 : tA X.K (some (a, cls, d)) WF fa σ H fun vs H1 => spI X.K n F (a, oe) vs H1 Q fun _ _ _ => False := by
    refine ⟨G, s, R, Po.bindU .refl h fun vls s1 _ vs G1 H1 t1 R1 ra h1 => ?_⟩
    unfold call1I at h1
    split at h1
    · rename_i as ea
      split at h1
      · rename_i cond
        obtain ⟨nd, ln⟩ := cond
        obtain ⟨ia, Ra⟩ := rep_args R1 ra.all ea nd
        refine ⟨by rw [ra.all.len]; exact ln, G1, argS as, cls, d, hz, hf, ia, Ra, ?_⟩
        generalize F (argS as) = r at h1
        cases r with
        | ok vl s' =>
          cases vl with
          | d x => exact fun v G' H' t R' rv => (by
              obtain ⟨t2, R2, _⟩ := call_back R1 ra.all ea nd t R'
              exact h1 v G' H' (t1.trans t2) R2 rv)
          | o f b =>
            cases f with
            | true => exact fun v G' H' t R' rv => (by
                obtain ⟨t2, R2, dn⟩ := call_back R1 ra.all ea nd t R'
                obtain ⟨_, p, rfl, w1, w2, w3, w4⟩ := rv
                have hp : H1 p = none := by
                  rcases w2 with z | ⟨k, c, z1, z2⟩
                  · exact z
                  · obtain ⟨e, _⟩ := arg_o ra.all ea (argS_at.mp z1)
                    cases e
                refine h1 _ G' H' (t1.trans t2) R2 ⟨rfl, p, rfl, w1, .inl ?_, w3, fun g w => R1.noOwn hp g (dn g p w)⟩
                cases q : H p with
                | none => rfl
                | some o => exact absurd hp (t1.lv p (ne_none q)))
            | false => exact h1.elim
          | r i => exact h1.elim
          | x e => exact h1.elim
          | s ns => exact h1.elim
        | er e s' => exact fun G' H' t R' => (by
            obtain ⟨t2, R2, _⟩ := call_back R1 ra.all ea nd t R'
            have z := h1 G' H' (t1.trans t2) R2
            unfold EW at z ⊢
            exact z)
        | no => exact h1.elim
      · exact h1.elim
    · exact h1.elim
  refine wpAny_Call_Name_kw (ld_glob I hg hm ?_ hdb)
  refine PySem.W.callWith_K (h₀ := X.base) I.ok.mod.kin hk (thn (ha.run pos pins st σ H _ I h2) fun us s1 ⟨vs, H1, I1, r, q⟩ => ⟨I1.kIn, ?_⟩) he hpl
  have hv : vs.length = ps.length := by rw [hn]; exact q.1
  have pn := I1.pin (a, oe) (List.mem_append_left _ hp)
  have pin : PinOk X.stack H1 s1 (a, oe) := ⟨pn.1, pn.2.1, fun m => (List.mem_cons.mp (I1.stkSub a m)).elim pn.2.2.1 pn.2.2.2.1, pn.2.2.2.2⟩
  have bd := hb s1 us I1.kIn (by rw [List.append_nil, ← r.length]; exact hv)
  rw [List.append_nil] at bd
  refine wpAny_call (codeAny_mono (F1.run (a, oe) X.A X.stack s1 H1 ⟨us, []⟩ us vs Q (fun _ _ _ => False) hr hot pin I1.env0 bd hv r q) fun r s' z => ?_)
  cases r with
  | error u =>
    obtain ⟨_, _, _, _, _, _, _, _, _, _, _, _, y⟩ := z
    exact y.elim
  | ok fl =>
    cases fl with
    | ret u => exact I1.after z
    | next => exact False.elim z
    | brk => exact False.elim z
    | cont => exact False.elim z
end
end M

set_option Elab.async false
set_option linter.all false
set_option maxRecDepth 100000
set_option maxHeartbeats 4000000
/-! The law's own def, called by the claim itself: nothing is under repr there. -/
namespace M
open PySem PySem.Spec PyProof.Rows L2 Sv

/-- the law's def keeps sp where the claim calls it -/
def LawN (P : Program) (w : World) (K : PySem.W.Frag) (mg : Str → Option Value) (base : Heap) (f : Addr) (fd : FuncData) (x : Str) (sp : Sp) : Prop :=
  ∀ (s : Shared) (H : Hp) (u : Value) (v : V) (Q : VK) (E : XK), Env0 P w K mg base callerA [] s H → BindsTo s fd ⟨[u], []⟩ [(x, u)] → RelV v u → sp [v] H Q E →
    codeAny (model P w) callerA (.call (.ref f) ⟨[u], []⟩) (CR (L2N.CX P w) [] P w H s Q E) s
theorem room_claimN {k : Nat} (h : k ≤ 20) : Room k callerA := (show Room 20 callerA from ⟨rfl, by decide, by decide⟩).mono h
theorem law_goesN {P : Program} {w : World} {K : PySem.W.Frag} {mg : Str → Option Value} {base : Heap} {nm q x : Str} {st : Stmt} {f : Addr} {fd : FuncData} {N : List Str} {sp : Sp} (F : Fun K nm q st f fd) (S : FnScope N [x] (defScope st))
    (hb : ∀ (c : Value) (s : Shared) (H : Hp) (v : V) (Q : VK) (E : XK), Room 19 (callerA.deeper (envOfC q (defScope st) s.heap.objs.size f c)) → sp [v] H Q E →
      ∃ t, PSs (cxOf (L2N.CX P w) P w K mg base N q (defScope st) f c callerA [] s H E) (defBody st) t ∧ t ⟨fun _ H' => Q .non H', Q, fun _ _ => False, fun _ _ => False⟩ (start N [v]) H) : LawN P w K mg base f fd x sp := by
  intro s H u v Q E e0 bind rel hsp
  obtain ⟨oc, od, kv, dc, pm, an, c, ct, sl, rfl, look, code⟩ := F.ex
  have inK : K.In s.heap := e0.mod.kin.keeps fun _ _ z => (e0.bs _ _ z).1
  have noL : s.heap.NoLimit := e0.mod.nolimit.keeps fun _ _ z => (e0.bs _ _ z).1
  have par : ∀ y ∈ [x].zip [u], (defScope st).names.lookup y.1 = some .local ∨ ((defScope st).names.lookup y.1 = some .cell ∧ ((cellsFrom (s.heap.objs.size + 1) (defScope st).names []).lookup y.1).isSome = true) := by
    rintro ⟨n, z⟩ m
    exact (S.par n (List.of_mem_zip m).1).imp id fun e => ⟨e, PySem.W.cellsFrom_some _ _ _ (.inl e)⟩
  have rm : Room 20 callerA := room_claimN (Nat.le_refl _)
  refine codeAny_call_function rm.depth (inK _ _ look) rfl S.co S.gen rfl (PySem.W.codeRec_of inK code) (bind _ _ _ _ ?_)
  refine wpAny_newFunctionEnv_cells S.kind par ?_
  rintro env rfl s1 x1
  refine ⟨noL.keeps x1.toInCall.keep, codeAny_func ?_⟩
  obtain ⟨t, ht, goal⟩ := hb c s H v Q E (rm.deeper _) hsp
  have I := inv_start (CX := L2N.CX P w) (E := E) S rm.hd e0 (vs := [v]) (us := [u]) rfl (.cons rel .nil) x1
  refine wpAny_mono (ht.run [] s1 _ H _ I goal) ?_ fun _ _ z => z
  rintro fl s2 done
  cases fl with
  | next =>
    obtain ⟨σ2, H2, J, z⟩ := done
    exact ⟨.non, H2, J.os, J.bare, J.base, J.hok, rfl, z⟩
  | ret y =>
    obtain ⟨v2, σ2, H2, J, rv, z⟩ := done
    exact ⟨v2, H2, J.os, J.bare, J.base, J.hok, rv, z⟩
  | brk => exact done.elim fun _ z => z.elim fun _ z => z.2.elim
  | cont => exact done.elim fun _ z => z.elim fun _ z => z.2.elim

/-- what may stand in the heap ahead of the call: the script alone -/
def ScriptN (K : PySem.W.Frag) (a : Addr) (us : List Value) (vs : List V) (H : Hp) : Prop :=
  ∀ b o, H b = some o → b = a ∧ K.lookup a = none ∧ o = .frz { cls := .type "list", data := .seq us.toArray } (.lst vs)
theorem claim_callN {P : Program} {w : World} {K : PySem.W.Frag} {mg mb : Str → Option Value} {f a : Addr} {fd : FuncData} {x : Str} {sp : Sp} {s : Shared} {us : List Value} {ns : List Int}
    (inK : K.In s.heap) (glob : s.heap.Ns mainGlobals mg) (blt : s.heap.Ns builtinsNs mb) (boot : ∀ y : Str, y ≠ "__name__" → mb y = bootBuiltins y) (lim : s.heap.NoLimit) (gen : s.gens = #[])
    (script : s.heap.get? a = some { cls := .type "list", data := .seq us.toArray }) (isI : IntsAre us ns) (few : ns.length ≤ sizeLine)
    (F : ∀ base : Heap, K.In base → base.Ns mainGlobals mg → LawN P w K mg base f fd x sp) (bind : ∀ (s : Shared) (u : Value), BindsTo s fd ⟨[u], []⟩ [(x, u)])
    (law : ∀ H : Hp, SqL K H a (ns.map V.int) → sp [.ref a] H (fun v _ => v = .bl true) fun _ _ _ => False) :
    codeAny (model P w) callerA (.call (.ref f) ⟨[.ref a], []⟩) (fun r s' => r = .ok (.ret (.bool true)) ∧ OldK s.heap s'.heap ∧ s'.os = s.os ∧ AllBare s'.gens) s := by
  have rel := vals_ints isI
  have few2 : (ns.map V.int).length ≤ sizeLine := by rw [List.length_map]; exact few
  -- the heap that the walk begins with
  obtain ⟨H, one, seen⟩ : ∃ H : Hp, ScriptN K a us (ns.map V.int) H ∧ SqL K H a (ns.map V.int) := by
    cases look : K.lookup a with
    | none =>
      refine ⟨upd (fun _ => none) a (.frz { cls := .type "list", data := .seq us.toArray } (.lst (ns.map V.int))), fun b o z => ?_, .inl (.inr ⟨_, upd_same⟩)⟩
      by_cases e : b = a
      · subst e
        rw [upd_same] at z
        exact ⟨rfl, look, (Option.some.inj z).symm⟩
      · rw [upd_ne e] at z
        cases z
    | some o =>
      have z := inK a o look
      rw [script] at z
      cases z
      exact ⟨fun _ => none, fun b o z => (nomatch z), .inr ⟨_, us.toArray, _, look, rfl, rfl, rfl, by rw [List.size_toArray, isI.length]; exact few, by simpa using rel⟩⟩
  have ok : HOk P w H s.heap := fun b o z => by
    obtain ⟨rfl, _, rfl⟩ := one b o z
    exact ⟨script, few2, us, _, rel, script⟩
  have down : ∀ {b : Addr} {o : Obj}, s.heap.get? b = some o → b ≠ a ∨ K.lookup a ≠ none → (hidT s.heap H).get? b = some o := fun {b o} g n => by
    refine hidT_get g ?_
    cases z : H b with
    | none => rfl
    | some u =>
      obtain ⟨e1, e2, _⟩ := one b u z
      exact (n.elim (fun n => n e1) fun n => n e2).elim
  have dict : ∀ {b : Addr} {m : Str → Option Value}, s.heap.Ns b m → (hidT s.heap H).Ns b m := fun {b m} ⟨o, es, ep, e, d, r⟩ => by
    refine ⟨o, es, ep, down e (.inl fun z => ?_), d, r⟩
    rw [z, script] at e
    have e1 := congrArg Obj.data (Option.some.inj e)
    rw [d] at e1
    cases e1
  have fragIn : K.In (hidT s.heap H) := fun b o z => down (inK b o z) (by
    by_cases e : b = a
    · refine .inr ?_
      rw [← e, z]
      simp
    · exact .inl e)
  have env : Env0 P w K mg (hidT s.heap H) callerA [] s H :=
    { frames := rfl, mod := ⟨fragIn, dict glob, ⟨mb, dict blt, boot⟩, lim.elim fun m z => ⟨m, dict z.1, z.2⟩⟩, bs := fun _ _ z => of_hidT z, bsz := by rw [hidT_size]; exact Nat.le_refl _, funs := trivial,
      frf := fun b m => (nomatch m), hok := ok, bare := .of_eq gen }
  have run := F _ fragIn (dict glob) s H (.ref a) (.ref a) _ _ env (bind s _) rfl (law H seen)
  refine codeAny_mono run fun r s2 z => ?_
  cases r with
  | error e =>
    obtain ⟨_, _, _, _, _, _, _, _, _, _, _, _, y⟩ := z
    exact y.elim
  | ok fl =>
    cases fl with
    | ret u =>
      obtain ⟨v, H2, os, bare, un, ok2, rv, rfl⟩ := z
      cases (show u = Value.bool true from rv)
      refine ⟨rfl, OldK.of_keep fun b o g => ?_, os, bare⟩
      cases y : H b with
      | none => exact un.keep b o g y (fun m => (nomatch m)) (fun m => (nomatch m))
      | some h =>
        obtain ⟨rfl, _, rfl⟩ := one b h y
        have k2 := (ok2 _ _ (un.frzs _ _ _ y)).1
        rw [script] at g
        cases g
        exact k2
    | next => exact z.elim
    | brk => exact z.elim
    | cont => exact z.elim
/-- the end of a law's head, the law walked where the claim calls it -/
theorem claim_walkN {l : PySem.W.OpenLaw} {n : Nat} {q : Program} {loose : List Str} {XP : (Str → Option Value) → Heap → Prop} {YP : World → Heap → Prop} {d : DefRec} {x : Str} (most : l.most = some n) (line : n ≤ sizeLine) (plain : d.params.defaults = [])
    (F : ∀ (w : World) (mg : Str → Option Value) (f : Addr) (h : Heap), YP w h → h.Ns mainGlobals mg → mg d.name = some (.ref f) →
      ∃ (K : PySem.W.Frag) (fd : FuncData) (sp : Sp), K.In h ∧ (∀ (s : Shared) (u : Value), BindsTo s fd ⟨[u], []⟩ [(x, u)]) ∧
        (∀ (H : Hp) (a : Addr) (ns : List Int), ns.length ≤ n → SqL K H a (ns.map V.int) → sp [.ref a] H (fun v _ => v = .bl true) fun _ _ _ => False) ∧
        ∀ base : Heap, K.In base → base.Ns mainGlobals mg → LawN l.prog w K mg base f fd x sp) : PySem.W.WalkO q loose XP YP l.row.toRowW d [] (fun f vs => PySem.call f vs) := by
  refine Att.attach_call most plain ?_
  intro w s0 s1 mg mb f o pm cd dc a us ns G Y _ _ _ name obj isI len gen
  obtain ⟨K, fd, sp, inK, bind, law, goes⟩ := F w mg f _ Y G.T.g name
  exact claim_callN inK G.T.g G.T.b G.T.builtins G.T.nolimit gen obj isI (Nat.le_trans len line) goes bind fun H seen => law H a ns len seen
theorem takesF {X : Cx} : L2N.Takes X WF := fun u s' ⟨_, _, _, _, _, _, _, _, _, _, _, _, _, _, _, _, z⟩ => z.elim
section
variable {P : Program} {w : World} {K : PySem.W.Frag} {mg : Str → Option Value} {base : Heap}
theorem okN {x qual : Str} {st : Stmt} {f : Addr} {fd : FuncData} {N ps : List Str} {k n : Nat} {b : S → Out} (F : Fun K x qual st f fd) (S : FnScope N ps (defScope st)) (hn : n = ps.length)
    (hbody : ∀ (cdv : Value) (A : Around) (outer : List Env) (s : Shared) (H : Hp) (E : XK), Room k (A.deeper (envOfC qual (defScope st) s.heap.objs.size f cdv)) → PSs (cxOf (L2N.CX P w) P w K mg base N qual (defScope st) f cdv A outer s H E) (defBody st) (tS K none (WX0 E) b)) :
    FnOk P w K mg base (L2N.CX P w) (k + 1) f fd ps (spF K n (fin N.length b)) := by
  obtain ⟨oc, od, kV, doc, pm, an, cdv, ct, osl, rfl, lk, hcd⟩ := F.ex
  exact fn_of lk hcd S (fun vs H Q E h => h.1.trans hn) fun A outer s H vs Q E hr hsp => ⟨_, hbody cdv A outer s H E hr, fin_of hsp⟩
theorem okI {x qual : Str} {st : Stmt} {f : Addr} {fd : FuncData} {N ps : List Str} {k n : Nat} {b : S → Out} (F : Fun K x qual st f fd) (S : FnScope N ps (defScope st))
    (hbody : ∀ (c : Value) (p : Addr × Obj) (A : Around) (outer : List Env) (s : Shared) (H : Hp) (E : XK) (cls : Value) (d : Option Addr), L2H.RoomH k (A.deeper (envOfC qual (defScope st) s.heap.objs.size f c)) → Zc cls d p.2 → (∃ vs, p.2.data = .fields vs) →
      PSs (L2H.cxH (L2N.CX P w) P w K mg base N qual (defScope st) f c A outer s H E p) (defBody st) (tS K (some (p.1, cls, d)) (WX0 E) b)) : FnI P w K mg base (k + 1) f fd ps (spI K n (fin N.length b)) :=
  fnI_of F S fun c p A outer s H vs Q E hot rm hsp => fin_ofI hsp fun cls d hz hf => hbody c p A outer s H E cls d rm hz hf
theorem lawN {q : Str} {st : Stmt} {f : Addr} {fd : FuncData} {N : List Str} {x : Str} {b : S → Out} (F : Fun K x q st f fd) {y : Str} (S : FnScope N [y] (defScope st))
    (hbody : ∀ (c : Value) (s : Shared) (H : Hp) (E : XK), Room 19 (callerA.deeper (envOfC q (defScope st) s.heap.objs.size f c)) → PSs (cxOf (L2N.CX P w) P w K mg base N q (defScope st) f c callerA [] s H E) (defBody st) (tS K none (WX0 E) b)) :
    LawN P w K mg base f fd y (spF K 1 (fin N.length b)) :=
  law_goesN F S fun c s H v Q E hr hsp => ⟨_, hbody c s H E hr, fin_of hsp⟩
end
theorem law_sp {K : PySem.W.Frag} {F : S → ER Vl} {H : Hp} {a : Addr} {ns : List Int} (hs : SqL K H a (ns.map V.int)) (h : ∃ s', F [some (.s ns)] = .ok (.d (.bool true)) s') : spF K 1 F [.ref a] H (fun v _ => v = .bl true) fun _ _ _ => False := by
  obtain ⟨s', e⟩ := h
  refine ⟨rfl, H, [some (.s ns)], fun u m => ?_, ⟨rfl, Same.refl _, fun i vl q => ?_, fun i j f g b c p h1 => ?_⟩, ?_⟩
  · rw [List.mem_singleton.mp m]
    exact trivial
  · match i, q with
    | 0, q => cases q; exact ⟨_, rfl, a, rfl, hs⟩
    | i + 1, q => simp at q
  · match i, h1 with
    | 0, q => cases q
    | i + 1, q => simp at q
  · rw [e]
    intro v G' H' _ _ r
    have r : Rp K G' v (.bool true) := r
    cases r
    rfl
end M

set_option Elab.async false
set_option linter.all false
set_option maxRecDepth 100000
set_option maxHeartbeats 4000000
/-! Facts about the error classes, as tables; words that printed texts use. -/
namespace M
open PySem PySem.Spec PyProof.Rows L2 Sv

def tabF {α : Type} : List (Str × α) → Str → Option α
  | [], _ => none
  | (a, b) :: r, c => if c = a then some b else tabF r c
theorem tabF_mem {α : Type} {c : Str} {b : α} : ∀ {l : List (Str × α)}, tabF l c = some b → (c, b) ∈ l
  | (a, d) :: r, h => by
    unfold tabF at h
    split at h
    · rename_i e
      cases h
      rw [e]
      exact List.mem_cons_self
    · exact List.mem_cons_of_mem _ (tabF_mem h)
abbrev XTab := List (Str × List (Str × Bool))
def kmOf (l : XTab) (C : Str) (nm : Str) : Option Bool := (tabF l nm).bind fun r => tabF r C
theorem kmOf_mem {l : XTab} {C nm : Str} {b : Bool} (h : kmOf l C nm = some b) : ∃ r, (nm, r) ∈ l ∧ (C, b) ∈ r := by
  unfold kmOf at h
  cases q : tabF l nm with
  | none => rw [q] at h; cases h
  | some r => rw [q] at h; exact ⟨r, tabF_mem q, tabF_mem h⟩
def excB (K : PySem.W.Frag) (D : Addr) : Bool :=
  He.eqO (PySem.W.findIn K (.ref D) "__getattribute__") (some (some (.builtin "BaseException.__getattribute__"))) && (He.eqO (PySem.W.findIn K (.ref D) "__getattr__") (some none) &&
    (decide (PySem.W.subIn K (.ref D) (.type "BaseException") = some true) && (PySem.W.hasDictIn K D && (He.eqO (PySem.W.findIn K (.ref D) "__class__") (some (some (.builtin "object.__class__"))) &&
      (He.eqO (PySem.W.specialIn K (.builtin "object.__class__") "__get__") (some (some (.builtin "getset_descriptor.__get__"))) && (decide (PySem.W.takesIn K (.builtin "object.__class__") = some true) && decide (PySem.W.mroIn K D (.type "object") = some true)))))))
theorem excB_ok {K : PySem.W.Frag} {D : Addr} (h : excB K D = true) : ExcC K D := by
  obtain ⟨h1, h⟩ := He.ba h
  obtain ⟨h2, h⟩ := He.ba h
  obtain ⟨h3, h⟩ := He.ba h
  obtain ⟨h4, h⟩ := He.ba h
  obtain ⟨h5, h⟩ := He.ba h
  obtain ⟨h6, h⟩ := He.ba h
  obtain ⟨h7, h8⟩ := He.ba h
  exact ⟨He.eqO_ok h1, He.eqO_ok h2, of_decide_eq_true h3, h4, He.eqO_ok h5, He.eqO_ok h6, of_decide_eq_true h7, of_decide_eq_true h8⟩
/-- isinstance of an error of one class, asked of another: the table is right -/
def kitsB (K : PySem.W.Frag) (l : XTab) : Bool := l.all fun p => excB K (He.ga K p.1) && p.2.all fun q => decide (PySem.W.kitOne K (.ref (He.ga K p.1)) (.ref (He.ga K q.1)) = some q.2)
def exmsB (K : PySem.W.Frag) (l : XTab) : Bool := l.all fun p => p.2.all fun q => decide (PySem.W.exmOne K (.ref (He.ga K p.1)) (.ref (He.ga K q.1)) = some q.2)
theorem km_ok {K : PySem.W.Frag} {l : XTab} (h : kitsB K l = true) {C : Str} : ∀ nm b, kmOf l C nm = some b → ExcC K (He.ga K nm) ∧ PySem.W.kitOne K (.ref (He.ga K nm)) (.ref (He.ga K C)) = some b := fun nm b e => by
  obtain ⟨r, m1, m2⟩ := kmOf_mem e
  obtain ⟨h1, h2⟩ := He.ba (List.all_eq_true.mp h _ m1)
  exact ⟨excB_ok h1, of_decide_eq_true (List.all_eq_true.mp h2 _ m2)⟩
theorem cm_ok {K : PySem.W.Frag} {l : XTab} (h : exmsB K l = true) {C : Str} : ∀ nm b, kmOf l C nm = some b → PySem.W.exmOne K (.ref (He.ga K nm)) (.ref (He.ga K C)) = some b := fun nm b e => by
  obtain ⟨r, m1, m2⟩ := kmOf_mem e
  exact of_decide_eq_true (List.all_eq_true.mp (List.all_eq_true.mp h _ m1) _ m2)
theorem hot_of {a : Addr} {oe : Obj} {cls : Value} {d : Option Addr} {A : Around} (hz : L2N.Zn cls d oe) (hf : ∃ vs, oe.data = .fields vs) (hh : A.handled = some (.ref a)) : L2H.Hot1 A (a, oe) := by
  obtain ⟨vs, e⟩ := hf
  exact ⟨hh, vs, e, hz.2.2 vs e⟩
theorem roomS {j k : Nat} {A : Around} {v : Option Value} (hr : Room k A) (h : j ≤ k) : L2H.RoomH j (A.mark v) := by
  have r := L2H.roomH_of (hr.mono h)
  exact ⟨r.dp, r.un⟩
theorem huH {k : Nat} {A : Around} (hr : L2H.RoomH k A) : A.units + 64 < cLine := by
  have := hr.un
  omega
section
variable {X : Cx} {K : PySem.W.Frag}
theorem ipf {f : Int → Int → Option Int} {g : Int → Int → Int} (h : ∀ i j k, f i j = some k → k = g i j) : OpF K (ipI g) (intD f) := of_int fun i j k H Q e q => ⟨i, j, rfl, rfl, by rw [← h i j k e]; exact q⟩
def adI (i j : Int) : Option Int := some (i + j)
theorem of_iadd : OpF K (ipI fun i j => i + j) (intD adI) := ipf fun i j k e => by cases e; rfl
theorem of_isub : OpF K (ipI fun i j => i - j) (intD subI) := ipf fun i j k e => by cases e; rfl
end
end M

set_option Elab.async false
set_option linter.all false
set_option maxRecDepth 100000
set_option maxHeartbeats 4000000
/-! sorted; turned about. -/
namespace M
open PySem PySem.Spec PyProof.Rows L2 Sv

def leS (a b : Str) : Bool := !ltCps b.cps.toList a.cps.toList
def sortL (xs : List Str) : List Str := xs.mergeSort leS
def sortI (ns : List Int) : List Int := ns.mergeSort fun a b => decide (a ≤ b)
theorem leS_iff {a b : Str} : leS a b = true ↔ a.cps.toList ≤ b.cps.toList := by
  unfold leS
  rw [ltCps_eq, Bool.not_eq_true', decide_eq_false_iff_not, List.not_lt]
theorem leS_trans (a b c : Str) (h1 : leS a b = true) (h2 : leS b c = true) : leS a c = true := leS_iff.mpr (List.le_trans (leS_iff.mp h1) (leS_iff.mp h2))
theorem leS_total (a b : Str) : (leS a b || leS b a) = true := by
  rw [Bool.or_eq_true, leS_iff, leS_iff]
  exact List.le_total _ _
theorem leS_anti {a b : Str} (h1 : leS a b = true) (h2 : leS b a = true) : a = b := by
  rw [tx_of a, tx_of b, List.le_antisymm (leS_iff.mp h1) (leS_iff.mp h2)]
theorem sortL_perm (xs : List Str) : (sortL xs).Perm xs := List.mergeSort_perm _ _
theorem sortL_pair (xs : List Str) : (sortL xs).Pairwise (fun a b => leS a b = true) := List.pairwise_mergeSort (le := leS) leS_trans leS_total xs
theorem rising_pair : ∀ (l : List Str) (p : Str), risingS p l = true → (p :: l).Pairwise (fun a b => leS a b = true)
  | [], p, _ => List.pairwise_singleton _ _
  | x :: r, p, h => by
    have h : (!ltCps x.cps.toList p.cps.toList && risingS x r) = true := h
    rw [Bool.and_eq_true] at h
    have ih := rising_pair r x h.2
    refine List.pairwise_cons.mpr ⟨fun c hc => ?_, ih⟩
    rcases List.mem_cons.mp hc with e | hc
    · rw [e]; exact h.1
    · exact leS_trans _ _ _ h.1 ((List.pairwise_cons.mp ih).1 c hc)
theorem sortL_uniq {xs ys : List Str} (p : ys.Perm xs) (h : sortedS ys = true) : ys = sortL xs := by
  have py : ys.Pairwise (fun a b => leS a b = true) := by
    cases ys with
    | nil => exact .nil
    | cons x r => exact rising_pair r x h
  exact List.Perm.eq_of_pairwise (le := fun a b => leS a b = true) (fun a b _ _ h1 h2 => leS_anti h1 h2) py (sortL_pair xs) (p.trans (sortL_perm xs).symm)
theorem sortI_perm (ns : List Int) : (sortI ns).Perm ns := List.mergeSort_perm _ _
theorem sortI_pair (ns : List Int) : (sortI ns).Pairwise (· ≤ ·) := by
  have := List.pairwise_mergeSort (le := fun a b : Int => decide (a ≤ b)) (fun a b c h1 h2 => decide_eq_true (Int.le_trans (of_decide_eq_true h1) (of_decide_eq_true h2)))
    (fun a b => by rw [Bool.or_eq_true, decide_eq_true_eq, decide_eq_true_eq]; omega) ns
  exact this.imp fun h => of_decide_eq_true h
theorem sortI_uniq {xs ys : List Int} (p : ys.Perm xs) (h : ys.Pairwise (· ≤ ·)) : ys = sortI xs :=
  List.Perm.eq_of_pairwise (le := (· ≤ ·)) (fun a b _ _ h1 h2 => Int.le_antisymm h1 h2) h (sortI_pair xs) (p.trans (sortI_perm xs).symm)
def sortF : List D → Option Vl
  | [.str z] => if z.length < 64 then some (.o true (.L ((sortL (Sv.signs z)).map .str))) else none
  | [.list ds] => match intsOf ds with
    | some ns => some (.o true (.L ((sortI ns).map .int)))
    | none => if ds.length < 64 then (match strsOf ds with
      | some ys => some (.o true (.L ((sortL ys).map .str)))
      | none => none) else none
  | _ => none
def rSortU (K : PySem.W.Frag) : List V → Hp → VK → Prop := fun xs H Q => rSortedS K xs H Q ∨ (rSortedI K xs H Q ∨ ∃ x : Str, xs = [.str x] ∧ x.length < 64 ∧ ∀ ys p, ys.Perm (Sv.signs x) → sortedS ys = true → H p = none → Q (.ref p) (upd H p (.lst (ys.map V.str))))
section
variable {X : Cx} {K : PySem.W.Frag} {G H : Hp}
theorem cr_sortK (hK : X.K = K := by rfl) (hc : X.calm = true := by rfl) : CallR X (.builtin "sorted") (rSortU K) := by
  subst hK
  intro pins s σ H xs us Q I r h
  rcases h with h | h | h
  · exact cr_sortedS pins s σ H xs us Q I r h
  · exact cr_sortedI pins s σ H xs us Q I r h
  · exact call_sorted_text hc pins s σ H xs us Q I r h
theorem strsOf_all {vs : List V} : ∀ {ds : List D} {ys : List Str}, strsOf ds = some ys → RpAll K G vs ds → vs = ys.map V.str ∧ ds = ys.map .str ∧ ∀ y ∈ ys, y.length ≤ sizeLine := by
  induction vs with
  | nil =>
    intro ds ys h r
    cases r
    cases h
    exact ⟨rfl, rfl, fun _ m => nomatch m⟩
  | cons v vs ih =>
    intro ds ys h r
    cases r with
    | cons a r =>
      rename_i d ds
      cases d with
      | str z =>
        have h : (strsOf ds).map (z :: ·) = some ys := h
        cases q : strsOf ds with
        | none => rw [q] at h; cases h
        | some zs =>
          rw [q] at h
          cases h
          obtain ⟨e1, e2, e3⟩ := ih q r
          cases a with
          | str hz => exact ⟨by rw [e1]; rfl, by rw [e2]; rfl, fun y m => (List.mem_cons.mp m).elim (fun e => e ▸ hz) (e3 y)⟩
      | _ => cases h
theorem intsOf_all {vs : List V} : ∀ {ds : List D} {ys : List Int}, intsOf ds = some ys → RpAll K G vs ds → vs = ys.map V.int ∧ ds = ys.map .int := by
  induction vs with
  | nil =>
    intro ds ys h r
    cases r
    cases h
    exact ⟨rfl, rfl⟩
  | cons v vs ih =>
    intro ds ys h r
    cases r with
    | cons a r =>
      rename_i d ds
      cases d with
      | int z =>
        have h : (intsOf ds).map (z :: ·) = some ys := h
        cases q : intsOf ds with
        | none => rw [q] at h; cases h
        | some zs =>
          rw [q] at h
          cases h
          obtain ⟨e1, e2⟩ := ih q r
          cases a with
          | int => exact ⟨by rw [e1]; rfl, by rw [e2]; rfl⟩
      | _ => cases h
theorem all_strs {ys : List Str} (h : ∀ y ∈ ys, y.length ≤ sizeLine) : RpAll K G (ys.map V.str) (ys.map .str) := by
  induction ys with
  | nil => exact .nil
  | cons y r ih => exact .cons (.str (h y List.mem_cons_self)) (ih fun z m => h z (List.mem_cons_of_mem _ m))
theorem all_ints {ys : List Int} : RpAll K G (ys.map V.int) (ys.map .int) := by
  induction ys with
  | nil => exact .nil
  | cons y r ih => exact .cons (.int y) ih
theorem ca_sort : CaF K (rSortU K) sortF := by
  intro G H vs ds z Q g rs e h
  match ds, e with
  | [.str a], e =>
    have e : (if a.length < 64 then some (Vl.o true (.L ((sortL (Sv.signs a)).map .str))) else none) = some z := e
    split at e
    · rename_i c
      cases e
      obtain ⟨v, rfl, r⟩ := rs.one
      cases r with
      | str hz =>
        refine .inr (.inr ⟨a, rfl, c, fun ys p hp hs hn => ?_⟩)
        rw [sortL_uniq hp hs]
        refine h _ _ (.lst hn (all_strs fun y m => ?_))
        have := (sortL_perm (Sv.signs a)).mem_iff.mp m
        obtain ⟨c, _, rfl⟩ := List.mem_map.mp this
        rw [tx_len, sizeLine_eq]
        exact by show 1 ≤ 16777216; decide
    · cases e
  | [.list ds], e =>
    have e : (match intsOf ds with
      | some ns => some (Vl.o true (.L ((sortI ns).map .int)))
      | none => if ds.length < 64 then (match strsOf ds with
        | some ys => some (.o true (.L ((sortL ys).map .str)))
        | none => none) else none) = some z := e
    obtain ⟨v, rfl, r⟩ := rs.one
    cases r with
    | lst h1 ra =>
      split at e
      · rename_i ns q
        cases e
        obtain ⟨rfl, e2⟩ := intsOf_all q ra
        refine .inr (.inl ⟨_, ns, rfl, .inl (.inl h1), fun zs p hp hs hn => ?_⟩)
        rw [sortI_uniq hp hs]
        exact h _ _ (.lst hn all_ints)
      · split at e
        · rename_i c
          split at e
          · rename_i ys q
            cases e
            obtain ⟨rfl, e2, e3⟩ := strsOf_all q ra
            refine .inl ⟨_, ys, rfl, .inl (.inl h1), by rw [e2, List.length_map] at c; exact c, fun zs p hp hs hn => ?_⟩
            rw [sortL_uniq hp hs]
            exact h _ _ (.lst hn (all_strs fun y m => e3 y ((sortL_perm ys).mem_iff.mp m)))
          · cases e
        · cases e
def revND (x : D) : Option Vl := revD x
theorem re_revN {xi : XI} {W : WX} {e : Expr} {fa : S → ER Vl} {k : Nat} {p1 p2 p3 pos : Pos} (ha : PE X e (tE K xi W fa)) (hK : X.K = K := by rfl) : PE X (.Subscript e (.Slice none none (some (.UnaryOp .USub (.Constant (.int 1) k p1) p2)) p3) pos) (tE K xi W (unE revND fa)) := by
  subst hK
  refine PE.mono (PE.or (re_rev rfl ha) (pe_revL ha)) fun σ H Q h => ?_
  obtain ⟨G, s, R, h⟩ := h
  cases q : fa s with
  | no => rw [show unE _ fa s = ER.no from by unfold unE; rw [q]; rfl] at h; exact h.elim
  | er e s1 =>
    rw [show unE _ fa s = ER.er e s1 from by unfold unE; rw [q]; rfl] at h
    exact .inl ⟨G, s, R, by unfold unE; rw [q]; exact h⟩
  | ok va s1 =>
    have h0 : Po X.K xi W (VR X.K xi) G H σ s (un1 revND s1 va) Q := by
      have e : unE revND fa s = un1 revND s1 va := by unfold unE; rw [q]; rfl
      rw [← e]; exact h
    unfold un1 at h0
    cases ed : rd s1 va with
    | none => rw [ed] at h0; exact h0.elim
    | some d =>
      rw [ed] at h0
      cases d with
      | list ds =>
        refine .inr ⟨G, s, R, ?_⟩
        rw [q]
        intro x G1 H1 t1 R1 ra
        have r := rd_ok R1 ra ed
        cases r with
        | @lst a xs _ h1 a1 =>
          refine ⟨a, xs, rfl, .inl (.inl h1), fun p hp => ?_⟩
          have h2 := Po.shift t1 backs_V h0
          exact Ext.fin (.lst hp a1.rev) R1 h2
      | str z => exact .inl ⟨G, s, R, by unfold unE; rw [q]; show Po X.K xi W (VR X.K xi) G H σ s (un1 _ s1 va) Q; unfold un1; rw [ed]; exact h0⟩
      | tuple ds => exact .inl ⟨G, s, R, by unfold unE; rw [q]; show Po X.K xi W (VR X.K xi) G H σ s (un1 _ s1 va) Q; unfold un1; rw [ed]; exact h0⟩
      | _ => exact h0.elim
end
end M

set_option Elab.async false
set_option linter.all false
set_option maxRecDepth 100000
set_option maxHeartbeats 4000000
/-! Reckoning with the functions of defs. -/
namespace M
open PySem PySem.Spec L2 Sv

section
variable {α β : Type} {s s1 : S} {c : Prop} [Decidable c]
theorem bind_ok {a : α} {g : α → S → ER β} : (ER.ok a s).bind g = g a s := rfl
theorem bind_er {e : Exn} {g : α → S → ER β} : (ER.er e s : ER α).bind g = .er e s := rfl
theorem bind_no {g : α → S → ER β} : (ER.no : ER α).bind g = .no := rfl
theorem bind_ite {x y : ER α} {g : α → S → ER β} : (if c then x else y).bind g = if c then x.bind g else y.bind g := by split <;> rfl
theorem ite_and {a b : Bool} : (if a = true then ER.ok (.d (.bool b)) s else ER.ok (.d (.bool false)) s : ER Vl) = .ok (.d (.bool (a && b))) s := by cases a <;> rfl
theorem ite_or {a b : Bool} : (if a = true then ER.ok (.d (.bool true)) s else ER.ok (.d (.bool b)) s : ER Vl) = .ok (.d (.bool (a || b))) s := by cases a <;> rfl
theorem ite_or2 {a b : Bool} : (if a = true then ER.ok (.d (.bool a)) s else ER.ok (.d (.bool b)) s : ER Vl) = .ok (.d (.bool (a || b))) s := by cases a <;> rfl
theorem ite_and2 {a b : Bool} : (if a = true then ER.ok (.d (.bool b)) s else ER.ok (.d (.bool a)) s : ER Vl) = .ok (.d (.bool (a && b))) s := by cases a <;> rfl
theorem ite_andB {a b : Bool} : (if a = true then ER.ok b s else ER.ok false s) = .ok (a && b) s := by cases a <;> rfl
theorem ite_orB {a b : Bool} : (if a = true then ER.ok true s else ER.ok b s) = .ok (a || b) s := by cases a <;> rfl
theorem out_ok {a : α} {g : α → S → Out} : (ER.ok a s).out g = g a s := rfl
theorem out_er {e : Exn} {g : α → S → Out} : (ER.er e s : ER α).out g = .er e s := rfl
theorem out_no {g : α → S → Out} : (ER.no : ER α).out g = .no := rfl
theorem out_ite {x y : ER α} {g : α → S → Out} : (if c then x else y).out g = if c then x.out g else y.out g := by split <;> rfl
theorem seq_nx {g : S → Out} : (Out.nx s).seq g = g s := rfl
theorem seq_rt {g : S → Out} {v : Vl} : (Out.rt v s).seq g = .rt v s := rfl
theorem seq_er {g : S → Out} {e : Exn} : (Out.er e s).seq g = .er e s := rfl
theorem seq_bk {g : S → Out} : (Out.bk s).seq g = .bk s := rfl
theorem seq_ct {g : S → Out} : (Out.ct s).seq g = .ct s := rfl
theorem seq_ite {x y : Out} {g : S → Out} : (if c then x else y).seq g = if c then x.seq g else y.seq g := by split <;> rfl
end
/-- a slot that a loop's name has, or not yet -/
def dv : Option D → Option Vl
  | none => none
  | some x => some (.d x)
theorem dv_some {x : D} : dv (some x) = some (.d x) := rfl
theorem dv_none : dv none = none := rfl
theorem free_dv {x : Option D} : freeO (some (dv x)) = true := by cases x <;> rfl
theorem plain_dv {x : Option D} : plainO (some (dv x)) = true := by cases x <;> rfl
theorem free_d {x : D} : freeO (some (some (.d x))) = true := rfl
theorem plain_dd {x : D} : plainO (some (some (.d x))) = true := rfl
theorem free_n : freeO (some none) = true := rfl
theorem plain_n : plainO (some none) = true := rfl
theorem free_o {b : Ob} : freeO (some (some (.o true b))) = true := rfl
/-! ### calls -/
section
variable {n N : Nat} {b : S → Out} {ds : List D} {x : D} {o : Ob} {e : Exn} {s s1 : S} {F : S → ER Vl}
def ins (ds : List D) : S := ds.map fun d => some (.d d)
theorem outs_ins : ∀ {ds : List D} {s : S}, outs (ins ds) s = ins ds
  | [], s => by cases s <;> rfl
  | d :: ds, [] => rfl
  | d :: ds, x :: r => by
    show some (Vl.d d) :: outs (ins ds) r = some (.d d) :: ins ds
    rw [outs_ins]
theorem argVs_d : ∀ {ds : List D}, argVs s (ds.map .d) = some (ds.map .d)
  | [] => rfl
  | d :: ds => by
    show (argVs s (ds.map .d)).map (Vl.d d :: ·) = some (.d d :: ds.map .d)
    rw [argVs_d]
    rfl
theorem refs_d : ∀ {ds : List D}, refs (ds.map .d) = []
  | [] => rfl
  | d :: ds => refs_d (ds := ds)
theorem plain_d : ∀ {ds : List D}, plainA (ds.map .d) = true
  | [] => rfl
  | d :: ds => by
    have := plain_d (ds := ds)
    unfold plainA at this ⊢
    rw [List.map_cons, List.all_cons, this]
    rfl
theorem back_d : ∀ {ds : List D} {o s : S}, putBack (ds.map .d) o s = s
  | [], o, s => by cases o <;> rfl
  | d :: ds, [], s => rfl
  | d :: ds, x :: o, s => back_d (ds := ds) (o := o)
theorem call1_ds (hn : ds.length = n) : call1 n F (ds.map .d) s = callR (ds.map .d) s (F (ins ds)) := by
  unfold call1
  rw [argVs_d]
  show (if (refs (ds.map .d)).Nodup ∧ (ds.map Vl.d).length = n ∧ plainA (ds.map .d) = true then _ else _) = _
  rw [if_pos ⟨by rw [refs_d]; exact List.nodup_nil, by rw [List.length_map]; exact hn, plain_d⟩]
  show callR (ds.map .d) s (F (argS (ds.map .d))) = _
  unfold argS ins
  rw [List.map_map]
  rfl
/-- a def of data, by its body's end -/
def Gv (ds : List D) (N : Nat) (b : S → Out) : Out := b (ins ds ++ List.replicate (N - ds.length) none)
theorem fin_ins : fin N b (ins ds) = fin1 (ins ds) (Gv ds N b) := by
  unfold fin Gv ins
  rw [List.length_map]
theorem call_rt (hn : ds.length = n) (h : ∃ s1, Gv ds N b = .rt (.d x) s1) : call1 n (fin N b) (ds.map .d) s = .ok (.d x) s := by
  obtain ⟨s1, e⟩ := h
  rw [call1_ds hn, fin_ins, e]
  show ER.ok (Vl.d x) (putBack (ds.map .d) _ s) = _
  rw [back_d]
theorem call_ob (hn : ds.length = n) (h : ∃ s1, Gv ds N b = .rt (.o true o) s1) : call1 n (fin N b) (ds.map .d) s = .ok (.o true o) s := by
  obtain ⟨s1, e⟩ := h
  rw [call1_ds hn, fin_ins, e]
  show ER.ok (Vl.o true o) (putBack (ds.map .d) _ s) = _
  rw [back_d]
theorem call_nx (hn : ds.length = n) (h : ∃ s1, Gv ds N b = .nx s1) : call1 n (fin N b) (ds.map .d) s = .ok (.d .none) s := by
  obtain ⟨s1, e⟩ := h
  rw [call1_ds hn, fin_ins, e]
  show ER.ok (Vl.d .none) (putBack (ds.map .d) _ s) = _
  rw [back_d]
theorem call_er (hn : ds.length = n) (h : ∃ s1, Gv ds N b = .er e s1) : call1 n (fin N b) (ds.map .d) s = .er e s := by
  obtain ⟨s1, e⟩ := h
  rw [call1_ds hn, fin_ins, e]
  show ER.er _ (putBack (ds.map .d) _ s) = _
  rw [back_d]
end
/-! ### a call whose first argument is written -/
section
variable {n N i : Nat} {b : S → Out} {ds : List D} {x : D} {o o' : Ob} {f : Bool} {e : Exn} {s s1 : S} {F : S → ER Vl}
def Gio (o : Ob) (ds : List D) (N : Nat) (b : S → Out) : Out := b (some (.o false o) :: (ins ds ++ List.replicate (N - (ds.length + 1)) none))
theorem fin_io : fin N b (some (.o false o) :: ins ds) = fin1 (some (.o false o) :: ins ds) (Gio o ds N b) := by
  unfold fin Gio ins
  rw [List.length_cons, List.length_map, List.cons_append]
theorem call1_io (hs : s[i]? = some (some (.o f o))) (hn : ds.length + 1 = n) : call1 n F (.r i :: ds.map .d) s = callR (.r i :: ds.map .d) s (F (some (.o false o) :: ins ds)) := by
  have e : argVs s (.r i :: ds.map .d) = some (.o false o :: ds.map .d) := by
    unfold argVs
    have e1 : argV s (.r i) = some (.o false o) := by
      show argR s[i]? = _
      rw [hs]
      rfl
    rw [e1, argVs_d]
    rfl
  unfold call1
  rw [e]
  have r : refs (.r i :: ds.map .d) = [i] := by
    show i :: refs (ds.map .d) = _
    rw [refs_d]
  have p : plainA (.o false o :: ds.map .d) = true := by
    have := plain_d (ds := ds)
    unfold plainA at this ⊢
    rw [List.all_cons, this]
    rfl
  show (if (refs (.r i :: ds.map .d)).Nodup ∧ (Vl.r i :: ds.map Vl.d).length = n ∧ plainA (.o false o :: ds.map .d) = true then _ else _) = _
  rw [if_pos ⟨by rw [r]; simp, by rw [List.length_cons, List.length_map]; exact hn, p⟩]
  unfold argS ins
  rw [List.map_cons, List.map_map]
  rfl
theorem io_outs (h : s1[0]? = some (some (.o false o'))) : outs (some (.o false o) :: ins ds) s1 = some (.o false o') :: ins ds := by
  cases s1 with
  | nil => simp at h
  | cons z r =>
    have h : some z = some (some (.o false o')) := h
    cases h
    show some (Vl.o false o') :: outs (ins ds) r = _
    rw [outs_ins]
theorem io_back (hs : s[i]? = some (some (.o f o))) : putBack (.r i :: ds.map .d) (some (.o false o') :: ins ds) s = s.set i (some (.o f o')) := by
  show putBack (ds.map .d) (ins ds) (match s[i]? with | some (some (.o f _)) => s.set i (some (.o f o')) | _ => s) = _
  rw [hs, back_d]
theorem io_rt (hs : s[i]? = some (some (.o f o))) (hn : ds.length + 1 = n) (h : ∃ s1, Gio o ds N b = .rt (.d x) s1 ∧ s1[0]? = some (some (.o false o'))) : call1 n (fin N b) (.r i :: ds.map .d) s = .ok (.d x) (s.set i (some (.o f o'))) := by
  obtain ⟨s1, e, h0⟩ := h
  rw [call1_io hs hn, fin_io, e]
  show callR _ s (.ok (.d x) (outs (some (.o false o) :: ins ds) s1)) = _
  rw [io_outs h0]
  show ER.ok (Vl.d x) (putBack _ _ s) = _
  rw [io_back hs]
theorem io_ob {q : Ob} (hs : s[i]? = some (some (.o f o))) (hn : ds.length + 1 = n) (h : ∃ s1, Gio o ds N b = .rt (.o true q) s1 ∧ s1[0]? = some (some (.o false o'))) : call1 n (fin N b) (.r i :: ds.map .d) s = .ok (.o true q) (s.set i (some (.o f o'))) := by
  obtain ⟨s1, e, h0⟩ := h
  rw [call1_io hs hn, fin_io, e]
  show callR _ s (.ok (.o true q) (outs (some (.o false o) :: ins ds) s1)) = _
  rw [io_outs h0]
  show ER.ok (Vl.o true q) (putBack _ _ s) = _
  rw [io_back hs]
theorem io_nx (hs : s[i]? = some (some (.o f o))) (hn : ds.length + 1 = n) (h : ∃ s1, Gio o ds N b = .nx s1 ∧ s1[0]? = some (some (.o false o'))) : call1 n (fin N b) (.r i :: ds.map .d) s = .ok (.d .none) (s.set i (some (.o f o'))) := by
  obtain ⟨s1, e, h0⟩ := h
  rw [call1_io hs hn, fin_io, e]
  show callR _ s (.ok (.d .none) (outs (some (.o false o) :: ins ds) s1)) = _
  rw [io_outs h0]
  show ER.ok (Vl.d .none) (putBack _ _ s) = _
  rw [io_back hs]
end
/-! ### comprehensions -/
section
variable {α : Type} {i : α → D} {g : Tg} {c : S → ER Bool} {e : S → ER Vl} {vs : List Nat} {s : S}
theorem lcL_p {P : α → Bool} {f : α → D} : ∀ {xs : List α} {acc : List D}, acc.length + xs.length ≤ 16777216 →
    (∀ a ∈ xs, ∃ s1, g (i a) (wipeS s vs) = some s1 ∧ restS s s1 vs = s ∧ c s1 = .ok (P a) s1 ∧ (P a = true → e s1 = .ok (.d (f a)) s1)) → lcL g c e vs (xs.map i) acc s = .ok (.o true (.L (acc ++ (xs.filter P).map f))) s
  | [], acc, _, _ => by simp [lcL]
  | a :: xs, acc, hl, h => by
    obtain ⟨s1, h1, h2, h3, h4⟩ := h a List.mem_cons_self
    have hr : ∀ b ∈ xs, _ := fun b m => h b (List.mem_cons_of_mem _ m)
    rw [List.length_cons] at hl
    show (match g (i a) (wipeS s vs) with
      | none => ER.no
      | some s1 => match c s1 with
        | .ok true s2 => (match e s2 with
          | .ok (.d x) s3 => if acc.length < 16777216 then lcL g c e vs (xs.map i) (acc ++ [x]) (restS s s3 vs) else .no
          | _ => .no)
        | .ok false s2 => lcL g c e vs (xs.map i) acc (restS s s2 vs)
        | _ => .no) = _
    rw [h1]
    show (match c s1 with
        | .ok true s2 => (match e s2 with
          | .ok (.d x) s3 => if acc.length < 16777216 then lcL g c e vs (xs.map i) (acc ++ [x]) (restS s s3 vs) else .no
          | _ => .no)
        | .ok false s2 => lcL g c e vs (xs.map i) acc (restS s s2 vs)
        | _ => .no) = _
    rw [h3]
    cases hp : P a with
    | false =>
      show lcL g c e vs (xs.map i) acc (restS s s1 vs) = _
      rw [h2, lcL_p (by omega) hr, List.filter_cons, hp]
      rfl
    | true =>
      show (match e s1 with
          | .ok (.d x) s3 => if acc.length < 16777216 then lcL g c e vs (xs.map i) (acc ++ [x]) (restS s s3 vs) else .no
          | _ => .no) = _
      rw [h4 hp]
      show (if acc.length < 16777216 then lcL g c e vs (xs.map i) (acc ++ [f a]) (restS s s1 vs) else .no) = _
      rw [if_pos (by omega), h2, lcL_p (by rw [List.length_append]; show acc.length + 1 + _ ≤ _; omega) hr, List.filter_cons, hp, if_pos rfl, List.map_cons, List.append_assoc]
      rfl
theorem lcL_m {f : α → D} {xs : List α} {acc : List D} (hl : acc.length + xs.length ≤ 16777216)
    (h : ∀ a ∈ xs, ∃ s1, g (i a) (wipeS s vs) = some s1 ∧ restS s s1 vs = s ∧ e s1 = .ok (.d (f a)) s1) : lcL g yesT e vs (xs.map i) acc s = .ok (.o true (.L (acc ++ xs.map f))) s := by
  rw [lcL_p (P := fun _ => true) (f := f) hl fun a m => ?_]
  · rw [List.filter_eq_self.mpr fun _ _ => rfl]
  · obtain ⟨s1, h1, h2, h3⟩ := h a m
    exact ⟨s1, h1, h2, rfl, fun _ => h3⟩
/-- elements that change the state -/
theorem lcL_s {St : S → Prop} {Pr : D → Prop} : ∀ {xs : List α} {acc : List D} {s : S}, acc.length + xs.length ≤ 16777216 → St s →
    (∀ a ∈ xs, ∀ s, St s → ∃ s1 x s3, g (i a) (wipeS s vs) = some s1 ∧ e s1 = .ok (.d x) s3 ∧ St (restS s s3 vs) ∧ Pr x) →
    ∃ ys s', lcL g yesT e vs (xs.map i) acc s = .ok (.o true (.L (acc ++ ys))) s' ∧ St s' ∧ ys.length = xs.length ∧ ∀ y ∈ ys, Pr y
  | [], acc, s, _, hs, _ => ⟨[], s, by simp [lcL], hs, rfl, fun _ m => nomatch m⟩
  | a :: xs, acc, s, hl, hs, h => by
    rw [List.length_cons] at hl
    obtain ⟨s1, x, s3, h1, h2, h3, h4⟩ := h a List.mem_cons_self s hs
    obtain ⟨ys, s', e1, e2, e3, e4⟩ := lcL_s (xs := xs) (acc := acc ++ [x]) (s := restS s s3 vs) (by rw [List.length_append]; show acc.length + 1 + _ ≤ _; omega) h3 fun b m => h b (List.mem_cons_of_mem _ m)
    refine ⟨x :: ys, s', ?_, e2, by rw [List.length_cons, List.length_cons, e3], fun y m => (List.mem_cons.mp m).elim (fun q => q ▸ h4) (e4 y)⟩
    show (match g (i a) (wipeS s vs) with
      | none => ER.no
      | some s1 => match yesT s1 with
        | .ok true s2 => (match e s2 with
          | .ok (.d x) s3 => if acc.length < 16777216 then lcL g yesT e vs (xs.map i) (acc ++ [x]) (restS s s3 vs) else .no
          | _ => .no)
        | .ok false s2 => lcL g yesT e vs (xs.map i) acc (restS s s2 vs)
        | _ => .no) = _
    rw [h1]
    show (match e s1 with
          | .ok (.d x) s3 => if acc.length < 16777216 then lcL g yesT e vs (xs.map i) (acc ++ [x]) (restS s s3 vs) else .no
          | _ => .no) = _
    rw [h2]
    show (if acc.length < 16777216 then lcL g yesT e vs (xs.map i) (acc ++ [x]) (restS s s3 vs) else .no) = _
    rw [if_pos (by omega), e1, List.append_assoc]
    rfl
/-! ### loops -/
variable {b : S → Out} {β : Type}
/-- one turn -/
def turn (g : Tg) (b : S → Out) (d : D) (s : S) : Out := match g d s with
  | none => .no
  | some s1 => b s1
theorem forL_cons {d : D} {ds : List D} : forL g b (d :: ds) s = loopK (forL g b ds) (turn g b d s) := by
  show (match g d s with
    | none => Out.no
    | some s1 => match b s1 with
      | .nx s2 => forL g b ds s2
      | .ct s2 => forL g b ds s2
      | .bk s2 => .nx s2
      | .rt v s2 => .rt v s2
      | .er e s2 => .er e s2
      | .no => .no) = loopK (forL g b ds) (match g d s with
    | none => .no
    | some s1 => b s1)
  cases g d s with
  | none => rfl
  | some s1 =>
    show (match b s1 with
      | .nx s2 => forL g b ds s2
      | .ct s2 => forL g b ds s2
      | .bk s2 => .nx s2
      | .rt v s2 => .rt v s2
      | .er e s2 => .er e s2
      | .no => .no) = loopK (forL g b ds) (b s1)
    cases b s1 <;> rfl
/-- turn by turn -/
theorem forL_fold {St : β → S → Prop} {step : β → α → β} : ∀ {xs : List α} {z : β} {s : S}, St z s → (∀ z, ∀ a ∈ xs, ∀ s, St z s → ∃ s2, (turn g b (i a) s = .nx s2 ∨ turn g b (i a) s = .ct s2) ∧ St (step z a) s2) →
    ∃ s', forL g b (xs.map i) s = .nx s' ∧ St (xs.foldl step z) s'
  | [], z, s, hs, _ => ⟨s, rfl, hs⟩
  | a :: xs, z, s, hs, h => by
    obtain ⟨s2, h2, h3⟩ := h z a List.mem_cons_self s hs
    obtain ⟨s', e1, e2⟩ := forL_fold (xs := xs) h3 fun z b m => h z b (List.mem_cons_of_mem _ m)
    refine ⟨s', ?_, e2⟩
    rw [List.map_cons, forL_cons]
    rcases h2 with h2 | h2 <;> rw [h2] <;> exact e1
/-- a walk that stops at the first that fails -/
theorem forL_all {St : S → Prop} {P : α → Bool} {v : Vl} : ∀ {xs : List α} {s : S}, St s → (∀ a ∈ xs, ∀ s, St s → ∃ s2, St s2 ∧ turn g b (i a) s = if P a = true then .nx s2 else .rt v s2) →
    ∃ s', St s' ∧ forL g b (xs.map i) s = if xs.all P = true then .nx s' else .rt v s'
  | [], s, hs, _ => ⟨s, hs, rfl⟩
  | a :: xs, s, hs, h => by
    obtain ⟨s2, h2, h3⟩ := h a List.mem_cons_self s hs
    rw [List.map_cons, forL_cons, h3, List.all_cons]
    cases P a with
    | false => exact ⟨s2, h2, rfl⟩
    | true => exact forL_all (xs := xs) h2 fun b m => h b (List.mem_cons_of_mem _ m)
/-- what holds turn by turn, by the number of turns -/
theorem forL_n {St : Nat → S → Prop} {s : S} {xs : List α} (h0 : St 0 s) (h : ∀ n a, xs[n]? = some a → ∀ s, St n s → ∃ s2, (turn g b (i a) s = .nx s2 ∨ turn g b (i a) s = .ct s2) ∧ St (n + 1) s2) : ∃ s', forL g b (xs.map i) s = .nx s' ∧ St xs.length s' := by
  suffices hh : ∀ (ys : List α) (k : Nat) (s : S), (∀ n a, ys[n]? = some a → ∀ s, St (k + n) s → ∃ s2, (turn g b (i a) s = .nx s2 ∨ turn g b (i a) s = .ct s2) ∧ St (k + n + 1) s2) → St k s → ∃ s', forL g b (ys.map i) s = .nx s' ∧ St (k + ys.length) s' by
    have := hh xs 0 s (fun n a e s hs => by rw [Nat.zero_add] at hs ⊢; exact h n a e s hs) h0
    rw [Nat.zero_add] at this
    exact this
  intro ys
  induction ys with
  | nil => exact fun k s _ hs => ⟨s, rfl, hs⟩
  | cons a ys ih =>
    intro k s h hs
    obtain ⟨s2, h2, h3⟩ := h 0 a rfl s hs
    obtain ⟨s', e1, e2⟩ := ih (k + 1) s2 (fun n b e s q => by
      have := h (n + 1) b (by simpa using e) s (by rw [show k + (n + 1) = k + 1 + n by omega]; exact q)
      rw [show k + (n + 1) + 1 = k + 1 + n + 1 by omega] at this
      exact this) h3
    refine ⟨s', ?_, by rw [List.length_cons, show k + (ys.length + 1) = k + 1 + ys.length by omega]; exact e2⟩
    rw [List.map_cons, forL_cons]
    rcases h2 with h2 | h2 <;> rw [h2] <;> exact e1
end
end M

set_option Elab.async false
set_option linter.all false
set_option maxRecDepth 100000
set_option maxHeartbeats 4000000
namespace M
open PySem PySem.Spec L2 Sv
noncomputable def b_is_number_of_letters : S → Out := (retS (chE leD leD (cE (.int 2)) (varE 0) (caE lenD (consA (cE (.str "abcdef")) nilA))))
noncomputable def F_is_number_of_letters : S → ER Vl := fin 1 b_is_number_of_letters
noncomputable def b_check_number : S → Out := (ifS (notT (truT (callE 1 F_is_number_of_letters (consA (shE (varE 0)) nilA))))
  (raiS "BadNumber")
  nextS)
noncomputable def F_check_number : S → ER Vl := fin 1 b_check_number
noncomputable def b_letters_of : S → Out := (seqS (dropS (callE 1 F_check_number (consA (shE (varE 0)) nilA)))
  (retS (slE (cE (.str "abcdef")) noP (someP (varE 0)))))
noncomputable def F_letters_of : S → ER Vl := fin 1 b_letters_of
noncomputable def b_is_word : S → Out := (seqS (setS 2 (callE 1 F_letters_of (consA (shE (varE 0)) nilA)))
  (retS (andE (opE leD (caE lenD (consA (varE 1) nilA)) (cE (.int 60))) (opE eqD (mtE isStr stripF (varE 1) (consA (varE 2) nilA)) (cE (.str ""))))))
noncomputable def F_is_word : S → ER Vl := fin 3 b_is_word
noncomputable def b_check_word : S → Out := (ifS (notT (truT (callE 2 F_is_word (consA (shE (varE 0)) (consA (shE (varE 1)) nilA)))))
  (raiS "NotWord")
  nextS)
noncomputable def F_check_word : S → ER Vl := fin 2 b_check_word
noncomputable def b_is_set : S → Out := (retS (andE (opE neD (varE 1) (cE (.str ""))) (opE eqD (varE 1) (mtE isStr joinF (cE (.str "")) (consA (lcE (seqI (shE (varE 0))) (nmG 2) (blT (opE (inD false) (varE 2) (varE 1))) (shE (varE 2)) [2]) nilA)))))
noncomputable def F_is_set : S → ER Vl := fin 3 b_is_set
noncomputable def b_is_context_1 : S → Out := (ifS (andT (notT (truT (callE 2 F_is_set (consA (shE (varE 0)) (consA (shE (varE 4)) nilA))))) (notT (andT (blT (opE eqD (varE 3) (varE 2))) (blT (opE eqD (varE 4) (cE (.str "#")))))))
  (retS (cE (.bool false)))
  nextS)
noncomputable def b_is_context : S → Out := (seqS (ifS (blT (opE gtD (caE lenD (consA (varE 1) nilA)) (cE (.int 2))))
  (retS (cE (.bool false)))
  nextS)
  (seqS (forS (enI (consA (shE (varE 1)) nilA)) (tpG [(nmG 3), (nmG 4)]) b_is_context_1)
  (retS (cE (.bool true)))))
noncomputable def F_is_context : S → ER Vl := fin 5 b_is_context
noncomputable def b_is_new : S → Out := (retS (andE (opE leD (caE lenD (consA (varE 1) nilA)) (cE (.int 3))) (opE eqD (mtE isStr stripF (varE 1) (consA (varE 0) nilA)) (cE (.str "")))))
noncomputable def F_is_new : S → ER Vl := fin 2 b_is_new
noncomputable def b_is_rule : S → Out := (seqS (setS 2 (callE 1 F_letters_of (consA (shE (varE 0)) nilA)))
  (seqS (unpS [(nmG 3), (nmG 4), (nmG 5), (nmG 6)] (varE 1))
  (seqS (ifS (orT (blT (opE neD (caE lenD (consA (varE 3) nilA)) (cE (.int 1)))) (orT (blT (opE (inD true) (varE 3) (varE 2))) (notT (truT (callE 2 F_is_new (consA (shE (varE 2)) (consA (shE (varE 4)) nilA)))))))
  (retS (cE (.bool false)))
  nextS)
  (retS (andE (callE 3 F_is_context (consA (shE (varE 2)) (consA (shE (varE 5)) (consA (cE (.int 0)) nilA)))) (callE 3 F_is_context (consA (shE (varE 2)) (consA (shE (varE 6)) (consA (opE (intD subI) (caE lenD (consA (varE 6) nilA)) (cE (.int 1))) nilA)))))))))
noncomputable def F_is_rule : S → ER Vl := fin 7 b_is_rule
noncomputable def b_is_rules : S → Out := (seqS (dropS (callE 1 F_check_number (consA (shE (varE 0)) nilA)))
  (retS (andE (opE leD (caE lenD (consA (varE 1) nilA)) (cE (.int 8))) (caE allF (consA (lcE (seqI (shE (varE 1))) (nmG 2) yesT (shE (callE 2 F_is_rule (consA (shE (varE 0)) (consA (shE (varE 2)) nilA)))) [2]) nilA)))))
noncomputable def F_is_rules : S → ER Vl := fin 3 b_is_rules
noncomputable def b_check_rule : S → Out := (ifS (notT (truT (callE 2 F_is_rule (consA (shE (varE 0)) (consA (shE (varE 1)) nilA)))))
  (raiS "NotRule")
  nextS)
noncomputable def F_check_rule : S → ER Vl := fin 2 b_check_rule
noncomputable def b_check_rules : S → Out := (ifS (notT (truT (callE 2 F_is_rules (consA (shE (varE 0)) (consA (shE (varE 1)) nilA)))))
  (raiS "NotRule")
  nextS)
noncomputable def F_check_rules : S → ER Vl := fin 2 b_check_rules
noncomputable def b_check_names : S → Out := (ifS (blT (opE neD (mtE isStr joinF (cE (.str "")) (consA (caE sortF (consA (varE 1) nilA)) nilA)) (callE 1 F_letters_of (consA (shE (varE 0)) nilA))))
  (raiS "NotWord")
  nextS)
noncomputable def F_check_names : S → ER Vl := fin 2 b_check_names
noncomputable def b_fits : S → Out := (seqS (ifS (orT (blT (opE ltD (varE 2) (cE (.int 0)))) (blT (opE geD (varE 2) (caE lenD (consA (varE 1) nilA)))))
  (retS (opE eqD (varE 0) (cE (.str "#"))))
  nextS)
  (retS (opE (inD false) (opE ixD (varE 1) (varE 2)) (varE 0))))
noncomputable def F_fits : S → ER Vl := fin 3 b_fits
noncomputable def b_all_fit_1 : S → Out := (ifS (notT (truT (callE 3 F_fits (consA (shE (varE 4)) (consA (shE (varE 1)) (consA (shE (opE addD (varE 2) (varE 3))) nilA))))))
  (retS (cE (.bool false)))
  nextS)
noncomputable def b_all_fit : S → Out := (seqS (forS (enI (consA (shE (varE 0)) nilA)) (tpG [(nmG 3), (nmG 4)]) b_all_fit_1)
  (retS (cE (.bool true))))
noncomputable def F_all_fit : S → ER Vl := fin 5 b_all_fit
noncomputable def b_stands_at : S → Out := (seqS (unpS [(nmG 3), (nmG 4), (nmG 5), (nmG 6)] (varE 0))
  (retS (andE (opE eqD (opE ixD (varE 1) (varE 2)) (varE 3)) (andE (callE 3 F_all_fit (consA (shE (varE 5)) (consA (shE (varE 1)) (consA (opE (intD subI) (varE 2) (caE lenD (consA (varE 5) nilA))) nilA)))) (callE 3 F_all_fit (consA (shE (varE 6)) (consA (shE (varE 1)) (consA (opE addD (varE 2) (cE (.int 1))) nilA))))))))
noncomputable def F_stands_at : S → ER Vl := fin 7 b_stands_at
noncomputable def b_indexes_of : S → Out := (retS (lcE (rng1I (consA (caE lenD (consA (varE 1) nilA)) nilA)) (nmG 2) (truT (callE 3 F_stands_at (consA (shE (varE 0)) (consA (shE (varE 1)) (consA (shE (varE 2)) nilA))))) (shE (varE 2)) [2]))
noncomputable def F_indexes_of : S → ER Vl := fin 3 b_indexes_of
noncomputable def b_parts_of_1 : S → Out := (subS 2 (varE 3) (opE ixD (varE 0) (cE (.int 1))))
noncomputable def b_parts_of : S → Out := (seqS (setS 2 (caE lstF (consA (varE 1) nilA)))
  (seqS (forS (seqI (shE (callE 2 F_indexes_of (consA (shE (varE 0)) (consA (shE (varE 1)) nilA))))) (nmG 3) b_parts_of_1)
  (retS (varE 2))))
noncomputable def F_parts_of : S → ER Vl := fin 4 b_parts_of
noncomputable def b_changed : S → Out := (seqS (dropS (callE 2 F_check_rule (consA (shE (varE 0)) (consA (shE (varE 1)) nilA))))
  (seqS (dropS (callE 2 F_check_word (consA (shE (varE 0)) (consA (shE (varE 2)) nilA))))
  (retS (mtE isStr joinF (cE (.str "")) (consA (callE 2 F_parts_of (consA (shE (varE 1)) (consA (shE (varE 2)) nilA))) nilA)))))
noncomputable def F_changed : S → ER Vl := fin 3 b_changed
noncomputable def b_turned : S → Out := (seqS (dropS (callE 2 F_check_rule (consA (shE (varE 0)) (consA (shE (varE 1)) nilA))))
  (seqS (unpS [(nmG 2), (nmG 3), (nmG 4), (nmG 5)] (varE 1))
  (retS (tupE (consA (shE (varE 2)) (consA (shE (unE revND (varE 3))) (consA (shE (unE revND (varE 5))) (consA (shE (unE revND (varE 4))) nilA))))))))
noncomputable def F_turned : S → ER Vl := fin 6 b_turned
noncomputable def b_renamed_letters : S → Out := (retS (mtE isStr joinF (cE (.str "")) (consA (lcE (seqI (shE (varE 2))) (nmG 3) yesT (opE ixD (varE 1) (mtE isStr sindexF (varE 0) (consA (varE 3) nilA))) [3]) nilA)))
noncomputable def F_renamed_letters : S → ER Vl := fin 4 b_renamed_letters
noncomputable def b_renamed_places : S → Out := (retS (caE tupF (consA (lcE (seqI (shE (varE 2))) (nmG 3) yesT (shE (ifE (blT (opE eqD (varE 3) (cE (.str "#")))) (varE 3) (mtE isStr joinF (cE (.str "")) (consA (caE sortF (consA (callE 3 F_renamed_letters (consA (shE (varE 0)) (consA (shE (varE 1)) (consA (shE (varE 3)) nilA)))) nilA)) nilA)))) [3]) nilA)))
noncomputable def F_renamed_places : S → ER Vl := fin 4 b_renamed_places
noncomputable def b_renamed_word : S → Out := (seqS (dropS (callE 2 F_check_word (consA (shE (varE 0)) (consA (shE (varE 1)) nilA))))
  (seqS (dropS (callE 2 F_check_names (consA (shE (varE 0)) (consA (shE (varE 2)) nilA))))
  (retS (callE 3 F_renamed_letters (consA (shE (callE 1 F_letters_of (consA (shE (varE 0)) nilA))) (consA (shE (varE 2)) (consA (shE (varE 1)) nilA)))))))
noncomputable def F_renamed_word : S → ER Vl := fin 3 b_renamed_word
noncomputable def b_renamed : S → Out := (seqS (dropS (callE 2 F_check_rule (consA (shE (varE 0)) (consA (shE (varE 1)) nilA))))
  (seqS (dropS (callE 2 F_check_names (consA (shE (varE 0)) (consA (shE (varE 2)) nilA))))
  (seqS (setS 3 (callE 1 F_letters_of (consA (shE (varE 0)) nilA)))
  (seqS (unpS [(nmG 4), (nmG 5), (nmG 6), (nmG 7)] (varE 1))
  (retS (tupE (consA (shE (callE 3 F_renamed_letters (consA (shE (varE 3)) (consA (shE (varE 2)) (consA (shE (varE 4)) nilA))))) (consA (shE (callE 3 F_renamed_letters (consA (shE (varE 3)) (consA (shE (varE 2)) (consA (shE (varE 5)) nilA))))) (consA (shE (callE 3 F_renamed_places (consA (shE (varE 3)) (consA (shE (varE 2)) (consA (shE (varE 6)) nilA))))) (consA (shE (callE 3 F_renamed_places (consA (shE (varE 3)) (consA (shE (varE 2)) (consA (shE (varE 7)) nilA))))) nilA))))))))))
noncomputable def F_renamed : S → ER Vl := fin 8 b_renamed
noncomputable def b_check_list : S → Out := (seqS (dropS (callE 2 F_check_rules (consA (shE (varE 0)) (consA (shE (varE 1)) nilA))))
  (dropS (callE 2 F_check_word (consA (shE (varE 0)) (consA (shE (varE 2)) nilA)))))
noncomputable def F_check_list : S → ER Vl := fin 3 b_check_list
noncomputable def b_check_made : S → Out := (ifS (blT (opE gtD (caE lenD (consA (varE 0) nilA)) (cE (.int 2000))))
  (raiS "TooLarge")
  nextS)
noncomputable def F_check_made : S → ER Vl := fin 1 b_check_made
noncomputable def b_steps_1 : S → Out := (seqS (setS 1 (mtE isStr joinF (cE (.str "")) (consA (callE 2 F_parts_of (consA (shE (varE 3)) (consA (shE (varE 1)) nilA))) nilA)))
  (seqS (dropS (callE 1 F_check_made (consA (shE (varE 1)) nilA)))
  (dropS (muE dArgs appF 2 (consA (shE (varE 1)) nilA)))))
noncomputable def b_steps : S → Out := (seqS (setS 2 (lstE (consA (shE (varE 1)) nilA)))
  (seqS (forS (seqI (shE (varE 0))) (nmG 3) b_steps_1)
  (retS (varE 2))))
noncomputable def F_steps : S → ER Vl := fin 4 b_steps
noncomputable def b_form_of : S → Out := (seqS (dropS (callE 3 F_check_list (consA (shE (varE 0)) (consA (shE (varE 1)) (consA (shE (varE 2)) nilA)))))
  (retS (opE ixD (callE 2 F_steps (consA (shE (varE 1)) (consA (shE (varE 2)) nilA))) (unE negD (cE (.int 1))))))
noncomputable def F_form_of : S → ER Vl := fin 3 b_form_of
noncomputable def b_turned_rules : S → Out := (seqS (dropS (callE 2 F_check_rules (consA (shE (varE 0)) (consA (shE (varE 1)) nilA))))
  (retS (caE tupF (consA (lcE (seqI (shE (varE 1))) (nmG 2) yesT (shE (callE 2 F_turned (consA (shE (varE 0)) (consA (shE (varE 2)) nilA)))) [2]) nilA))))
noncomputable def F_turned_rules : S → ER Vl := fin 3 b_turned_rules
noncomputable def b_renamed_rules : S → Out := (seqS (dropS (callE 2 F_check_rules (consA (shE (varE 0)) (consA (shE (varE 1)) nilA))))
  (seqS (dropS (callE 2 F_check_names (consA (shE (varE 0)) (consA (shE (varE 2)) nilA))))
  (retS (caE tupF (consA (lcE (seqI (shE (varE 1))) (nmG 3) yesT (shE (callE 3 F_renamed (consA (shE (varE 0)) (consA (shE (varE 3)) (consA (shE (varE 2)) nilA))))) [3]) nilA)))))
noncomputable def F_renamed_rules : S → ER Vl := fin 4 b_renamed_rules
noncomputable def b_stands : S → Out := (seqS (dropS (callE 2 F_check_rule (consA (shE (varE 0)) (consA (shE (varE 1)) nilA))))
  (seqS (dropS (callE 2 F_check_word (consA (shE (varE 0)) (consA (shE (varE 2)) nilA))))
  (retS (callE 2 F_indexes_of (consA (shE (varE 1)) (consA (shE (varE 2)) nilA))))))
noncomputable def F_stands : S → ER Vl := fin 3 b_stands
noncomputable def b_steps_of : S → Out := (seqS (dropS (callE 3 F_check_list (consA (shE (varE 0)) (consA (shE (varE 1)) (consA (shE (varE 2)) nilA)))))
  (retS (callE 2 F_steps (consA (shE (varE 1)) (consA (shE (varE 2)) nilA)))))
noncomputable def F_steps_of : S → ER Vl := fin 3 b_steps_of
noncomputable def b_acting : S → Out := (seqS (dropS (callE 3 F_check_list (consA (shE (varE 0)) (consA (shE (varE 1)) (consA (shE (varE 2)) nilA)))))
  (seqS (setS 3 (callE 2 F_steps (consA (shE (varE 1)) (consA (shE (varE 2)) nilA))))
  (retS (lcE (enI (consA (shE (varE 1)) nilA)) (tpG [(nmG 4), (nmG 5)]) (truT (callE 2 F_indexes_of (consA (shE (varE 5)) (consA (opE ixD (varE 3) (varE 4)) nilA)))) (shE (varE 4)) [4, 5]))))
noncomputable def F_acting : S → ER Vl := fin 6 b_acting
noncomputable def b_is_kept : S → Out := (retS (opE eqD (callE 3 F_form_of (consA (shE (varE 0)) (consA (shE (varE 1)) (consA (shE (varE 2)) nilA)))) (varE 2)))
noncomputable def F_is_kept : S → ER Vl := fin 3 b_is_kept
noncomputable def b_law_number : S → Out := (seqS (ifS (blT (opE ltD (varE 0) (cE (.int 0))))
  (retS (opE (intD subI) (cE (.int 0)) (varE 0)))
  nextS)
  (retS (varE 0)))
noncomputable def F_law_number : S → ER Vl := fin 1 b_law_number
noncomputable def b_law_draws_1 : S → Out := (seqS (ifS (blT (opE eqD (varE 3) (cE (.int 0))))
  brkS
  nextS)
  (seqS (dropS (muE dArgs appF 1 (consA (opE (intD modI) (caE intF (consA (varE 3) nilA)) (cE (.int 1000))) nilA)))
  (setS 3 (opE (intD divI) (varE 3) (cE (.int 1000))))))
noncomputable def b_law_draws_2 : S → Out := (seqS (setS 3 (callE 1 F_law_number (consA (shE (varE 2)) nilA)))
  (ifS (blT (opE geD (varE 3) (cE (.int 1000000000000000000))))
  (forS (rng1I (consA (cE (.int 60)) nilA)) (nmG 4) b_law_draws_1)
  (seqS (setS 5 (opE (intD modI) (caE intF (consA (opE addD (opE mulD (varE 3) (cE (.int 48271))) (cE (.int 11))) nilA)) (cE (.int 2147483647))))
  (seqS (setS 6 (opE (intD modI) (caE intF (consA (opE addD (opE mulD (varE 5) (cE (.int 69621))) (varE 3)) nilA)) (cE (.int 2147483629))))
  (dropS (muE rdAll extF 1 (consA (lstE (consA (opE (intD modI) (caE intF (consA (varE 3) nilA)) (cE (.int 1000))) (consA (opE (intD modI) (caE intF (consA (varE 5) nilA)) (cE (.int 1000))) (consA (opE (intD modI) (caE intF (consA (varE 6) nilA)) (cE (.int 1000))) nilA)))) nilA)))))))
noncomputable def b_law_draws : S → Out := (seqS (setS 1 (lstE nilA))
  (seqS (forS (seqI (varE 0)) (nmG 2) b_law_draws_2)
  (retS (varE 1))))
noncomputable def F_law_draws : S → ER Vl := fin 7 b_law_draws
noncomputable def b_law_next : S → Out := (seqS (ifS (truT (varE 0))
  (retS (fun s => mu1 popF 0 s []))
  nextS)
  (retS (cE (.int 0))))
noncomputable def F_law_next : S → ER Vl := fin 1 b_law_next
noncomputable def b_law_string : S → Out := (retS (mtE isStr joinF (cE (.str "")) (consA (lcE (rng1I (consA (opE (intD modI) (caE intF (consA (callE 1 F_law_next (consA (varE 0) nilA)) nilA)) (opE addD (varE 2) (cE (.int 1)))) nilA)) (nmG 3) yesT (opE ixD (cE (.str "abcdef")) (opE (intD modI) (caE intF (consA (callE 1 F_law_next (consA (varE 0) nilA)) nilA)) (varE 1))) [3]) nilA)))
noncomputable def F_law_string : S → ER Vl := fin 4 b_law_string
noncomputable def b_law_place : S → Out := (seqS (setS 2 (opE addD (cE (.int 1)) (opE (intD modI) (caE intF (consA (callE 1 F_law_next (consA (varE 0) nilA)) nilA)) (opE (intD subI) (opE (intD shlI) (cE (.int 1)) (varE 1)) (cE (.int 1))))))
  (retS (mtE isStr joinF (cE (.str "")) (consA (lcE (rng1I (consA (varE 1) nilA)) (nmG 3) (blT (opE eqD (opE (intD modI) (opE (intD divI) (varE 2) (opE ixD (lstE (consA (cE (.int 1)) (consA (cE (.int 2)) (consA (cE (.int 4)) (consA (cE (.int 8)) (consA (cE (.int 16)) (consA (cE (.int 32)) nilA))))))) (varE 3))) (cE (.int 2))) (cE (.int 1)))) (opE ixD (cE (.str "abcdef")) (varE 3)) [3]) nilA))))
noncomputable def F_law_place : S → ER Vl := fin 4 b_law_place
noncomputable def b_law_context : S → Out := (retS (lcE (rng1I (consA (opE ixD (lstE (consA (cE (.int 0)) (consA (cE (.int 0)) (consA (cE (.int 1)) (consA (cE (.int 1)) (consA (cE (.int 2)) nilA)))))) (opE (intD modI) (caE intF (consA (callE 1 F_law_next (consA (varE 0) nilA)) nilA)) (cE (.int 5)))) nilA)) (nmG 2) yesT (shE (callE 2 F_law_place (consA (varE 0) (consA (shE (varE 1)) nilA)))) [2]))
noncomputable def F_law_context : S → ER Vl := fin 3 b_law_context
noncomputable def b_law_rule : S → Out := (seqS (setS 2 (opE ixD (cE (.str "abcdef")) (opE (intD modI) (caE intF (consA (callE 1 F_law_next (consA (varE 0) nilA)) nilA)) (varE 1))))
  (seqS (setS 3 (callE 3 F_law_string (consA (varE 0) (consA (shE (varE 1)) (consA (opE ixD (lstE (consA (cE (.int 1)) (consA (cE (.int 2)) (consA (cE (.int 3)) nilA)))) (opE (intD modI) (caE intF (consA (callE 1 F_law_next (consA (varE 0) nilA)) nilA)) (cE (.int 3)))) nilA)))))
  (seqS (setS 4 (callE 2 F_law_context (consA (varE 0) (consA (shE (varE 1)) nilA))))
  (seqS (setS 5 (callE 2 F_law_context (consA (varE 0) (consA (shE (varE 1)) nilA))))
  (seqS (setS 6 (opE (intD modI) (caE intF (consA (callE 1 F_law_next (consA (varE 0) nilA)) nilA)) (cE (.int 6))))
  (seqS (ifS (blT (opE (inD false) (varE 6) (lstE (consA (cE (.int 1)) (consA (cE (.int 3)) nilA)))))
  (setS 4 (opE addD (lstE (consA (cE (.str "#")) nilA)) (slE (varE 4) (someP (unE negD (cE (.int 1)))) noP)))
  nextS)
  (seqS (ifS (blT (opE (inD false) (varE 6) (lstE (consA (cE (.int 2)) (consA (cE (.int 3)) nilA)))))
  (setS 5 (opE addD (slE (varE 5) noP (someP (cE (.int 1)))) (lstE (consA (cE (.str "#")) nilA))))
  nextS)
  (retS (tupE (consA (shE (varE 2)) (consA (shE (varE 3)) (consA (caE tupF (consA (varE 4) nilA)) (consA (caE tupF (consA (varE 5) nilA)) nilA)))))))))))))
noncomputable def F_law_rule : S → ER Vl := fin 7 b_law_rule
noncomputable def b_law_rules : S → Out := (retS (caE tupF (consA (lcE (rng1I (consA (opE (intD modI) (caE intF (consA (callE 1 F_law_next (consA (varE 0) nilA)) nilA)) (opE addD (varE 2) (cE (.int 1)))) nilA)) (nmG 3) yesT (shE (callE 2 F_law_rule (consA (varE 0) (consA (shE (varE 1)) nilA)))) [3]) nilA)))
noncomputable def F_law_rules : S → ER Vl := fin 4 b_law_rules
noncomputable def b_law_names_1 : S → Out := (seqS (setS 5 (opE (intD modI) (caE intF (consA (callE 1 F_law_next (consA (varE 0) nilA)) nilA)) (caE lenD (consA (varE 2) nilA))))
  (seqS (setS 3 (opE addD (varE 3) (opE ixD (varE 2) (varE 5))))
  (setS 2 (opE addD (slE (varE 2) noP (someP (varE 5))) (slE (varE 2) (someP (opE addD (varE 5) (cE (.int 1)))) noP)))))
noncomputable def b_law_names : S → Out := (seqS (setS 2 (caE lstF (consA (slE (cE (.str "abcdef")) noP (someP (varE 1))) nilA)))
  (seqS (setS 3 (cE (.str "")))
  (seqS (forS (rng1I (consA (varE 1) nilA)) (nmG 4) b_law_names_1)
  (retS (varE 3)))))
noncomputable def F_law_names : S → ER Vl := fin 6 b_law_names
end M

set_option Elab.async false
set_option linter.all false
set_option maxRecDepth 100000
set_option maxHeartbeats 4000000
/-! Words, rules, names: what the defs reckon, in lists of signs. -/
namespace M
open PySem PySem.Spec L2 Sv
/-! ### what the defs do -/
def numOk (k : Int) : Bool := decide (2 ≤ k) && decide (k ≤ 6)
def letters (k : Int) : Str := cutS "abcdef" none (some k)
def isWord (k : Int) (w : Str) : Bool := decide (((w.length : Nat) : Int) ≤ 60) && decide (Txt.stripChars w (letters k) = "")
theorem letters_len (k : Int) : (letters k).length ≤ 6 := cutS_length _ _ _
theorem le_line {n m : Nat} (h : n ≤ m) (hm : m ≤ 16777216 := by decide) : n ≤ sizeLine := by rw [sizeLine_eq]; omega
/-- the signs of the letters that stand in the place -/
def picked (l p : Str) : List Nat := l.cps.toList.filter fun c => decide (c ∈ p.cps.toList)
def isSet (l p : Str) : Bool := !decide (p = "") && decide (p = tx (picked l p))
def ctxAt (l p : Str) (e i : Int) : Bool := isSet l p || (decide (i = e) && decide (p = "#"))
def isCtx (l : Str) (ps : List Str) (e : Int) : Bool := decide (((ps.length : Nat) : Int) ≤ 2) && (List.range ps.length).all fun i => ctxAt l (ps.getD i "") e i
def isNew (l n : Str) : Bool := decide (((n.length : Nat) : Int) ≤ 3) && decide (Txt.stripChars n l = "")
structure Rl where
  c : Str
  n : Str
  l : List Str
  r : List Str
/-- texts and contexts of a bounded size -/
structure Rl.Small (R : Rl) : Prop where
  c : R.c.length ≤ 1000
  n : R.n.length ≤ 1000
  l : R.l.length ≤ 1000
  r : R.r.length ≤ 1000
  sl : ∀ p ∈ R.l, p.length ≤ 1000
  sr : ∀ p ∈ R.r, p.length ≤ 1000
def isRule (k : Int) (R : Rl) : Bool :=
  decide (((R.c.length : Nat) : Int) = 1) && decide (R.c.cps.getD 0 0 ∈ (letters k).cps.toList) && isNew (letters k) R.n && isCtx (letters k) R.l 0 && isCtx (letters k) R.r (((R.r.length : Nat) : Int) - 1)
def namesOk (k : Int) (n : Str) : Bool := decide (tx (sortN n.cps.toList) = letters k)
def fits (p w : Str) (i : Int) : Bool := if i < 0 ∨ ((w.length : Nat) : Int) ≤ i then decide (p = "#") else decide (w.cps.getD i.toNat 0 ∈ p.cps.toList)
def allFit (ps : List Str) (w : Str) (b : Int) : Bool := (List.range ps.length).all fun i => fits (ps.getD i "") w (b + i)
def standsAt (R : Rl) (w : Str) (i : Nat) : Bool := decide (tx [w.cps.getD i 0] = R.c) && (allFit R.l w (((i : Nat) : Int) - ((R.l.length : Nat) : Int)) && allFit R.r w (((i : Nat) : Int) + 1))
def stood (R : Rl) (w : Str) : List Nat := (List.range w.cps.size).filter (standsAt R w)
def parts (R : Rl) (w : Str) : List Str := (List.range w.cps.size).map fun i => if standsAt R w i = true then R.n else tx [w.cps.getD i 0]
def ren (n : Str) (c : Nat) : Nat := n.cps.getD (c - 97) 0
def renS (n w : Str) : Str := tx (w.cps.toList.map (ren n))
def renP (n p : Str) : Str := if p = "#" then p else tx (sortN (renS n p).cps.toList)
/-! ### contracts -/
/-! ### the rules at work -/
theorem foldl_set {α : Type} (x : α) : ∀ (js : List Nat) (l : List α), (js.foldl (fun acc j => acc.set j x) l).length = l.length
  | [], _ => rfl
  | j :: js, l => by rw [List.foldl_cons, foldl_set x js, List.length_set]
theorem foldl_set_get {α : Type} (x : α) : ∀ (js : List Nat) (l : List α) (i : Nat), i < l.length → (js.foldl (fun acc j => acc.set j x) l)[i]? = if i ∈ js then some x else l[i]?
  | [], l, i, _ => by simp
  | j :: js, l, i, h => by
    rw [List.foldl_cons, foldl_set_get x js _ i (by rw [List.length_set]; exact h)]
    by_cases m : i ∈ js
    · rw [if_pos m, if_pos (List.mem_cons_of_mem _ m)]
    · rw [if_neg m]
      by_cases e : j = i
      · subst e
        rw [if_pos List.mem_cons_self, List.getElem?_set_self h]
      · rw [if_neg (fun z => (List.mem_cons.mp z).elim (fun q => e q.symm) m), List.getElem?_set_ne e]
theorem sum_le {b : Nat} : ∀ (l : List Nat), (∀ x ∈ l, x ≤ b) → l.sum ≤ l.length * b
  | [], _ => Nat.zero_le _
  | a :: l, h => by
    have h1 := h a List.mem_cons_self
    have h2 := sum_le l fun x m => h x (List.mem_cons_of_mem _ m)
    rw [List.sum_cons, List.length_cons, Nat.succ_mul]
    omega
theorem parts_len (R : Rl) (w : Str) : (parts R w).length = w.cps.size := by
  unfold parts
  rw [List.length_map, List.length_range]
theorem parts_sum (R : Rl) (w : Str) (h : R.n.length ≤ 1000) : ((parts R w).map (·.length)).sum ≤ w.cps.size * 1000 := by
  have := sum_le (b := 1000) ((parts R w).map (·.length)) fun x m => by
    obtain ⟨y, my, rfl⟩ := List.mem_map.mp m
    unfold parts at my
    obtain ⟨i, _, rfl⟩ := List.mem_map.mp my
    by_cases c : standsAt R w i = true
    · rw [if_pos c]; exact h
    · rw [if_neg c, tx_len]; show 1 ≤ 1000; decide
  rw [List.length_map, parts_len] at this
  exact this
def Rl.turn (R : Rl) : Rl := ⟨R.c, revS R.n, R.r.reverse, R.l.reverse⟩
/-- each sign has its place among the letters, and a name -/
def RenOk (l n w : Str) : Prop := ∀ c ∈ w.cps.toList, (∃ rest, Builtin.Str.occurrences l ⟨#[c]⟩ 0 l.length 1 = (c - 97) :: rest) ∧ c - 97 < n.length
def Rl.ren (n : Str) (R : Rl) : Rl := ⟨renS n R.c, renS n R.n, R.l.map (renP n), R.r.map (renP n)⟩
/-! ### the law's own helpers -/
def LetK (k : Int) (c : Nat) : Prop := 97 ≤ c ∧ ((c : Nat) : Int) < 97 + k
def WordIn (k : Int) (m : Int) (w : Str) : Prop := ((w.length : Nat) : Int) ≤ m ∧ ∀ c ∈ w.cps.toList, LetK k c
def placeOf (k : Nat) (b : Nat) : Str := tx (((List.range k).filter fun j => decide ((b / 2 ^ j) % 2 = 1)).map fun j => 97 + j)
theorem m1000 : (0 : Int) < 1000 := by decide
theorem abc_at : ∀ j, j < 6 → ("abcdef" : Str).cps.getD j 0 = 97 + j := by decide +kernel
theorem abc_len : ("abcdef" : Str).length = 6 := by decide +kernel
/-! ### drawn places, contexts, rules -/
theorem iB {c : Bool} {A B : Prop} (a : c = true → A) (b : c = false → B) : if c = true then A else B := by
  cases h : c
  · exact iF rfl (b h)
  · exact iT rfl (a h)
theorem k_cases {P : Int → Prop} (h2 : P 2) (h3 : P 3) (h4 : P 4) (h5 : P 5) (h6 : P 6) {k : Int} (a : 2 ≤ k) (b : k ≤ 6) : P k := by
  have : k = 2 ∨ k = 3 ∨ k = 4 ∨ k = 5 ∨ k = 6 := by omega
  rcases this with e | e | e | e | e <;> rw [e] <;> assumption
theorem letters_list {k : Int} (a : 2 ≤ k) (b : k ≤ 6) : (letters k).cps.toList = (List.range k.toNat).map (97 + ·) :=
  k_cases (P := fun k => (letters k).cps.toList = (List.range k.toNat).map (97 + ·)) (by decide +kernel) (by decide +kernel) (by decide +kernel) (by decide +kernel) (by decide +kernel) a b
theorem mem_letters {k : Int} (a : 2 ≤ k) (b : k ≤ 6) (c : Nat) : c ∈ (letters k).cps.toList ↔ LetK k c := by
  rw [letters_list a b, List.mem_map]
  constructor
  · rintro ⟨j, hj, rfl⟩
    have := List.mem_range.mp hj
    constructor <;> omega
  · rintro ⟨h1, h2⟩
    exact ⟨c - 97, List.mem_range.mpr (by omega), by omega⟩
theorem numOk_of {k : Int} (a : 2 ≤ k) (b : k ≤ 6) : numOk k = true := by
  unfold numOk
  rw [decide_eq_true a, decide_eq_true b]
  rfl
theorem place_all : ∀ k, k < 7 → 2 ≤ k → ∀ b, b < 64 → 1 ≤ b → b < 2 ^ k → isSet (letters ((k : Nat) : Int)) (placeOf k b) = true := by decide +kernel
theorem isCtx_of {l : Str} {ps : List Str} {e : Int} (h2 : ps.length ≤ 2) (h : ∀ i, i < ps.length → ctxAt l (ps.getD i "") e (i : Nat) = true) : isCtx l ps e = true := by
  unfold isCtx
  rw [decide_eq_true (by omega), Bool.true_and]
  exact all_range_succ h
theorem getD_mem {ps : List Str} {i : Nat} (h : i < ps.length) : ps.getD i "" ∈ ps := by
  rw [List.getD_eq_getElem?_getD, List.getElem?_eq_getElem h]
  exact List.getElem_mem h
theorem isCtx_sets {l : Str} {ps : List Str} {e : Int} (h2 : ps.length ≤ 2) (h : ∀ p ∈ ps, isSet l p = true) : isCtx l ps e = true :=
  isCtx_of h2 fun i hi => by unfold ctxAt; rw [h _ (getD_mem hi)]; rfl
theorem isCtx_left {l : Str} {ps : List Str} (h2 : ps.length ≤ 1) (h : ∀ p ∈ ps, isSet l p = true) : isCtx l ("#" :: ps) 0 = true :=
  isCtx_of (by rw [List.length_cons]; omega) fun i hi => by
    cases i with
    | zero => unfold ctxAt; show (isSet l "#" || (decide ((0 : Int) = 0) && decide (("#" : Str) = "#"))) = true; simp
    | succ i =>
      rw [List.length_cons] at hi
      unfold ctxAt
      rw [List.getD_cons_succ, h _ (getD_mem (by omega))]
      rfl
theorem isCtx_right {l : Str} {ps : List Str} (h2 : ps.length ≤ 1) (h : ∀ p ∈ ps, isSet l p = true) : isCtx l (ps ++ [("#" : Str)]) (((ps ++ [("#" : Str)]).length : Int) - 1) = true :=
  isCtx_of (by rw [List.length_append]; show ps.length + 1 ≤ 2; omega) fun i hi => by
    have hl : (ps ++ [("#" : Str)]).length = ps.length + 1 := by rw [List.length_append]; rfl
    rw [hl] at hi ⊢
    unfold ctxAt
    by_cases c : i < ps.length
    · rw [List.getD_eq_getElem?_getD, List.getElem?_append_left c, ← List.getD_eq_getElem?_getD, h _ (getD_mem c)]
      rfl
    · have e : i = ps.length := by omega
      subst e
      rw [List.getD_eq_getElem?_getD, List.getElem?_append_right (Nat.le_refl _), Nat.sub_self, decide_eq_true (show ((ps.length : Nat) : Int) = ((ps.length + 1 : Nat) : Int) - 1 by omega)]
      simp
/-! ### the law's own reckoning -/
def lawSign (w : Str) (i : Int) : Nat := if 0 ≤ i ∧ i < ((w.length : Nat) : Int) then w.cps.getD i.toNat 0 else 35
def lawFit (ps : List Str) (w : Str) (b : Int) : Bool := (List.range ps.length).all fun j => decide (lawSign w (b + ((j : Nat) : Int)) ∈ (ps.getD j "").cps.toList)
def lawThere (R : Rl) (w : Str) (i : Nat) : Bool := decide (tx [w.cps.getD i 0] = R.c) && (lawFit R.l w (((i : Nat) : Int) - ((R.l.length : Nat) : Int)) && lawFit R.r w (((i : Nat) : Int) + 1))
def lawParts (R : Rl) (w : Str) (n : Nat) : List Str := (List.range n).map fun i => if lawThere R w i = true then R.n else tx [w.cps.getD i 0]
theorem take_drop_perm {α : Type} (d : α) : ∀ (l : List α) (j : Nat), j < l.length → (l.getD j d :: (l.take j ++ l.drop (j + 1))).Perm l
  | [], j, h => absurd h (Nat.not_lt_zero _)
  | a :: l, 0, _ => by simp
  | a :: l, j + 1, h => by
    rw [List.getD_cons_succ, List.take_succ_cons, List.drop_succ_cons, List.cons_append]
    exact (List.Perm.swap _ _ _).trans ((take_drop_perm d l j (by simpa using h)).cons a)
/-! ### what a rule is made of -/
def PlaceIn (k : Int) (p : Str) : Prop := p = "#" ∨ (p.length ≤ 6 ∧ ∀ c ∈ p.cps.toList, LetK k c)
structure Made (k : Int) (R : Rl) : Prop where
  c1 : R.c.length = 1
  c : ∀ c ∈ R.c.cps.toList, LetK k c
  n3 : R.n.length ≤ 3
  n : ∀ c ∈ R.n.cps.toList, LetK k c
  l2 : R.l.length ≤ 2
  r2 : R.r.length ≤ 2
  l : ∀ p ∈ R.l, PlaceIn k p
  r : ∀ p ∈ R.r, PlaceIn k p
theorem isSet_in {k : Int} (a : 2 ≤ k) (b : k ≤ 6) {p : Str} (h : isSet (letters k) p = true) : PlaceIn k p := by
  unfold isSet at h
  rw [Bool.and_eq_true, decide_eq_true_eq] at h
  have e : p.cps.toList = picked (letters k) p := by
    have := congrArg (fun s : Str => s.cps.toList) h.2
    exact this
  refine .inr ⟨?_, fun c m => ?_⟩
  · have hl : p.length = p.cps.toList.length := Array.length_toList.symm
    have h1 : (picked (letters k) p).length ≤ (letters k).cps.toList.length := List.length_filter_le _ _
    have h2 : (letters k).cps.toList.length ≤ 6 := by rw [Array.length_toList]; exact letters_len k
    rw [hl, e]
    omega
  · rw [e] at m
    exact (mem_letters a b c).mp (List.mem_filter.mp m).1
theorem isCtx_in {k : Int} (a : 2 ≤ k) (b : k ≤ 6) {ps : List Str} {e : Int} (h : isCtx (letters k) ps e = true) : ps.length ≤ 2 ∧ ∀ p ∈ ps, PlaceIn k p := by
  unfold isCtx at h
  rw [Bool.and_eq_true, decide_eq_true_eq, List.all_eq_true] at h
  refine ⟨by omega, fun p m => ?_⟩
  obtain ⟨i, hi, rfl⟩ := List.getElem_of_mem m
  have := h.2 i (List.mem_range.mpr hi)
  rw [List.getD_eq_getElem?_getD, List.getElem?_eq_getElem hi] at this
  unfold ctxAt at this
  rw [Bool.or_eq_true] at this
  rcases this with z | z
  · exact isSet_in a b z
  · rw [Bool.and_eq_true, decide_eq_true_eq, decide_eq_true_eq] at z
    exact .inl z.2
theorem isNew_in {k : Int} (a : 2 ≤ k) (b : k ≤ 6) {n : Str} (h : isNew (letters k) n = true) : n.length ≤ 3 ∧ ∀ c ∈ n.cps.toList, LetK k c := by
  unfold isNew at h
  rw [Bool.and_eq_true, decide_eq_true_eq, strip_iff, List.all_eq_true] at h
  exact ⟨by omega, fun c m => (mem_letters a b c).mp (of_decide_eq_true (h.2 c m))⟩
theorem isRule_made {k : Int} (a : 2 ≤ k) (b : k ≤ 6) {R : Rl} (h : isRule k R = true) : Made k R := by
  unfold isRule at h
  rw [Bool.and_eq_true, Bool.and_eq_true, Bool.and_eq_true, Bool.and_eq_true, decide_eq_true_eq, decide_eq_true_eq] at h
  obtain ⟨⟨⟨⟨h1, h2⟩, h3⟩, h4⟩, h5⟩ := h
  have n := isNew_in a b h3
  have l := isCtx_in a b h4
  have r := isCtx_in a b h5
  have c1 : R.c.length = 1 := by omega
  refine ⟨c1, fun c m => ?_, n.1, n.2, l.1, r.1, l.2, r.2⟩
  rw [oneS c1] at m
  rw [List.mem_singleton.mp m]
  exact (mem_letters a b _).mp h2
theorem PlaceIn.len {k : Int} {p : Str} (h : PlaceIn k p) : p.length ≤ 6 := by
  rcases h with e | e
  · rw [e]; decide
  · exact e.1
theorem Made.small {k : Int} {R : Rl} (h : Made k R) : R.Small :=
  ⟨by have := h.c1; omega, by have := h.n3; omega, by have := h.l2; omega, by have := h.r2; omega, fun p m => by have := (h.l p m).len; omega, fun p m => by have := (h.r p m).len; omega⟩
theorem LetK.lt {k : Int} {c : Nat} (h : LetK k c) (b : k ≤ 6) : 97 ≤ c ∧ c < 103 := ⟨h.1, by have := h.2; omega⟩
theorem PlaceIn.no35 {k : Int} {p : Str} (h : PlaceIn k p) (n : p ≠ "#") : 35 ∉ p.cps.toList := fun m => by
  rcases h with e | e
  · exact n e
  · have := (e.2 _ m).1
    omega
/-! ### standing, by the program and by the law -/
theorem fits_law {k : Int} {p w : Str} {i : Int} (h : PlaceIn k p) : fits p w i = decide (lawSign w i ∈ p.cps.toList) := by
  unfold fits lawSign
  by_cases c : i < 0 ∨ ((w.length : Nat) : Int) ≤ i
  · rw [if_pos c, if_neg (by omega)]
    by_cases e : p = "#"
    · rw [decide_eq_true e, e]
      rfl
    · rw [decide_eq_false e, decide_eq_false (h.no35 e)]
  · rw [if_neg c, if_pos (by omega)]
theorem allFit_law {k : Int} {ps : List Str} {w : Str} {b : Int} (h : ∀ p ∈ ps, PlaceIn k p) : allFit ps w b = lawFit ps w b := by
  unfold allFit lawFit
  rw [Bool.eq_iff_iff, List.all_eq_true, List.all_eq_true]
  refine forall_congr' fun j => forall_congr' fun m => ?_
  rw [fits_law (h _ (getD_mem (List.mem_range.mp m)))]
theorem stands_law {k : Int} {R : Rl} {w : Str} {i : Nat} (h : Made k R) : standsAt R w i = lawThere R w i := by
  unfold standsAt lawThere
  rw [allFit_law h.l, allFit_law h.r]
theorem stood_law {k : Int} {R : Rl} {w : Str} (h : Made k R) : stood R w = (List.range w.cps.size).filter (lawThere R w) := by
  unfold stood
  congr 1
  funext i
  exact stands_law h
theorem parts_law {k : Int} {R : Rl} {w : Str} (h : Made k R) : parts R w = lawParts R w w.cps.size := by
  unfold parts lawParts
  congr 1
  funext i
  rw [stands_law h]
/-! ### names -/
theorem occ_k : ∀ k, k < 7 → 2 ≤ k → ∀ j, j < k → Builtin.Str.occurrences (letters ((k : Nat) : Int)) ⟨#[97 + j]⟩ 0 (letters ((k : Nat) : Int)).length 1 = [j] := by decide +kernel
theorem occ_6 : ∀ j, j < 6 → Builtin.Str.occurrences "abcdef" ⟨#[97 + j]⟩ 0 ("abcdef" : Str).length 1 = [j] := by decide +kernel
structure Names (k : Int) (n : Str) : Prop where
  pm : n.cps.toList.Perm (letters k).cps.toList
theorem letters_n {k : Int} (a : 2 ≤ k) (b : k ≤ 6) : (letters k).cps.toList.length = k.toNat := by rw [letters_list a b, List.length_map, List.length_range]
theorem letters_nodup {k : Int} (a : 2 ≤ k) (b : k ≤ 6) : (letters k).cps.toList.Nodup :=
  k_cases (P := fun k => (letters k).cps.toList.Nodup) (by decide +kernel) (by decide +kernel) (by decide +kernel) (by decide +kernel) (by decide +kernel) a b
theorem letters_sorted {k : Int} (a : 2 ≤ k) (b : k ≤ 6) : (letters k).cps.toList.Pairwise (· ≤ ·) :=
  k_cases (P := fun k => (letters k).cps.toList.Pairwise (· ≤ ·)) (by decide +kernel) (by decide +kernel) (by decide +kernel) (by decide +kernel) (by decide +kernel) a b
theorem Names.len {k : Int} {n : Str} (h : Names k n) (a : 2 ≤ k) (b : k ≤ 6) : n.length = k.toNat := by
  have := h.pm.length_eq
  rw [letters_n a b, Array.length_toList] at this
  exact this
theorem Names.ok {k : Int} {n : Str} (h : Names k n) (a : 2 ≤ k) (b : k ≤ 6) : namesOk k n = true := by
  unfold namesOk
  refine decide_eq_true ?_
  rw [tx_of (letters k)]
  congr 1
  congr 1
  exact (sortN_uniq h.pm.symm (letters_sorted a b)).symm
theorem namesOk_perm {k : Int} {n : Str} (h : namesOk k n = true) : n.cps.toList.Perm (letters k).cps.toList := by
  unfold namesOk at h
  have e := of_decide_eq_true h
  have := congrArg (fun s : Str => s.cps.toList) e
  rw [← this]
  exact (sortN_perm _).symm
theorem Names.mem {k : Int} {n : Str} (h : Names k n) (a : 2 ≤ k) (b : k ≤ 6) {c : Nat} (hc : c ∈ n.cps.toList) : LetK k c := (mem_letters a b c).mp (h.pm.mem_iff.mp hc)
theorem Names.renK {k : Int} {n w : Str} (h : Names k n) (a : 2 ≤ k) (b : k ≤ 6) (hw : ∀ c ∈ w.cps.toList, LetK k c) : RenOk (letters k) n w := fun c m => by
  obtain ⟨kn, rfl⟩ : ∃ kn : Nat, k = (kn : Int) := ⟨k.toNat, by omega⟩
  have hc := hw c m
  have hl := h.len a b
  refine ⟨⟨[], ?_⟩, ?_⟩
  · have := occ_k kn (by omega) (by omega) (c - 97) (by have := hc.1; have := hc.2; omega)
    rw [show 97 + (c - 97) = c by have := hc.1; omega] at this
    exact this
  · have := hc.1
    have := hc.2
    omega
theorem Names.ren6 {k : Int} {n w : Str} (h : Names k n) (a : 2 ≤ k) (b : k ≤ 6) (hw : ∀ c ∈ w.cps.toList, LetK k c) : RenOk "abcdef" n w := fun c m => by
  have hc := hw c m
  have hl := h.len a b
  refine ⟨⟨[], ?_⟩, ?_⟩
  · have := occ_6 (c - 97) (by have := hc.1; have := hc.2; omega)
    rw [show 97 + (c - 97) = c by have := hc.1; omega] at this
    exact this
  · have := hc.1
    have := hc.2
    omega
theorem Names.renS {k : Int} {n w : Str} (h : Names k n) (a : 2 ≤ k) (b : k ≤ 6) (hw : ∀ c ∈ w.cps.toList, LetK k c) : ∀ c ∈ (renS n w).cps.toList, LetK k c := fun c m => by
  have m : c ∈ w.cps.toList.map (ren n) := m
  obtain ⟨x, hx, rfl⟩ := List.mem_map.mp m
  have hc := hw x hx
  have hl := h.len a b
  refine h.mem a b ?_
  unfold ren
  have hi : x - 97 < n.cps.size := by
    have := hc.1
    have := hc.2
    have e : n.cps.size = n.length := rfl
    omega
  rw [Array.getD_eq_getD_getElem?, Array.getElem?_eq_getElem hi]
  exact Array.getElem_mem_toList hi
theorem renS_len (n w : Str) : (renS n w).length = w.length := by
  unfold renS
  rw [tx_len, List.length_map, Array.length_toList]
  rfl
/-! ### shown -/
structure Fine (R : Rl) : Prop where
  c : R.c.length ≤ 100 ∧ ∀ x ∈ R.c.cps.toList, x < 1000
  n : R.n.length ≤ 100 ∧ ∀ x ∈ R.n.cps.toList, x < 1000
  l2 : R.l.length ≤ 10
  r2 : R.r.length ≤ 10
  l : ∀ p ∈ R.l, p.length ≤ 100 ∧ ∀ x ∈ p.cps.toList, x < 1000
  r : ∀ p ∈ R.r, p.length ≤ 100 ∧ ∀ x ∈ p.cps.toList, x < 1000
def Rl.data (R : Rl) : PyData := .tuple [.str R.c, .str R.n, .tuple (R.l.map PyData.str), .tuple (R.r.map PyData.str)]
theorem easy_strs {ps : List Str} (h2 : ps.length ≤ 10) (h : ∀ p ∈ ps, p.length ≤ 100 ∧ ∀ x ∈ p.cps.toList, x < 1000) : Easy 1010 1 (.tuple (ps.map PyData.str)) := by
  refine Easy.tup (n := 100) (k := 0) (fun d m => ?_) ?_
  · obtain ⟨p, hp, rfl⟩ := List.mem_map.mp m
    exact .str (h p hp).2 (h p hp).1
  · rw [List.length_map]
    omega
theorem Fine.show {R : Rl} (h : Fine R) : ShowOk R.data := by
  have e : Easy 4044 2 R.data := by
    refine Easy.tup (n := 1010) (k := 1) (fun d m => ?_) (by show 4 * _ ≤ _; decide)
    rcases List.mem_cons.mp m with rfl | m
    · exact (Easy.str (k := 0) h.c.2 h.c.1).mono (by decide) (by decide)
    · rcases List.mem_cons.mp m with rfl | m
      · exact (Easy.str (k := 0) h.n.2 h.n.1).mono (by decide) (by decide)
      · rcases List.mem_cons.mp m with rfl | m
        · exact easy_strs h.l2 h.l
        · rw [List.mem_singleton.mp m]
          exact easy_strs h.r2 h.r
  exact e.show (by decide) (by decide)
theorem LetK.small {k : Int} {l : List Nat} (b : k ≤ 6) (h : ∀ c ∈ l, LetK k c) : ∀ c ∈ l, c < 1000 := fun c m => by
  have := ((h c m).lt b).2
  omega
theorem PlaceIn.small {k : Int} {p : Str} (h : PlaceIn k p) (b : k ≤ 6) : p.length ≤ 100 ∧ ∀ x ∈ p.cps.toList, x < 1000 := by
  rcases h with e | e
  · rw [e]; decide
  · exact ⟨by have := e.1; omega, LetK.small b e.2⟩
theorem Made.fine {k : Int} {R : Rl} (h : Made k R) (b : k ≤ 6) : Fine R :=
  ⟨⟨by have := h.c1; omega, LetK.small b h.c⟩, ⟨by have := h.n3; omega, LetK.small b h.n⟩, by have := h.l2; omega, by have := h.r2; omega, fun p m => (h.l p m).small b, fun p m => (h.r p m).small b⟩
theorem Made.turn {k : Int} {R : Rl} (h : Made k R) : Made k R.turn :=
  ⟨h.c1, h.c, by
    show (tx R.n.cps.toList.reverse).length ≤ 3
    rw [tx_len, List.length_reverse, Array.length_toList]
    exact h.n3, fun c m => h.n c (List.mem_reverse.mp m), by show R.r.reverse.length ≤ 2; rw [List.length_reverse]; exact h.r2, by show R.l.reverse.length ≤ 2; rw [List.length_reverse]; exact h.l2,
    fun p m => h.r p (List.mem_reverse.mp m), fun p m => h.l p (List.mem_reverse.mp m)⟩
theorem renP_in {k : Int} {n p : Str} (h : Names k n) (a : 2 ≤ k) (b : k ≤ 6) (hp : PlaceIn k p) : PlaceIn k (renP n p) := by
  unfold renP
  by_cases e : p = "#"
  · rw [if_pos e]
    exact .inl e
  · rw [if_neg e]
    have hp2 := hp.resolve_left e
    refine .inr ⟨?_, fun c m => ?_⟩
    · rw [tx_len, (sortN_perm _).length_eq, Array.length_toList]
      have := renS_len n p
      have e2 : (renS n p).cps.size = (renS n p).length := rfl
      have := hp2.1
      omega
    · exact h.renS a b hp2.2 c ((sortN_perm _).mem_iff.mp m)
theorem Made.ren {k : Int} {R : Rl} {n : Str} (h : Made k R) (hn : Names k n) (a : 2 ≤ k) (b : k ≤ 6) : Made k (R.ren n) := by
  refine ⟨?_, hn.renS a b h.c, ?_, hn.renS a b h.n, ?_, ?_, ?_, ?_⟩
  · show (renS n R.c).length = 1
    rw [renS_len]; exact h.c1
  · show (renS n R.n).length ≤ 3
    rw [renS_len]; exact h.n3
  · show (R.l.map (renP n)).length ≤ 2
    rw [List.length_map]; exact h.l2
  · show (R.r.map (renP n)).length ≤ 2
    rw [List.length_map]; exact h.r2
  · intro p m
    obtain ⟨q, hq, rfl⟩ := List.mem_map.mp (show p ∈ R.l.map (renP n) from m)
    exact renP_in hn a b (h.l q hq)
  · intro p m
    obtain ⟨q, hq, rfl⟩ := List.mem_map.mp (show p ∈ R.r.map (renP n) from m)
    exact renP_in hn a b (h.r q hq)
/-! ### words -/
theorem isWord_in {k : Int} (a : 2 ≤ k) (b : k ≤ 6) {w : Str} (hl : w.length ≤ 60) (h : ∀ c ∈ w.cps.toList, LetK k c) : isWord k w = true := by
  unfold isWord
  rw [decide_eq_true (by omega), decide_eq_true (strip_all fun c m => (mem_letters a b c).mpr (h c m))]
  rfl
theorem isWord_bad {k : Int} (a : 2 ≤ k) (b : k ≤ 6) {w : Str} {c : Nat} (h : c ∈ w.cps.toList) (n : ¬ LetK k c) : isWord k w = false := by
  unfold isWord
  rw [decide_eq_false (strip_not h fun m => n ((mem_letters a b c).mp m)), Bool.and_false]
theorem isWord_long {k : Int} {w : Str} (h : 60 < w.length) : isWord k w = false := by
  unfold isWord
  rw [decide_eq_false (by omega), Bool.false_and]
theorem bad_rule {k : Int} {c n : Str} {ps r : List Str} (h : 2 < ps.length) : isRule k ⟨c, n, ps, r⟩ = false := by
  have e : isCtx (letters k) ps 0 = false := by
    unfold isCtx
    rw [decide_eq_false (by omega), Bool.false_and]
  unfold isRule
  show (_ && isCtx (letters k) ps 0 && _) = false
  rw [e, Bool.and_false, Bool.false_and]

/-- names that are no arrangement -/
structure Wrong (k : Int) (wr : Str) : Prop where
  no : namesOk k wr = false
  len : wr.length < 64
theorem wrong_of {k : Int} {wr : Str} (h : ¬ wr.cps.toList.Perm (letters k).cps.toList) (l : wr.length < 64) : Wrong k wr := by
  refine ⟨?_, l⟩
  cases e : namesOk k wr with
  | false => rfl
  | true => exact absurd (namesOk_perm e) h
theorem wrong_len {k : Int} (a : 2 ≤ k) (b : k ≤ 6) {wr : Str} (h : wr.length ≠ k.toNat) (l : wr.length < 64) : Wrong k wr :=
  wrong_of (fun p => h (by
    have := p.length_eq
    rw [letters_n a b, Array.length_toList] at this
    exact this)) l
theorem cut_init (z : Str) : (cutS z none (some (-1))).cps.toList = z.cps.toList.take (z.length - 1) := by
  unfold cutS
  have e : HT.sIx z.length z.length (some (-1)) = z.length - 1 := by
    show ((-1 : Int) + (z.length : Int)).toNat = _
    omega
  rw [e, HT.sIx_none, List.drop_zero, Nat.sub_zero]
theorem wrongs {k : Int} {n : Str} (a : 2 ≤ k) (b : k ≤ 6) (h : Names k n) (c0 : Nat) (hc : c0 = n.cps.getD 0 0) :
    ∀ wr ∈ [cutS n (some 1) none, n ++ "a", cutS n none (some (-1)) ++ "g", cutS n none (some (-1)) ++ tx [c0], ""], Wrong k wr := by
  have hl := h.len a b
  have hz : n.cps.size = n.length := rfl
  have hzl : n.cps.toList.length = n.length := Array.length_toList
  intro wr m
  rcases List.mem_cons.mp m with rfl | m
  · have e : (cutS n (some 1) none).length = n.length - 1 := by
      unfold cutS
      show (List.toArray _).size = _
      rw [List.size_toArray, List.length_take, List.length_drop, HT.sIx_none, show HT.sIx n.length 0 (some 1) = min 1 n.length from HT.sIx_nat _ _ 1, Array.length_toList]
      omega
    exact wrong_len a b (by rw [e]; omega) (by rw [e]; omega)
  · rcases List.mem_cons.mp m with rfl | m
    · have e : (n ++ ("a" : Str)).length = n.length + 1 := by
        conv => lhs; rw [tx_of n]
        show (tx n.cps.toList ++ tx [97]).length = _
        rw [tx_app, tx_len, List.length_append, hzl]
        rfl
      exact wrong_len a b (by rw [e]; omega) (by rw [e]; omega)
    · rcases List.mem_cons.mp m with rfl | m
      · have e : (cutS n none (some (-1)) ++ ("g" : Str)) = tx (n.cps.toList.take (n.length - 1) ++ [103]) := by
          rw [tx_of (cutS n none (some (-1))), cut_init]
          exact tx_app _ [103]
        rw [e]
        refine wrong_of (fun p => ?_) ?_
        · have m103 : 103 ∈ (letters k).cps.toList := p.mem_iff.mp (List.mem_append_right _ List.mem_cons_self)
          have := ((mem_letters a b 103).mp m103).2
          omega
        · rw [tx_len, List.length_append, List.length_take]
          show _ + 1 < 64
          omega
      · rcases List.mem_cons.mp m with rfl | m
        · have e : (cutS n none (some (-1)) ++ tx [c0]) = tx (n.cps.toList.take (n.length - 1) ++ [c0]) := by
            rw [tx_of (cutS n none (some (-1))), cut_init, tx_app]
          rw [e]
          refine wrong_of (fun p => ?_) ?_
          · have nd := p.nodup_iff.mpr (letters_nodup a b)
            have nd2 : (n.cps.toList.take (n.length - 1) ++ [c0]).Nodup := nd
            rw [List.nodup_append] at nd2
            refine nd2.2.2 c0 ?_ c0 List.mem_cons_self rfl
            rw [hc]
            have h1 : 0 < n.cps.toList.length := by omega
            have e0 : n.cps.getD 0 0 = (n.cps.toList.take (n.length - 1))[0]'(by rw [List.length_take]; omega) := by
              rw [List.getElem_take, Array.getElem_toList, Array.getD_eq_getD_getElem?, Array.getElem?_eq_getElem (by omega)]
              rfl
            rw [e0]
            exact List.getElem_mem _
          · rw [tx_len, List.length_append, List.length_take]
            show _ + 1 < 64
            omega
        · rw [List.mem_singleton.mp m]
          exact wrong_len a b (by show 0 ≠ k.toNat; omega) (by decide)
def bools : Bool → Bool → PyData := fun a b => .list [.bool a, .bool b]
theorem eqv_ft : PyData.eqv (bools false true) (bools false true) = true := by decide +kernel
theorem eqv_tf : PyData.eqv (bools true false) (bools true false) = true := by decide +kernel

theorem pow_at : ∀ j, j < 6 → ([.int 1, .int 2, .int 4, .int 8, .int 16, .int 32] : List D).getD j .none = .int (((2 ^ j : Nat)) : Int)
  | 0, _ => rfl
  | 1, _ => rfl
  | 2, _ => rfl
  | 3, _ => rfl
  | 4, _ => rfl
  | 5, _ => rfl
  | j + 6, h => absurd h (by omega)
theorem cutL_last {α : Type} (ps : List α) : cutL ps (some (-1)) none = ps.drop (ps.length - 1) := by
  unfold cutL
  have e : HT.sIx ps.length 0 (some (-1)) = ps.length - 1 := by
    show ((-1 : Int) + (ps.length : Int)).toNat = _
    omega
  rw [e, HT.sIx_none, List.take_of_length_le (by rw [List.length_drop]; exact Nat.le_refl _)]
theorem cutL_take {α : Type} {xs : List α} {j : Nat} : cutL xs none (some ((j : Nat) : Int)) = xs.take j := by
  unfold cutL
  rw [HT.sIx_none, HT.sIx_nat, List.drop_zero, Nat.sub_zero, Nat.min_def]
  split
  · rfl
  · rw [List.take_of_length_le (by omega), List.take_of_length_le (by omega)]
theorem cutL_drop {α : Type} {xs : List α} {j : Nat} : cutL xs (some ((j : Nat) : Int)) none = xs.drop j := by
  unfold cutL
  rw [HT.sIx_none, HT.sIx_nat]
  rw [List.take_of_length_le (by rw [List.length_drop]; exact Nat.le_refl _), Nat.min_def]
  split
  · rfl
  · rw [List.drop_of_length_le (by omega), List.drop_of_length_le (by omega)]
end M

set_option Elab.async false
set_option linter.all false
set_option maxRecDepth 100000
set_option maxHeartbeats 4000000
/-! What the operations give on data of a known shape. -/
namespace M
open PySem PySem.Spec PySem.W L2 Sv

theorem eqv_str (a b : Str) : PyData.eqv (.str a) (.str b) = decide (a = b) := Datum.eqv a b
theorem eqv_int (a b : Int) : PyData.eqv (.int a) (.int b) = decide (a = b) := Datum.eqv a b
theorem okD_str (a : Str) : okD (.str a) = true := rfl
theorem okD_int (a : Int) : okD (.int a) = true := rfl
theorem eqD_str (a b : Str) : eqD (.str a) (.str b) = some (.d (.bool (decide (a = b)))) := by
  unfold eqD
  rw [okD_str, Bool.true_or, if_pos rfl, eqv_str]
theorem neD_str (a b : Str) : neD (.str a) (.str b) = some (.d (.bool (!decide (a = b)))) := by
  unfold neD
  rw [okD_str, Bool.true_or, if_pos rfl, eqv_str]
theorem eqD_int (a b : Int) : eqD (.int a) (.int b) = some (.d (.bool (decide (a = b)))) := by
  unfold eqD
  rw [okD_int, Bool.true_or, if_pos rfl, eqv_int]
theorem neD_int (a b : Int) : neD (.int a) (.int b) = some (.d (.bool (!decide (a = b)))) := by
  unfold neD
  rw [okD_int, Bool.true_or, if_pos rfl, eqv_int]
theorem eqD_dat {α : Type} [DecidableEq α] [Datum α] (a b : α) (h : Datum.depth α ≤ 40) : eqD (Datum.toD a) (Datum.toD b) = some (.d (.bool (decide (a = b)))) := by
  unfold eqD
  have := Datum.depth_le a
  rw [show okD (Datum.toD a) = true from decide_eq_true (by omega), Bool.true_or, if_pos rfl, Datum.eqv]
theorem neD_dat {α : Type} [DecidableEq α] [Datum α] (a b : α) (h : Datum.depth α ≤ 40) : neD (Datum.toD a) (Datum.toD b) = some (.d (.bool (!decide (a = b)))) := by
  unfold neD
  have := Datum.depth_le a
  rw [show okD (Datum.toD a) = true from decide_eq_true (by omega), Bool.true_or, if_pos rfl, Datum.eqv]
/-- one sign in a text -/
theorem inD_sign (neg : Bool) (c : Nat) (z : Str) : inD neg (.str (tx [c])) (.str z) = some (.d (.bool (neg ^^ decide (c ∈ z.cps.toList)))) := by
  show some (Vl.d (.bool (neg ^^ !(Builtin.Str.occurrences z ⟨#[c]⟩ 0 z.length 1).isEmpty))) = _
  rw [PySem.StrLaws.found_one]
theorem inD_ints (neg : Bool) (x : Int) (ns : List Int) : inD neg (.int x) (.list (ns.map .int)) = some (.d (.bool (neg ^^ decide (x ∈ ns)))) := by
  show (if okD (.int x) = true then some (Vl.d (.bool (neg ^^ (ns.map PyData.int).any fun y => PyData.eqv y (.int x)))) else none) = _
  rw [if_pos (okD_int x)]
  have := any_datum ns x
  rw [show ((ns.map PyData.int).any fun y => PyData.eqv y (.int x)) = decide (x ∈ ns) from this]
theorem items_str (z : Str) : itemsD (.str z) = some (z.cps.toList.map fun c => .str (tx [c])) := by
  show some ((Sv.signs z).map PyData.str) = _
  unfold Sv.signs
  rw [List.map_map]
  rfl
theorem strsOf_map : ∀ ys : List Str, strsOf (ys.map .str) = some ys
  | [] => rfl
  | y :: ys => by
    show (strsOf (ys.map .str)).map (y :: ·) = _
    rw [strsOf_map ys]
    rfl
theorem boolsOf_map : ∀ ys : List Bool, boolsOf (ys.map .bool) = some ys
  | [] => rfl
  | y :: ys => by
    show (boolsOf (ys.map .bool)).map (y :: ·) = _
    rw [boolsOf_map ys]
    rfl
theorem intsOf_map : ∀ ys : List Int, intsOf (ys.map .int) = some ys
  | [] => rfl
  | y :: ys => by
    show (intsOf (ys.map .int)).map (y :: ·) = _
    rw [intsOf_map ys]
    rfl
theorem joinF_jn {ys : List Str} (h : (ys.map (·.length)).sum ≤ 16777216) : joinF [.str "", .list (ys.map .str)] = some (.d (.str (jn ys))) := by
  show ((strsOf (ys.map .str)).bind fun ys => fit (decide ((ys.map (·.length)).sum + ys.length * ("" : Str).length ≤ 16777216)) (.d (.str (Txt.join "" ys)))) = _
  rw [strsOf_map]
  show fit (decide ((ys.map (·.length)).sum + ys.length * 0 ≤ 16777216)) (.d (.str (Txt.join "" ys))) = _
  rw [Nat.mul_zero, Nat.add_zero, decide_eq_true h, join_jn]
  rfl
theorem joinF_signs {cs : List Nat} (h : cs.length ≤ 16777216) : joinF [.str "", .list (cs.map fun c => .str (tx [c]))] = some (.d (.str (tx cs))) := by
  have e : (cs.map fun c => PyData.str (tx [c])) = (cs.map fun c => tx [c]).map .str := by rw [List.map_map]; rfl
  rw [e, joinF_jn (by rw [sum_signs]; exact h), jn_signs]
theorem allF_map {α : Type} (xs : List α) (f : α → Bool) : allF [.list (xs.map fun a => .bool (f a))] = some (.d (.bool (xs.all f))) := by
  have e : (xs.map fun a => PyData.bool (f a)) = (xs.map f).map .bool := by rw [List.map_map]; rfl
  show (boolsOf (xs.map fun a => .bool (f a))).map (fun bs => Vl.d (.bool (bs.all id))) = _
  rw [e, boolsOf_map]
  show some (Vl.d (.bool ((xs.map f).all id))) = _
  rw [List.all_map]
  rfl
theorem anyF_map {α : Type} (xs : List α) (f : α → Bool) : anyF [.list (xs.map fun a => .bool (f a))] = some (.d (.bool (xs.any f))) := by
  have e : (xs.map fun a => PyData.bool (f a)) = (xs.map f).map .bool := by rw [List.map_map]; rfl
  show (boolsOf (xs.map fun a => .bool (f a))).map (fun bs => Vl.d (.bool (bs.any id))) = _
  rw [e, boolsOf_map]
  show some (Vl.d (.bool ((xs.map f).any id))) = _
  rw [List.any_map]
  rfl
/-- pairs with their places -/
theorem enumL_eq (ds : List D) : ∀ k, enumL k ds = (List.range ds.length).map fun j => .tuple [.int (((k + j : Nat)) : Int), ds.getD j .none] := by
  induction ds with
  | nil => intro k; rfl
  | cons d ds ih =>
    intro k
    show PyData.tuple [.int (k : Nat), d] :: enumL (k + 1) ds = _
    rw [ih, List.length_cons, List.range_succ_eq_map, List.map_cons, List.map_map]
    congr 1
    refine List.map_congr_left fun j _ => ?_
    show PyData.tuple [.int (((k + 1 + j : Nat)) : Int), ds.getD j .none] = .tuple [.int (((k + (j + 1) : Nat)) : Int), (d :: ds).getD (j + 1) .none]
    rw [List.getD_cons_succ, show k + 1 + j = k + (j + 1) by omega]
theorem ixD_str {z : Str} {i : Int} (h0 : 0 ≤ i) (h1 : i < ((z.length : Nat) : Int)) : ixD (.str z) (.int i) = some (.d (.str (tx [z.cps.getD i.toNat 0]))) := by
  show (atI z.cps.toList i).map (fun c => Vl.d (.str (tx [c]))) = _
  rw [at_str h0 h1]
  rfl
theorem ixD_list {ds : List D} {i : Int} (h0 : 0 ≤ i) (h1 : i < ((ds.length : Nat) : Int)) : ixD (.list ds) (.int i) = some (.d (ds.getD i.toNat .none)) := by
  show (atI ds i).map Vl.d = _
  rw [at_list .none h0 h1]
  rfl
theorem ixD_tup {ds : List D} {i : Int} (h0 : 0 ≤ i) (h1 : i < ((ds.length : Nat) : Int)) : ixD (.tuple ds) (.int i) = some (.d (ds.getD i.toNat .none)) := by
  show (atI ds i).map Vl.d = _
  rw [at_list .none h0 h1]
  rfl
theorem getD_map {α : Type} {f : α → D} {xs : List α} {j : Nat} (d : α) (h : j < xs.length) : (xs.map f).getD j .none = f (xs.getD j d) := by
  rw [List.getD_eq_getElem?_getD, List.getD_eq_getElem?_getD, List.getElem?_map, List.getElem?_eq_getElem h]
  rfl
theorem enumL_map {α : Type} (f : α → D) (d : α) (ps : List α) : enumL 0 (ps.map f) = (List.range ps.length).map fun j => .tuple [.int ((j : Nat) : Int), f (ps.getD j d)] := by
  rw [enumL_eq, List.length_map]
  refine List.map_congr_left fun j m => ?_
  rw [getD_map d (List.mem_range.mp m), Nat.zero_add]
theorem smI_of {j : Int} (h0 : -1000000000 ≤ j) (h : j ≤ 1000000000) : smI j = true := decide_eq_true (by omega)
theorem rng_zero (j : Int) : rngL 0 j.toNat = (List.range j.toNat).map fun i => .int ((i : Nat) : Int) := by
  unfold rngL
  refine List.map_congr_left fun i _ => ?_
  rw [Int.zero_add]
theorem ixN_at {n j : Nat} (h : j < n) : ixN n ((j : Nat) : Int) = some j := by
  unfold ixN
  rw [if_pos (by omega), if_pos (by omega), Int.toNat_natCast]
theorem at_last {ds : List D} (d : D) (h : ds ≠ []) : ixD (.list ds) (.int (-1)) = some (.d (ds.getLastD d)) := by
  show (atI ds (-1)).map Vl.d = _
  have hl : 0 < ds.length := List.length_pos_iff.mpr h
  unfold atI ixN
  rw [if_neg (by decide), if_pos (by omega)]
  show (ds[(-1 + (ds.length : Int)).toNat]?).map Vl.d = _
  rw [show (-1 + (ds.length : Int)).toNat = ds.length - 1 by omega, ← List.getLast?_eq_getElem?]
  cases ds with
  | nil => exact absurd rfl h
  | cons a r => rw [List.getLastD_eq_getLast?, List.getLast?_eq_some_getLast (by simp)]; rfl
end M

set_option Elab.async false
set_option linter.all false
set_option maxRecDepth 100000
set_option maxHeartbeats 4000000
/-! What the defs of words and rules answer. -/
namespace M
open PySem PySem.Spec L2 Sv

def bad (c : String) (s : S) : ER Vl := .er ⟨c, none⟩ s
theorem is_number_c (k : Int) (s : S) : call1 1 F_is_number_of_letters [.d (.int k)] s = .ok (.d (.bool (numOk k))) s := by
  refine call_rt (ds := [.int k]) rfl ?_
  simp only [b_is_number_of_letters, Gv, Gio, ins, List.map_cons, List.map_nil, List.length_cons, List.length_nil, Nat.sub_self, List.replicate_zero, List.append_nil, List.nil_append, List.cons_append, List.replicate_succ, Nat.reduceSub, Nat.reduceAdd, retS, retN, ret1, setS, sto, stoO, freeAt, free_dv, dv_some, dv_none, free_d, free_n, free_o, plain_dv, plain_dd, plain_n, dropS, seqS, ifS, raiS, nextS, brkS, cntS, unpS, tpG, itsOf, bindAll, optO, nmG, augS, chE, bind_ok, bind_er, bind_ite, out_ok, out_er, out_ite, seq_nx, seq_rt, seq_er, seq_bk, seq_ct, seq_ite, ite_and, ite_or, ite_and2, ite_or2, ite_andB, ite_orB, cE, varE, shE, shr, bi2, un1, opE, unE, rd, List.getElem?_cons_zero, List.getElem?_cons_succ, List.set_cons_zero, List.set_cons_succ, leD, ltD, gtD, geD, cmpD, eqD_str, neD_str, eqD_int, neD_int, inD_sign, isD, isNone, ifB, caE, consA, nilA, ca1, rdAll, dAll, lenD, intF, tupF, lstF, Option.map_some, Option.map_none, Option.bind_some, addD, intD, subI, modI, divI, adI, negD, mulD, revND, revD, tupE, lstE, mtE, okTy, isStr, isLst, stripF, callE, callI, truT, tru1, tru, truD, blT, notT, andT, orT, ifE, notE, andE, orE, if_true, Bool.not_true, Bool.not_false, Bool.true_and, Bool.and_true, Bool.false_and, Bool.or_false, Bool.false_or, Bool.true_or, Bool.or_true, Bool.and_false, Bool.false_xor, Bool.true_xor, slE, noP, someP, sl1, slD, seqI, its1, optI, forS, turn, lcE, wipeS, restS, plainAt, List.getD_cons_zero, List.getD_cons_succ, List.all_cons, List.all_nil, muE, mu1, lstAt, dArgs, appF, popF, rvsF, extF, rng1I, rng2I, enI, zipI, zip2, starA, subS, decide_true, decide_false, Int.reduceLT, Int.reduceLE, Nat.reduceLT, Nat.reduceLeDiff, true_and, and_true, Bool.false_eq_true, if_false, ite_true, ite_false, reduceIte, reduceCtorEq, Option.some.injEq]
  exact ⟨_, rfl⟩
theorem check_number_c (k : Int) (s : S) : call1 1 F_check_number [.d (.int k)] s = if numOk k = true then .ok (.d .none) s else bad "BadNumber" s := by
  cases h : numOk k
  · refine call_er (ds := [.int k]) rfl ?_
    simp only [b_check_number, Gv, Gio, ins, List.map_cons, List.map_nil, List.length_cons, List.length_nil, Nat.sub_self, List.replicate_zero, List.append_nil, List.nil_append, List.cons_append, List.replicate_succ, Nat.reduceSub, Nat.reduceAdd, retS, retN, ret1, setS, sto, stoO, freeAt, free_dv, dv_some, dv_none, free_d, free_n, free_o, plain_dv, plain_dd, plain_n, dropS, seqS, ifS, raiS, nextS, brkS, cntS, unpS, tpG, itsOf, bindAll, optO, nmG, augS, chE, bind_ok, bind_er, bind_ite, out_ok, out_er, out_ite, seq_nx, seq_rt, seq_er, seq_bk, seq_ct, seq_ite, ite_and, ite_or, ite_and2, ite_or2, ite_andB, ite_orB, cE, varE, shE, shr, bi2, un1, opE, unE, rd, List.getElem?_cons_zero, List.getElem?_cons_succ, List.set_cons_zero, List.set_cons_succ, leD, ltD, gtD, geD, cmpD, eqD_str, neD_str, eqD_int, neD_int, inD_sign, isD, isNone, ifB, caE, consA, nilA, ca1, rdAll, dAll, lenD, intF, tupF, lstF, Option.map_some, Option.map_none, Option.bind_some, addD, intD, subI, modI, divI, adI, negD, mulD, revND, revD, tupE, lstE, mtE, okTy, isStr, isLst, stripF, callE, callI, truT, tru1, tru, truD, blT, notT, andT, orT, ifE, notE, andE, orE, if_true, Bool.not_true, Bool.not_false, Bool.true_and, Bool.and_true, Bool.false_and, Bool.or_false, Bool.false_or, Bool.true_or, Bool.or_true, Bool.and_false, Bool.false_xor, Bool.true_xor, slE, noP, someP, sl1, slD, seqI, its1, optI, forS, turn, lcE, wipeS, restS, plainAt, List.getD_cons_zero, List.getD_cons_succ, List.all_cons, List.all_nil, muE, mu1, lstAt, dArgs, appF, popF, rvsF, extF, rng1I, rng2I, enI, zipI, zip2, starA, subS, decide_true, decide_false, Int.reduceLT, Int.reduceLE, Nat.reduceLT, Nat.reduceLeDiff, true_and, and_true, Bool.false_eq_true, if_false, ite_true, ite_false, reduceIte, reduceCtorEq, Option.some.injEq, is_number_c, h]
    exact ⟨_, rfl⟩
  · refine call_nx (ds := [.int k]) rfl ?_
    simp only [b_check_number, Gv, Gio, ins, List.map_cons, List.map_nil, List.length_cons, List.length_nil, Nat.sub_self, List.replicate_zero, List.append_nil, List.nil_append, List.cons_append, List.replicate_succ, Nat.reduceSub, Nat.reduceAdd, retS, retN, ret1, setS, sto, stoO, freeAt, free_dv, dv_some, dv_none, free_d, free_n, free_o, plain_dv, plain_dd, plain_n, dropS, seqS, ifS, raiS, nextS, brkS, cntS, unpS, tpG, itsOf, bindAll, optO, nmG, augS, chE, bind_ok, bind_er, bind_ite, out_ok, out_er, out_ite, seq_nx, seq_rt, seq_er, seq_bk, seq_ct, seq_ite, ite_and, ite_or, ite_and2, ite_or2, ite_andB, ite_orB, cE, varE, shE, shr, bi2, un1, opE, unE, rd, List.getElem?_cons_zero, List.getElem?_cons_succ, List.set_cons_zero, List.set_cons_succ, leD, ltD, gtD, geD, cmpD, eqD_str, neD_str, eqD_int, neD_int, inD_sign, isD, isNone, ifB, caE, consA, nilA, ca1, rdAll, dAll, lenD, intF, tupF, lstF, Option.map_some, Option.map_none, Option.bind_some, addD, intD, subI, modI, divI, adI, negD, mulD, revND, revD, tupE, lstE, mtE, okTy, isStr, isLst, stripF, callE, callI, truT, tru1, tru, truD, blT, notT, andT, orT, ifE, notE, andE, orE, if_true, Bool.not_true, Bool.not_false, Bool.true_and, Bool.and_true, Bool.false_and, Bool.or_false, Bool.false_or, Bool.true_or, Bool.or_true, Bool.and_false, Bool.false_xor, Bool.true_xor, slE, noP, someP, sl1, slD, seqI, its1, optI, forS, turn, lcE, wipeS, restS, plainAt, List.getD_cons_zero, List.getD_cons_succ, List.all_cons, List.all_nil, muE, mu1, lstAt, dArgs, appF, popF, rvsF, extF, rng1I, rng2I, enI, zipI, zip2, starA, subS, decide_true, decide_false, Int.reduceLT, Int.reduceLE, Nat.reduceLT, Nat.reduceLeDiff, true_and, and_true, Bool.false_eq_true, if_false, ite_true, ite_false, reduceIte, reduceCtorEq, Option.some.injEq, is_number_c, h]
    exact ⟨_, rfl⟩
theorem letters_of_c (k : Int) (s : S) : call1 1 F_letters_of [.d (.int k)] s = if numOk k = true then .ok (.d (.str (letters k))) s else bad "BadNumber" s := by
  cases h : numOk k
  · refine call_er (ds := [.int k]) rfl ?_
    simp only [b_letters_of, Gv, Gio, ins, List.map_cons, List.map_nil, List.length_cons, List.length_nil, Nat.sub_self, List.replicate_zero, List.append_nil, List.nil_append, List.cons_append, List.replicate_succ, Nat.reduceSub, Nat.reduceAdd, retS, retN, ret1, setS, sto, stoO, freeAt, free_dv, dv_some, dv_none, free_d, free_n, free_o, plain_dv, plain_dd, plain_n, dropS, seqS, ifS, raiS, nextS, brkS, cntS, unpS, tpG, itsOf, bindAll, optO, nmG, augS, chE, bind_ok, bind_er, bind_ite, out_ok, out_er, out_ite, seq_nx, seq_rt, seq_er, seq_bk, seq_ct, seq_ite, ite_and, ite_or, ite_and2, ite_or2, ite_andB, ite_orB, cE, varE, shE, shr, bi2, un1, opE, unE, rd, List.getElem?_cons_zero, List.getElem?_cons_succ, List.set_cons_zero, List.set_cons_succ, leD, ltD, gtD, geD, cmpD, eqD_str, neD_str, eqD_int, neD_int, inD_sign, isD, isNone, ifB, caE, consA, nilA, ca1, rdAll, dAll, lenD, intF, tupF, lstF, Option.map_some, Option.map_none, Option.bind_some, addD, intD, subI, modI, divI, adI, negD, mulD, revND, revD, tupE, lstE, mtE, okTy, isStr, isLst, stripF, callE, callI, truT, tru1, tru, truD, blT, notT, andT, orT, ifE, notE, andE, orE, if_true, Bool.not_true, Bool.not_false, Bool.true_and, Bool.and_true, Bool.false_and, Bool.or_false, Bool.false_or, Bool.true_or, Bool.or_true, Bool.and_false, Bool.false_xor, Bool.true_xor, slE, noP, someP, sl1, slD, seqI, its1, optI, forS, turn, lcE, wipeS, restS, plainAt, List.getD_cons_zero, List.getD_cons_succ, List.all_cons, List.all_nil, muE, mu1, lstAt, dArgs, appF, popF, rvsF, extF, rng1I, rng2I, enI, zipI, zip2, starA, subS, decide_true, decide_false, Int.reduceLT, Int.reduceLE, Nat.reduceLT, Nat.reduceLeDiff, true_and, and_true, Bool.false_eq_true, if_false, ite_true, ite_false, reduceIte, reduceCtorEq, Option.some.injEq, check_number_c, bad, h]
    exact ⟨_, rfl⟩
  · refine call_rt (ds := [.int k]) rfl ?_
    simp only [b_letters_of, Gv, Gio, ins, List.map_cons, List.map_nil, List.length_cons, List.length_nil, Nat.sub_self, List.replicate_zero, List.append_nil, List.nil_append, List.cons_append, List.replicate_succ, Nat.reduceSub, Nat.reduceAdd, retS, retN, ret1, setS, sto, stoO, freeAt, free_dv, dv_some, dv_none, free_d, free_n, free_o, plain_dv, plain_dd, plain_n, dropS, seqS, ifS, raiS, nextS, brkS, cntS, unpS, tpG, itsOf, bindAll, optO, nmG, augS, chE, bind_ok, bind_er, bind_ite, out_ok, out_er, out_ite, seq_nx, seq_rt, seq_er, seq_bk, seq_ct, seq_ite, ite_and, ite_or, ite_and2, ite_or2, ite_andB, ite_orB, cE, varE, shE, shr, bi2, un1, opE, unE, rd, List.getElem?_cons_zero, List.getElem?_cons_succ, List.set_cons_zero, List.set_cons_succ, leD, ltD, gtD, geD, cmpD, eqD_str, neD_str, eqD_int, neD_int, inD_sign, isD, isNone, ifB, caE, consA, nilA, ca1, rdAll, dAll, lenD, intF, tupF, lstF, Option.map_some, Option.map_none, Option.bind_some, addD, intD, subI, modI, divI, adI, negD, mulD, revND, revD, tupE, lstE, mtE, okTy, isStr, isLst, stripF, callE, callI, truT, tru1, tru, truD, blT, notT, andT, orT, ifE, notE, andE, orE, if_true, Bool.not_true, Bool.not_false, Bool.true_and, Bool.and_true, Bool.false_and, Bool.or_false, Bool.false_or, Bool.true_or, Bool.or_true, Bool.and_false, Bool.false_xor, Bool.true_xor, slE, noP, someP, sl1, slD, seqI, its1, optI, forS, turn, lcE, wipeS, restS, plainAt, List.getD_cons_zero, List.getD_cons_succ, List.all_cons, List.all_nil, muE, mu1, lstAt, dArgs, appF, popF, rvsF, extF, rng1I, rng2I, enI, zipI, zip2, starA, subS, decide_true, decide_false, Int.reduceLT, Int.reduceLE, Nat.reduceLT, Nat.reduceLeDiff, true_and, and_true, Bool.false_eq_true, if_false, ite_true, ite_false, reduceIte, reduceCtorEq, Option.some.injEq, check_number_c, h]
    exact ⟨_, rfl⟩
theorem is_word_c (k : Int) (w : Str) (s : S) : call1 2 F_is_word [.d (.int k), .d (.str w)] s = if numOk k = true then .ok (.d (.bool (isWord k w))) s else bad "BadNumber" s := by
  cases h : numOk k
  · refine call_er (ds := [.int k, .str w]) rfl ?_
    simp only [b_is_word, Gv, Gio, ins, List.map_cons, List.map_nil, List.length_cons, List.length_nil, Nat.sub_self, List.replicate_zero, List.append_nil, List.nil_append, List.cons_append, List.replicate_succ, Nat.reduceSub, Nat.reduceAdd, retS, retN, ret1, setS, sto, stoO, freeAt, free_dv, dv_some, dv_none, free_d, free_n, free_o, plain_dv, plain_dd, plain_n, dropS, seqS, ifS, raiS, nextS, brkS, cntS, unpS, tpG, itsOf, bindAll, optO, nmG, augS, chE, bind_ok, bind_er, bind_ite, out_ok, out_er, out_ite, seq_nx, seq_rt, seq_er, seq_bk, seq_ct, seq_ite, ite_and, ite_or, ite_and2, ite_or2, ite_andB, ite_orB, cE, varE, shE, shr, bi2, un1, opE, unE, rd, List.getElem?_cons_zero, List.getElem?_cons_succ, List.set_cons_zero, List.set_cons_succ, leD, ltD, gtD, geD, cmpD, eqD_str, neD_str, eqD_int, neD_int, inD_sign, isD, isNone, ifB, caE, consA, nilA, ca1, rdAll, dAll, lenD, intF, tupF, lstF, Option.map_some, Option.map_none, Option.bind_some, addD, intD, subI, modI, divI, adI, negD, mulD, revND, revD, tupE, lstE, mtE, okTy, isStr, isLst, stripF, callE, callI, truT, tru1, tru, truD, blT, notT, andT, orT, ifE, notE, andE, orE, if_true, Bool.not_true, Bool.not_false, Bool.true_and, Bool.and_true, Bool.false_and, Bool.or_false, Bool.false_or, Bool.true_or, Bool.or_true, Bool.and_false, Bool.false_xor, Bool.true_xor, slE, noP, someP, sl1, slD, seqI, its1, optI, forS, turn, lcE, wipeS, restS, plainAt, List.getD_cons_zero, List.getD_cons_succ, List.all_cons, List.all_nil, muE, mu1, lstAt, dArgs, appF, popF, rvsF, extF, rng1I, rng2I, enI, zipI, zip2, starA, subS, decide_true, decide_false, Int.reduceLT, Int.reduceLE, Nat.reduceLT, Nat.reduceLeDiff, true_and, and_true, Bool.false_eq_true, if_false, ite_true, ite_false, reduceIte, reduceCtorEq, Option.some.injEq, letters_of_c, bad, h]
    exact ⟨_, rfl⟩
  · refine call_rt (ds := [.int k, .str w]) rfl ?_
    simp only [b_is_word, Gv, Gio, ins, List.map_cons, List.map_nil, List.length_cons, List.length_nil, Nat.sub_self, List.replicate_zero, List.append_nil, List.nil_append, List.cons_append, List.replicate_succ, Nat.reduceSub, Nat.reduceAdd, retS, retN, ret1, setS, sto, stoO, freeAt, free_dv, dv_some, dv_none, free_d, free_n, free_o, plain_dv, plain_dd, plain_n, dropS, seqS, ifS, raiS, nextS, brkS, cntS, unpS, tpG, itsOf, bindAll, optO, nmG, augS, chE, bind_ok, bind_er, bind_ite, out_ok, out_er, out_ite, seq_nx, seq_rt, seq_er, seq_bk, seq_ct, seq_ite, ite_and, ite_or, ite_and2, ite_or2, ite_andB, ite_orB, cE, varE, shE, shr, bi2, un1, opE, unE, rd, List.getElem?_cons_zero, List.getElem?_cons_succ, List.set_cons_zero, List.set_cons_succ, leD, ltD, gtD, geD, cmpD, eqD_str, neD_str, eqD_int, neD_int, inD_sign, isD, isNone, ifB, caE, consA, nilA, ca1, rdAll, dAll, lenD, intF, tupF, lstF, Option.map_some, Option.map_none, Option.bind_some, addD, intD, subI, modI, divI, adI, negD, mulD, revND, revD, tupE, lstE, mtE, okTy, isStr, isLst, stripF, callE, callI, truT, tru1, tru, truD, blT, notT, andT, orT, ifE, notE, andE, orE, if_true, Bool.not_true, Bool.not_false, Bool.true_and, Bool.and_true, Bool.false_and, Bool.or_false, Bool.false_or, Bool.true_or, Bool.or_true, Bool.and_false, Bool.false_xor, Bool.true_xor, slE, noP, someP, sl1, slD, seqI, its1, optI, forS, turn, lcE, wipeS, restS, plainAt, List.getD_cons_zero, List.getD_cons_succ, List.all_cons, List.all_nil, muE, mu1, lstAt, dArgs, appF, popF, rvsF, extF, rng1I, rng2I, enI, zipI, zip2, starA, subS, decide_true, decide_false, Int.reduceLT, Int.reduceLE, Nat.reduceLT, Nat.reduceLeDiff, true_and, and_true, Bool.false_eq_true, if_false, ite_true, ite_false, reduceIte, reduceCtorEq, Option.some.injEq, letters_of_c, h]
    exact ⟨_, rfl⟩
theorem check_word_c (k : Int) (w : Str) (s : S) : call1 2 F_check_word [.d (.int k), .d (.str w)] s = if numOk k = true then (if isWord k w = true then .ok (.d .none) s else bad "NotWord" s) else bad "BadNumber" s := by
  cases h : numOk k
  · refine call_er (ds := [.int k, .str w]) rfl ?_
    simp only [b_check_word, Gv, Gio, ins, List.map_cons, List.map_nil, List.length_cons, List.length_nil, Nat.sub_self, List.replicate_zero, List.append_nil, List.nil_append, List.cons_append, List.replicate_succ, Nat.reduceSub, Nat.reduceAdd, retS, retN, ret1, setS, sto, stoO, freeAt, free_dv, dv_some, dv_none, free_d, free_n, free_o, plain_dv, plain_dd, plain_n, dropS, seqS, ifS, raiS, nextS, brkS, cntS, unpS, tpG, itsOf, bindAll, optO, nmG, augS, chE, bind_ok, bind_er, bind_ite, out_ok, out_er, out_ite, seq_nx, seq_rt, seq_er, seq_bk, seq_ct, seq_ite, ite_and, ite_or, ite_and2, ite_or2, ite_andB, ite_orB, cE, varE, shE, shr, bi2, un1, opE, unE, rd, List.getElem?_cons_zero, List.getElem?_cons_succ, List.set_cons_zero, List.set_cons_succ, leD, ltD, gtD, geD, cmpD, eqD_str, neD_str, eqD_int, neD_int, inD_sign, isD, isNone, ifB, caE, consA, nilA, ca1, rdAll, dAll, lenD, intF, tupF, lstF, Option.map_some, Option.map_none, Option.bind_some, addD, intD, subI, modI, divI, adI, negD, mulD, revND, revD, tupE, lstE, mtE, okTy, isStr, isLst, stripF, callE, callI, truT, tru1, tru, truD, blT, notT, andT, orT, ifE, notE, andE, orE, if_true, Bool.not_true, Bool.not_false, Bool.true_and, Bool.and_true, Bool.false_and, Bool.or_false, Bool.false_or, Bool.true_or, Bool.or_true, Bool.and_false, Bool.false_xor, Bool.true_xor, slE, noP, someP, sl1, slD, seqI, its1, optI, forS, turn, lcE, wipeS, restS, plainAt, List.getD_cons_zero, List.getD_cons_succ, List.all_cons, List.all_nil, muE, mu1, lstAt, dArgs, appF, popF, rvsF, extF, rng1I, rng2I, enI, zipI, zip2, starA, subS, decide_true, decide_false, Int.reduceLT, Int.reduceLE, Nat.reduceLT, Nat.reduceLeDiff, true_and, and_true, Bool.false_eq_true, if_false, ite_true, ite_false, reduceIte, reduceCtorEq, Option.some.injEq, is_word_c, bad, h]
    exact ⟨_, rfl⟩
  · cases h2 : isWord k w
    · refine call_er (ds := [.int k, .str w]) rfl ?_
      simp only [b_check_word, Gv, Gio, ins, List.map_cons, List.map_nil, List.length_cons, List.length_nil, Nat.sub_self, List.replicate_zero, List.append_nil, List.nil_append, List.cons_append, List.replicate_succ, Nat.reduceSub, Nat.reduceAdd, retS, retN, ret1, setS, sto, stoO, freeAt, free_dv, dv_some, dv_none, free_d, free_n, free_o, plain_dv, plain_dd, plain_n, dropS, seqS, ifS, raiS, nextS, brkS, cntS, unpS, tpG, itsOf, bindAll, optO, nmG, augS, chE, bind_ok, bind_er, bind_ite, out_ok, out_er, out_ite, seq_nx, seq_rt, seq_er, seq_bk, seq_ct, seq_ite, ite_and, ite_or, ite_and2, ite_or2, ite_andB, ite_orB, cE, varE, shE, shr, bi2, un1, opE, unE, rd, List.getElem?_cons_zero, List.getElem?_cons_succ, List.set_cons_zero, List.set_cons_succ, leD, ltD, gtD, geD, cmpD, eqD_str, neD_str, eqD_int, neD_int, inD_sign, isD, isNone, ifB, caE, consA, nilA, ca1, rdAll, dAll, lenD, intF, tupF, lstF, Option.map_some, Option.map_none, Option.bind_some, addD, intD, subI, modI, divI, adI, negD, mulD, revND, revD, tupE, lstE, mtE, okTy, isStr, isLst, stripF, callE, callI, truT, tru1, tru, truD, blT, notT, andT, orT, ifE, notE, andE, orE, if_true, Bool.not_true, Bool.not_false, Bool.true_and, Bool.and_true, Bool.false_and, Bool.or_false, Bool.false_or, Bool.true_or, Bool.or_true, Bool.and_false, Bool.false_xor, Bool.true_xor, slE, noP, someP, sl1, slD, seqI, its1, optI, forS, turn, lcE, wipeS, restS, plainAt, List.getD_cons_zero, List.getD_cons_succ, List.all_cons, List.all_nil, muE, mu1, lstAt, dArgs, appF, popF, rvsF, extF, rng1I, rng2I, enI, zipI, zip2, starA, subS, decide_true, decide_false, Int.reduceLT, Int.reduceLE, Nat.reduceLT, Nat.reduceLeDiff, true_and, and_true, Bool.false_eq_true, if_false, ite_true, ite_false, reduceIte, reduceCtorEq, Option.some.injEq, is_word_c, h, h2]
      exact ⟨_, rfl⟩
    · refine call_nx (ds := [.int k, .str w]) rfl ?_
      simp only [b_check_word, Gv, Gio, ins, List.map_cons, List.map_nil, List.length_cons, List.length_nil, Nat.sub_self, List.replicate_zero, List.append_nil, List.nil_append, List.cons_append, List.replicate_succ, Nat.reduceSub, Nat.reduceAdd, retS, retN, ret1, setS, sto, stoO, freeAt, free_dv, dv_some, dv_none, free_d, free_n, free_o, plain_dv, plain_dd, plain_n, dropS, seqS, ifS, raiS, nextS, brkS, cntS, unpS, tpG, itsOf, bindAll, optO, nmG, augS, chE, bind_ok, bind_er, bind_ite, out_ok, out_er, out_ite, seq_nx, seq_rt, seq_er, seq_bk, seq_ct, seq_ite, ite_and, ite_or, ite_and2, ite_or2, ite_andB, ite_orB, cE, varE, shE, shr, bi2, un1, opE, unE, rd, List.getElem?_cons_zero, List.getElem?_cons_succ, List.set_cons_zero, List.set_cons_succ, leD, ltD, gtD, geD, cmpD, eqD_str, neD_str, eqD_int, neD_int, inD_sign, isD, isNone, ifB, caE, consA, nilA, ca1, rdAll, dAll, lenD, intF, tupF, lstF, Option.map_some, Option.map_none, Option.bind_some, addD, intD, subI, modI, divI, adI, negD, mulD, revND, revD, tupE, lstE, mtE, okTy, isStr, isLst, stripF, callE, callI, truT, tru1, tru, truD, blT, notT, andT, orT, ifE, notE, andE, orE, if_true, Bool.not_true, Bool.not_false, Bool.true_and, Bool.and_true, Bool.false_and, Bool.or_false, Bool.false_or, Bool.true_or, Bool.or_true, Bool.and_false, Bool.false_xor, Bool.true_xor, slE, noP, someP, sl1, slD, seqI, its1, optI, forS, turn, lcE, wipeS, restS, plainAt, List.getD_cons_zero, List.getD_cons_succ, List.all_cons, List.all_nil, muE, mu1, lstAt, dArgs, appF, popF, rvsF, extF, rng1I, rng2I, enI, zipI, zip2, starA, subS, decide_true, decide_false, Int.reduceLT, Int.reduceLE, Nat.reduceLT, Nat.reduceLeDiff, true_and, and_true, Bool.false_eq_true, if_false, ite_true, ite_false, reduceIte, reduceCtorEq, Option.some.injEq, is_word_c, h, h2]
      exact ⟨_, rfl⟩
theorem is_set_c (l p : Str) (hl : l.length ≤ 16777216) (s : S) : call1 2 F_is_set [.d (.str l), .d (.str p)] s = .ok (.d (.bool (isSet l p))) s := by
  refine call_rt (ds := [.str l, .str p]) rfl ?_
  have ll : l.cps.toList.length = l.length := Array.length_toList
  simp only [b_is_set, Gv, Gio, ins, List.map_cons, List.map_nil, List.length_cons, List.length_nil, Nat.sub_self, List.replicate_zero, List.append_nil, List.nil_append, List.cons_append, List.replicate_succ, Nat.reduceSub, Nat.reduceAdd, retS, retN, ret1, setS, sto, stoO, freeAt, free_dv, dv_some, dv_none, free_d, free_n, free_o, plain_dv, plain_dd, plain_n, dropS, seqS, ifS, raiS, nextS, brkS, cntS, unpS, tpG, itsOf, bindAll, optO, nmG, augS, chE, bind_ok, bind_er, out_ok, out_er, seq_nx, seq_rt, seq_er, seq_bk, seq_ct, ite_and, ite_or, ite_and2, ite_or2, ite_andB, ite_orB, cE, varE, shE, shr, bi2, un1, opE, unE, rd, List.getElem?_cons_zero, List.getElem?_cons_succ, List.set_cons_zero, List.set_cons_succ, leD, ltD, gtD, geD, cmpD, eqD_str, neD_str, eqD_int, neD_int, inD_sign, isD, isNone, ifB, caE, consA, nilA, ca1, rdAll, dAll, lenD, intF, tupF, lstF, Option.map_some, Option.map_none, Option.bind_some, addD, intD, subI, modI, divI, adI, negD, mulD, revND, revD, tupE, lstE, mtE, okTy, isStr, isLst, stripF, callE, callI, truT, tru1, tru, truD, blT, notT, andT, orT, ifE, notE, andE, orE, if_true, Bool.not_true, Bool.not_false, Bool.true_and, Bool.and_true, Bool.false_and, Bool.or_false, Bool.false_or, Bool.true_or, Bool.or_true, Bool.and_false, Bool.false_xor, Bool.true_xor, slE, noP, someP, sl1, slD, seqI, its1, optI, forS, turn, lcE, wipeS, restS, plainAt, List.getD_cons_zero, List.getD_cons_succ, List.all_cons, List.all_nil, muE, mu1, lstAt, dArgs, appF, popF, rvsF, extF, rng1I, rng2I, enI, zipI, zip2, starA, subS, decide_true, decide_false, Int.reduceLT, Int.reduceLE, Nat.reduceLT, Nat.reduceLeDiff, true_and, and_true, Bool.false_eq_true, if_false, ite_true, ite_false, reduceIte, reduceCtorEq, Option.some.injEq, items_str]
  rw [lcL_p (P := fun c => decide (c ∈ p.cps.toList)) (f := fun c => .str (tx [c])) (by rw [ll]; show 0 + _ ≤ _; omega) fun c m => ⟨_, rfl, rfl, ?_, fun h => rfl⟩]
  · simp only [Gv, Gio, ins, List.map_cons, List.map_nil, List.length_cons, List.length_nil, Nat.sub_self, List.replicate_zero, List.append_nil, List.nil_append, List.cons_append, List.replicate_succ, Nat.reduceSub, Nat.reduceAdd, retS, retN, ret1, setS, sto, stoO, freeAt, free_dv, dv_some, dv_none, free_d, free_n, free_o, plain_dv, plain_dd, plain_n, dropS, seqS, ifS, raiS, nextS, brkS, cntS, unpS, tpG, itsOf, bindAll, optO, nmG, augS, chE, bind_ok, bind_er, out_ok, out_er, seq_nx, seq_rt, seq_er, seq_bk, seq_ct, ite_and, ite_or, ite_and2, ite_or2, ite_andB, ite_orB, cE, varE, shE, shr, bi2, un1, opE, unE, rd, List.getElem?_cons_zero, List.getElem?_cons_succ, List.set_cons_zero, List.set_cons_succ, leD, ltD, gtD, geD, cmpD, eqD_str, neD_str, eqD_int, neD_int, inD_sign, isD, isNone, ifB, caE, consA, nilA, ca1, rdAll, dAll, lenD, intF, tupF, lstF, Option.map_some, Option.map_none, Option.bind_some, addD, intD, subI, modI, divI, adI, negD, mulD, revND, revD, tupE, lstE, mtE, okTy, isStr, isLst, stripF, callE, callI, truT, tru1, tru, truD, blT, notT, andT, orT, ifE, notE, andE, orE, if_true, Bool.not_true, Bool.not_false, Bool.true_and, Bool.and_true, Bool.false_and, Bool.or_false, Bool.false_or, Bool.true_or, Bool.or_true, Bool.and_false, Bool.false_xor, Bool.true_xor, slE, noP, someP, sl1, slD, seqI, its1, optI, forS, turn, lcE, wipeS, restS, plainAt, List.getD_cons_zero, List.getD_cons_succ, List.all_cons, List.all_nil, muE, mu1, lstAt, dArgs, appF, popF, rvsF, extF, rng1I, rng2I, enI, zipI, zip2, starA, subS, decide_true, decide_false, Int.reduceLT, Int.reduceLE, Nat.reduceLT, Nat.reduceLeDiff, true_and, and_true, Bool.false_eq_true, if_false, ite_true, ite_false, reduceIte, reduceCtorEq, Option.some.injEq]
    rw [joinF_signs (Nat.le_trans (List.length_filter_le _ _) (by omega))]
    simp only [Gv, Gio, ins, List.map_cons, List.map_nil, List.length_cons, List.length_nil, Nat.sub_self, List.replicate_zero, List.append_nil, List.nil_append, List.cons_append, List.replicate_succ, Nat.reduceSub, Nat.reduceAdd, retS, retN, ret1, setS, sto, stoO, freeAt, free_dv, dv_some, dv_none, free_d, free_n, free_o, plain_dv, plain_dd, plain_n, dropS, seqS, ifS, raiS, nextS, brkS, cntS, unpS, tpG, itsOf, bindAll, optO, nmG, augS, chE, bind_ok, bind_er, out_ok, out_er, seq_nx, seq_rt, seq_er, seq_bk, seq_ct, ite_and, ite_or, ite_and2, ite_or2, ite_andB, ite_orB, cE, varE, shE, shr, bi2, un1, opE, unE, rd, List.getElem?_cons_zero, List.getElem?_cons_succ, List.set_cons_zero, List.set_cons_succ, leD, ltD, gtD, geD, cmpD, eqD_str, neD_str, eqD_int, neD_int, inD_sign, isD, isNone, ifB, caE, consA, nilA, ca1, rdAll, dAll, lenD, intF, tupF, lstF, Option.map_some, Option.map_none, Option.bind_some, addD, intD, subI, modI, divI, adI, negD, mulD, revND, revD, tupE, lstE, mtE, okTy, isStr, isLst, stripF, callE, callI, truT, tru1, tru, truD, blT, notT, andT, orT, ifE, notE, andE, orE, if_true, Bool.not_true, Bool.not_false, Bool.true_and, Bool.and_true, Bool.false_and, Bool.or_false, Bool.false_or, Bool.true_or, Bool.or_true, Bool.and_false, Bool.false_xor, Bool.true_xor, slE, noP, someP, sl1, slD, seqI, its1, optI, forS, turn, lcE, wipeS, restS, plainAt, List.getD_cons_zero, List.getD_cons_succ, List.all_cons, List.all_nil, muE, mu1, lstAt, dArgs, appF, popF, rvsF, extF, rng1I, rng2I, enI, zipI, zip2, starA, subS, decide_true, decide_false, Int.reduceLT, Int.reduceLE, Nat.reduceLT, Nat.reduceLeDiff, true_and, and_true, Bool.false_eq_true, if_false, ite_true, ite_false, reduceIte, reduceCtorEq, Option.some.injEq]
    exact ⟨_, rfl⟩
  · simp only [Gv, Gio, ins, List.map_cons, List.map_nil, List.length_cons, List.length_nil, Nat.sub_self, List.replicate_zero, List.append_nil, List.nil_append, List.cons_append, List.replicate_succ, Nat.reduceSub, Nat.reduceAdd, retS, retN, ret1, setS, sto, stoO, freeAt, free_dv, dv_some, dv_none, free_d, free_n, free_o, plain_dv, plain_dd, plain_n, dropS, seqS, ifS, raiS, nextS, brkS, cntS, unpS, tpG, itsOf, bindAll, optO, nmG, augS, chE, bind_ok, bind_er, bind_ite, out_ok, out_er, out_ite, seq_nx, seq_rt, seq_er, seq_bk, seq_ct, seq_ite, ite_and, ite_or, ite_and2, ite_or2, ite_andB, ite_orB, cE, varE, shE, shr, bi2, un1, opE, unE, rd, List.getElem?_cons_zero, List.getElem?_cons_succ, List.set_cons_zero, List.set_cons_succ, leD, ltD, gtD, geD, cmpD, eqD_str, neD_str, eqD_int, neD_int, inD_sign, isD, isNone, ifB, caE, consA, nilA, ca1, rdAll, dAll, lenD, intF, tupF, lstF, Option.map_some, Option.map_none, Option.bind_some, addD, intD, subI, modI, divI, adI, negD, mulD, revND, revD, tupE, lstE, mtE, okTy, isStr, isLst, stripF, callE, callI, truT, tru1, tru, truD, blT, notT, andT, orT, ifE, notE, andE, orE, if_true, Bool.not_true, Bool.not_false, Bool.true_and, Bool.and_true, Bool.false_and, Bool.or_false, Bool.false_or, Bool.true_or, Bool.or_true, Bool.and_false, Bool.false_xor, Bool.true_xor, slE, noP, someP, sl1, slD, seqI, its1, optI, forS, turn, lcE, wipeS, restS, plainAt, List.getD_cons_zero, List.getD_cons_succ, List.all_cons, List.all_nil, muE, mu1, lstAt, dArgs, appF, popF, rvsF, extF, rng1I, rng2I, enI, zipI, zip2, starA, subS, decide_true, decide_false, Int.reduceLT, Int.reduceLE, Nat.reduceLT, Nat.reduceLeDiff, true_and, and_true, Bool.false_eq_true, if_false, ite_true, ite_false, reduceIte, reduceCtorEq, Option.some.injEq, Bool.false_xor]
theorem is_new_c (l n : Str) (s : S) : call1 2 F_is_new [.d (.str l), .d (.str n)] s = .ok (.d (.bool (isNew l n))) s := by
  refine call_rt (ds := [.str l, .str n]) rfl ?_
  simp only [b_is_new, Gv, Gio, ins, List.map_cons, List.map_nil, List.length_cons, List.length_nil, Nat.sub_self, List.replicate_zero, List.append_nil, List.nil_append, List.cons_append, List.replicate_succ, Nat.reduceSub, Nat.reduceAdd, retS, retN, ret1, setS, sto, stoO, freeAt, free_dv, dv_some, dv_none, free_d, free_n, free_o, plain_dv, plain_dd, plain_n, dropS, seqS, ifS, raiS, nextS, brkS, cntS, unpS, tpG, itsOf, bindAll, optO, nmG, augS, chE, bind_ok, bind_er, bind_ite, out_ok, out_er, out_ite, seq_nx, seq_rt, seq_er, seq_bk, seq_ct, seq_ite, ite_and, ite_or, ite_and2, ite_or2, ite_andB, ite_orB, cE, varE, shE, shr, bi2, un1, opE, unE, rd, List.getElem?_cons_zero, List.getElem?_cons_succ, List.set_cons_zero, List.set_cons_succ, leD, ltD, gtD, geD, cmpD, eqD_str, neD_str, eqD_int, neD_int, inD_sign, isD, isNone, ifB, caE, consA, nilA, ca1, rdAll, dAll, lenD, intF, tupF, lstF, Option.map_some, Option.map_none, Option.bind_some, addD, intD, subI, modI, divI, adI, negD, mulD, revND, revD, tupE, lstE, mtE, okTy, isStr, isLst, stripF, callE, callI, truT, tru1, tru, truD, blT, notT, andT, orT, ifE, notE, andE, orE, if_true, Bool.not_true, Bool.not_false, Bool.true_and, Bool.and_true, Bool.false_and, Bool.or_false, Bool.false_or, Bool.true_or, Bool.or_true, Bool.and_false, Bool.false_xor, Bool.true_xor, slE, noP, someP, sl1, slD, seqI, its1, optI, forS, turn, lcE, wipeS, restS, plainAt, List.getD_cons_zero, List.getD_cons_succ, List.all_cons, List.all_nil, muE, mu1, lstAt, dArgs, appF, popF, rvsF, extF, rng1I, rng2I, enI, zipI, zip2, starA, subS, decide_true, decide_false, Int.reduceLT, Int.reduceLE, Nat.reduceLT, Nat.reduceLeDiff, true_and, and_true, Bool.false_eq_true, if_false, ite_true, ite_false, reduceIte, reduceCtorEq, Option.some.injEq]
  exact ⟨_, rfl⟩
/-- a tuple of texts -/
abbrev tupS (ps : List Str) : D := .tuple (ps.map .str)
theorem is_context_c (l : Str) (ps : List Str) (e : Int) (hl : l.length ≤ 16777216) (s : S) : call1 3 F_is_context [.d (.str l), .d (tupS ps), .d (.int e)] s = .ok (.d (.bool (isCtx l ps e))) s := by
  refine call_rt (ds := [.str l, tupS ps, .int e]) rfl ?_
  have hi : itemsD (tupS ps) = some (ps.map .str) := rfl
  by_cases h2 : 2 < ((ps.length : Nat) : Int)
  · simp only [b_is_context, Gv, Gio, ins, List.map_cons, List.map_nil, List.length_cons, List.length_nil, Nat.sub_self, List.replicate_zero, List.append_nil, List.nil_append, List.cons_append, List.replicate_succ, Nat.reduceSub, Nat.reduceAdd, retS, retN, ret1, setS, sto, stoO, freeAt, free_dv, dv_some, dv_none, free_d, free_n, free_o, plain_dv, plain_dd, plain_n, dropS, seqS, ifS, raiS, nextS, brkS, cntS, unpS, tpG, itsOf, bindAll, optO, nmG, augS, chE, bind_ok, bind_er, bind_ite, out_ok, out_er, out_ite, seq_nx, seq_rt, seq_er, seq_bk, seq_ct, seq_ite, ite_and, ite_or, ite_and2, ite_or2, ite_andB, ite_orB, cE, varE, shE, shr, bi2, un1, opE, unE, rd, List.getElem?_cons_zero, List.getElem?_cons_succ, List.set_cons_zero, List.set_cons_succ, leD, ltD, gtD, geD, cmpD, eqD_str, neD_str, eqD_int, neD_int, inD_sign, isD, isNone, ifB, caE, consA, nilA, ca1, rdAll, dAll, lenD, intF, tupF, lstF, Option.map_some, Option.map_none, Option.bind_some, addD, intD, subI, modI, divI, adI, negD, mulD, revND, revD, tupE, lstE, mtE, okTy, isStr, isLst, stripF, callE, callI, truT, tru1, tru, truD, blT, notT, andT, orT, ifE, notE, andE, orE, if_true, Bool.not_true, Bool.not_false, Bool.true_and, Bool.and_true, Bool.false_and, Bool.or_false, Bool.false_or, Bool.true_or, Bool.or_true, Bool.and_false, Bool.false_xor, Bool.true_xor, slE, noP, someP, sl1, slD, seqI, its1, optI, forS, turn, lcE, wipeS, restS, plainAt, List.getD_cons_zero, List.getD_cons_succ, List.all_cons, List.all_nil, muE, mu1, lstAt, dArgs, appF, popF, rvsF, extF, rng1I, rng2I, enI, zipI, zip2, starA, subS, decide_true, decide_false, Int.reduceLT, Int.reduceLE, Nat.reduceLT, Nat.reduceLeDiff, true_and, and_true, Bool.false_eq_true, if_false, ite_true, ite_false, reduceIte, reduceCtorEq, Option.some.injEq, List.length_map, h2, decide_true]
    unfold isCtx
    rw [decide_eq_false (by omega)]
    exact ⟨_, rfl⟩
  · have step : ∀ j ∈ List.range ps.length, ∀ s, (∃ x y, s = [some (.d (.str l)), some (.d (tupS ps)), some (.d (.int e)), dv x, dv y]) →
        ∃ s2, (∃ x y, s2 = [some (.d (.str l)), some (.d (tupS ps)), some (.d (.int e)), dv x, dv y]) ∧ turn (tpG [nmG 3, nmG 4]) b_is_context_1 (.tuple [.int ((j : Nat) : Int), .str (ps.getD j "")]) s = if ctxAt l (ps.getD j "") e (j : Nat) = true then .nx s2 else .rt (.d (.bool false)) s2 := by
      rintro j m s ⟨x, y, rfl⟩
      refine ⟨_, ⟨some (.int (j : Nat)), some (.str (ps.getD j "")), rfl⟩, ?_⟩
      simp only [b_is_context_1, Gv, Gio, ins, List.map_cons, List.map_nil, List.length_cons, List.length_nil, Nat.sub_self, List.replicate_zero, List.append_nil, List.nil_append, List.cons_append, List.replicate_succ, Nat.reduceSub, Nat.reduceAdd, retS, retN, ret1, setS, sto, stoO, freeAt, free_dv, dv_some, dv_none, free_d, free_n, free_o, plain_dv, plain_dd, plain_n, dropS, seqS, ifS, raiS, nextS, brkS, cntS, unpS, tpG, itsOf, bindAll, optO, nmG, augS, chE, bind_ok, bind_er, bind_ite, out_ok, out_er, out_ite, seq_nx, seq_rt, seq_er, seq_bk, seq_ct, seq_ite, ite_and, ite_or, ite_and2, ite_or2, ite_andB, ite_orB, cE, varE, shE, shr, bi2, un1, opE, unE, rd, List.getElem?_cons_zero, List.getElem?_cons_succ, List.set_cons_zero, List.set_cons_succ, leD, ltD, gtD, geD, cmpD, eqD_str, neD_str, eqD_int, neD_int, inD_sign, isD, isNone, ifB, caE, consA, nilA, ca1, rdAll, dAll, lenD, intF, tupF, lstF, Option.map_some, Option.map_none, Option.bind_some, addD, intD, subI, modI, divI, adI, negD, mulD, revND, revD, tupE, lstE, mtE, okTy, isStr, isLst, stripF, callE, callI, truT, tru1, tru, truD, blT, notT, andT, orT, ifE, notE, andE, orE, if_true, Bool.not_true, Bool.not_false, Bool.true_and, Bool.and_true, Bool.false_and, Bool.or_false, Bool.false_or, Bool.true_or, Bool.or_true, Bool.and_false, Bool.false_xor, Bool.true_xor, slE, noP, someP, sl1, slD, seqI, its1, optI, forS, turn, lcE, wipeS, restS, plainAt, List.getD_cons_zero, List.getD_cons_succ, List.all_cons, List.all_nil, muE, mu1, lstAt, dArgs, appF, popF, rvsF, extF, rng1I, rng2I, enI, zipI, zip2, starA, subS, decide_true, decide_false, Int.reduceLT, Int.reduceLE, Nat.reduceLT, Nat.reduceLeDiff, true_and, and_true, Bool.false_eq_true, if_false, ite_true, ite_false, reduceIte, reduceCtorEq, Option.some.injEq, is_set_c _ _ hl]
      unfold ctxAt
      cases isSet l (ps.getD j "") <;> cases decide (((j : Nat) : Int) = e) <;> cases decide (ps.getD j "" = "#") <;> rfl
    simp only [b_is_context, Gv, Gio, ins, List.map_cons, List.map_nil, List.length_cons, List.length_nil, Nat.sub_self, List.replicate_zero, List.append_nil, List.nil_append, List.cons_append, List.replicate_succ, Nat.reduceSub, Nat.reduceAdd, retS, retN, ret1, setS, sto, stoO, freeAt, free_dv, dv_some, dv_none, free_d, free_n, free_o, plain_dv, plain_dd, plain_n, dropS, seqS, ifS, raiS, nextS, brkS, cntS, unpS, tpG, itsOf, bindAll, optO, nmG, augS, chE, bind_ok, bind_er, bind_ite, out_ok, out_er, out_ite, seq_nx, seq_rt, seq_er, seq_bk, seq_ct, seq_ite, ite_and, ite_or, ite_and2, ite_or2, ite_andB, ite_orB, cE, varE, shE, shr, bi2, un1, opE, unE, rd, List.getElem?_cons_zero, List.getElem?_cons_succ, List.set_cons_zero, List.set_cons_succ, leD, ltD, gtD, geD, cmpD, eqD_str, neD_str, eqD_int, neD_int, inD_sign, isD, isNone, ifB, caE, consA, nilA, ca1, rdAll, dAll, lenD, intF, tupF, lstF, Option.map_some, Option.map_none, Option.bind_some, addD, intD, subI, modI, divI, adI, negD, mulD, revND, revD, tupE, lstE, mtE, okTy, isStr, isLst, stripF, callE, callI, truT, tru1, tru, truD, blT, notT, andT, orT, ifE, notE, andE, orE, if_true, Bool.not_true, Bool.not_false, Bool.true_and, Bool.and_true, Bool.false_and, Bool.or_false, Bool.false_or, Bool.true_or, Bool.or_true, Bool.and_false, Bool.false_xor, Bool.true_xor, slE, noP, someP, sl1, slD, seqI, its1, optI, forS, turn, lcE, wipeS, restS, plainAt, List.getD_cons_zero, List.getD_cons_succ, List.all_cons, List.all_nil, muE, mu1, lstAt, dArgs, appF, popF, rvsF, extF, rng1I, rng2I, enI, zipI, zip2, starA, subS, decide_true, decide_false, Int.reduceLT, Int.reduceLE, Nat.reduceLT, Nat.reduceLeDiff, true_and, and_true, Bool.false_eq_true, if_false, ite_true, ite_false, reduceIte, reduceCtorEq, Option.some.injEq, List.length_map, h2, decide_false, hi, enumL_map PyData.str ""]
    obtain ⟨s', ⟨x, y, e1⟩, e2⟩ := forL_all (i := fun j => .tuple [.int ((j : Nat) : Int), .str (ps.getD j "")]) (xs := List.range ps.length)
      (s := [some (.d (.str l)), some (.d (tupS ps)), some (.d (.int e)), none, none]) ⟨none, none, rfl⟩ step
    rw [e2]
    unfold isCtx
    rw [decide_eq_true (by omega), Bool.true_and]
    cases (List.range ps.length).all fun j => ctxAt l (ps.getD j "") e (j : Nat)
    · exact ⟨_, rfl⟩
    · rw [e1]
      exact ⟨_, rfl⟩
theorem letters_le (k : Int) : (letters k).length ≤ 16777216 := Nat.le_trans (letters_len k) (by decide)
theorem data_eq (c n : Str) (l r : List Str) : Rl.data ⟨c, n, l, r⟩ = .tuple [.str c, .str n, tupS l, tupS r] := rfl
theorem is_rule_c (k : Int) (R : Rl) (s : S) : call1 2 F_is_rule [.d (.int k), .d R.data] s = if numOk k = true then .ok (.d (.bool (isRule k R))) s else bad "BadNumber" s := by
  obtain ⟨c, n, l, r⟩ := R
  cases h : numOk k
  · refine call_er (ds := [.int k, Rl.data ⟨c, n, l, r⟩]) rfl ?_
    simp only [b_is_rule, Gv, Gio, ins, List.map_cons, List.map_nil, List.length_cons, List.length_nil, Nat.sub_self, List.replicate_zero, List.append_nil, List.nil_append, List.cons_append, List.replicate_succ, Nat.reduceSub, Nat.reduceAdd, retS, retN, ret1, setS, sto, stoO, freeAt, free_dv, dv_some, dv_none, free_d, free_n, free_o, plain_dv, plain_dd, plain_n, dropS, seqS, ifS, raiS, nextS, brkS, cntS, unpS, tpG, itsOf, bindAll, optO, nmG, augS, chE, bind_ok, bind_er, bind_ite, out_ok, out_er, out_ite, seq_nx, seq_rt, seq_er, seq_bk, seq_ct, seq_ite, ite_and, ite_or, ite_and2, ite_or2, ite_andB, ite_orB, cE, varE, shE, shr, bi2, un1, opE, unE, rd, List.getElem?_cons_zero, List.getElem?_cons_succ, List.set_cons_zero, List.set_cons_succ, leD, ltD, gtD, geD, cmpD, eqD_str, neD_str, eqD_int, neD_int, inD_sign, isD, isNone, ifB, caE, consA, nilA, ca1, rdAll, dAll, lenD, intF, tupF, lstF, Option.map_some, Option.map_none, Option.bind_some, addD, intD, subI, modI, divI, adI, negD, mulD, revND, revD, tupE, lstE, mtE, okTy, isStr, isLst, stripF, callE, callI, truT, tru1, tru, truD, blT, notT, andT, orT, ifE, notE, andE, orE, if_true, Bool.not_true, Bool.not_false, Bool.true_and, Bool.and_true, Bool.false_and, Bool.or_false, Bool.false_or, Bool.true_or, Bool.or_true, Bool.and_false, Bool.false_xor, Bool.true_xor, slE, noP, someP, sl1, slD, seqI, its1, optI, forS, turn, lcE, wipeS, restS, plainAt, List.getD_cons_zero, List.getD_cons_succ, List.all_cons, List.all_nil, muE, mu1, lstAt, dArgs, appF, popF, rvsF, extF, rng1I, rng2I, enI, zipI, zip2, starA, subS, decide_true, decide_false, Int.reduceLT, Int.reduceLE, Nat.reduceLT, Nat.reduceLeDiff, true_and, and_true, Bool.false_eq_true, if_false, ite_true, ite_false, reduceIte, reduceCtorEq, Option.some.injEq, letters_of_c, bad, h]
    exact ⟨_, rfl⟩
  · refine call_rt (ds := [.int k, Rl.data ⟨c, n, l, r⟩]) rfl ?_
    by_cases hc : ((c.length : Nat) : Int) = 1
    · have e : c = tx [c.cps.getD 0 0] := oneS (by omega)
      generalize hx : c.cps.getD 0 0 = x at e
      have ei : isRule k ⟨c, n, l, r⟩ = (decide (x ∈ (letters k).cps.toList) && isNew (letters k) n && isCtx (letters k) l 0 && isCtx (letters k) r (((r.length : Nat) : Int) - 1)) := by
        unfold isRule
        rw [decide_eq_true hc, Bool.true_and, hx]
      rw [ei]
      subst e
      simp only [b_is_rule, Gv, Gio, ins, List.map_cons, List.map_nil, List.length_cons, List.length_nil, Nat.sub_self, List.replicate_zero, List.append_nil, List.nil_append, List.cons_append, List.replicate_succ, Nat.reduceSub, Nat.reduceAdd, retS, retN, ret1, setS, sto, stoO, freeAt, free_dv, dv_some, dv_none, free_d, free_n, free_o, plain_dv, plain_dd, plain_n, dropS, seqS, ifS, raiS, nextS, brkS, cntS, unpS, tpG, itsOf, bindAll, optO, nmG, augS, chE, bind_ok, bind_er, bind_ite, out_ok, out_er, out_ite, seq_nx, seq_rt, seq_er, seq_bk, seq_ct, seq_ite, ite_and, ite_or, ite_and2, ite_or2, ite_andB, ite_orB, cE, varE, shE, shr, bi2, un1, opE, unE, rd, List.getElem?_cons_zero, List.getElem?_cons_succ, List.set_cons_zero, List.set_cons_succ, leD, ltD, gtD, geD, cmpD, eqD_str, neD_str, eqD_int, neD_int, inD_sign, isD, isNone, ifB, caE, consA, nilA, ca1, rdAll, dAll, lenD, intF, tupF, lstF, Option.map_some, Option.map_none, Option.bind_some, addD, intD, subI, modI, divI, adI, negD, mulD, revND, revD, tupE, lstE, mtE, okTy, isStr, isLst, stripF, callE, callI, truT, tru1, tru, truD, blT, notT, andT, orT, ifE, notE, andE, orE, if_true, Bool.not_true, Bool.not_false, Bool.true_and, Bool.and_true, Bool.false_and, Bool.or_false, Bool.false_or, Bool.true_or, Bool.or_true, Bool.and_false, Bool.false_xor, Bool.true_xor, slE, noP, someP, sl1, slD, seqI, its1, optI, forS, turn, lcE, wipeS, restS, plainAt, List.getD_cons_zero, List.getD_cons_succ, List.all_cons, List.all_nil, muE, mu1, lstAt, dArgs, appF, popF, rvsF, extF, rng1I, rng2I, enI, zipI, zip2, starA, subS, decide_true, decide_false, Int.reduceLT, Int.reduceLE, Nat.reduceLT, Nat.reduceLeDiff, true_and, and_true, Bool.false_eq_true, if_false, ite_true, ite_false, reduceIte, reduceCtorEq, Option.some.injEq, letters_of_c, h, data_eq, is_new_c, is_context_c _ _ _ (letters_le k), List.length_map, Bool.true_xor]
      have hl : decide ((((tx [x]).length : Nat) : Int) = 1) = true := decide_eq_true (by rw [tx_len]; rfl)
      simp only [hl]
      cases decide (x ∈ (letters k).cps.toList) <;> cases isNew (letters k) n <;> cases isCtx (letters k) l 0 <;> exact ⟨_, rfl⟩
    · simp only [b_is_rule, Gv, Gio, ins, List.map_cons, List.map_nil, List.length_cons, List.length_nil, Nat.sub_self, List.replicate_zero, List.append_nil, List.nil_append, List.cons_append, List.replicate_succ, Nat.reduceSub, Nat.reduceAdd, retS, retN, ret1, setS, sto, stoO, freeAt, free_dv, dv_some, dv_none, free_d, free_n, free_o, plain_dv, plain_dd, plain_n, dropS, seqS, ifS, raiS, nextS, brkS, cntS, unpS, tpG, itsOf, bindAll, optO, nmG, augS, chE, bind_ok, bind_er, bind_ite, out_ok, out_er, out_ite, seq_nx, seq_rt, seq_er, seq_bk, seq_ct, seq_ite, ite_and, ite_or, ite_and2, ite_or2, ite_andB, ite_orB, cE, varE, shE, shr, bi2, un1, opE, unE, rd, List.getElem?_cons_zero, List.getElem?_cons_succ, List.set_cons_zero, List.set_cons_succ, leD, ltD, gtD, geD, cmpD, eqD_str, neD_str, eqD_int, neD_int, inD_sign, isD, isNone, ifB, caE, consA, nilA, ca1, rdAll, dAll, lenD, intF, tupF, lstF, Option.map_some, Option.map_none, Option.bind_some, addD, intD, subI, modI, divI, adI, negD, mulD, revND, revD, tupE, lstE, mtE, okTy, isStr, isLst, stripF, callE, callI, truT, tru1, tru, truD, blT, notT, andT, orT, ifE, notE, andE, orE, if_true, Bool.not_true, Bool.not_false, Bool.true_and, Bool.and_true, Bool.false_and, Bool.or_false, Bool.false_or, Bool.true_or, Bool.or_true, Bool.and_false, Bool.false_xor, Bool.true_xor, slE, noP, someP, sl1, slD, seqI, its1, optI, forS, turn, lcE, wipeS, restS, plainAt, List.getD_cons_zero, List.getD_cons_succ, List.all_cons, List.all_nil, muE, mu1, lstAt, dArgs, appF, popF, rvsF, extF, rng1I, rng2I, enI, zipI, zip2, starA, subS, decide_true, decide_false, Int.reduceLT, Int.reduceLE, Nat.reduceLT, Nat.reduceLeDiff, true_and, and_true, Bool.false_eq_true, if_false, ite_true, ite_false, reduceIte, reduceCtorEq, Option.some.injEq, letters_of_c, h, data_eq, hc, decide_false]
      unfold isRule
      rw [decide_eq_false hc]
      exact ⟨_, rfl⟩
abbrev rulesD (Rs : List Rl) : D := .tuple (Rs.map Rl.data)
def areRules (k : Int) (Rs : List Rl) : Bool := decide (((Rs.length : Nat) : Int) ≤ 8) && Rs.all (isRule k)
theorem is_rules_c (k : Int) (Rs : List Rl) (hr : Rs.length ≤ 16777216) (s : S) : call1 2 F_is_rules [.d (.int k), .d (rulesD Rs)] s = if numOk k = true then .ok (.d (.bool (areRules k Rs))) s else bad "BadNumber" s := by
  cases h : numOk k
  · refine call_er (ds := [.int k, rulesD Rs]) rfl ?_
    simp only [b_is_rules, Gv, Gio, ins, List.map_cons, List.map_nil, List.length_cons, List.length_nil, Nat.sub_self, List.replicate_zero, List.append_nil, List.nil_append, List.cons_append, List.replicate_succ, Nat.reduceSub, Nat.reduceAdd, retS, retN, ret1, setS, sto, stoO, freeAt, free_dv, dv_some, dv_none, free_d, free_n, free_o, plain_dv, plain_dd, plain_n, dropS, seqS, ifS, raiS, nextS, brkS, cntS, unpS, tpG, itsOf, bindAll, optO, nmG, augS, chE, bind_ok, bind_er, bind_ite, out_ok, out_er, out_ite, seq_nx, seq_rt, seq_er, seq_bk, seq_ct, seq_ite, ite_and, ite_or, ite_and2, ite_or2, ite_andB, ite_orB, cE, varE, shE, shr, bi2, un1, opE, unE, rd, List.getElem?_cons_zero, List.getElem?_cons_succ, List.set_cons_zero, List.set_cons_succ, leD, ltD, gtD, geD, cmpD, eqD_str, neD_str, eqD_int, neD_int, inD_sign, isD, isNone, ifB, caE, consA, nilA, ca1, rdAll, dAll, lenD, intF, tupF, lstF, Option.map_some, Option.map_none, Option.bind_some, addD, intD, subI, modI, divI, adI, negD, mulD, revND, revD, tupE, lstE, mtE, okTy, isStr, isLst, stripF, callE, callI, truT, tru1, tru, truD, blT, notT, andT, orT, ifE, notE, andE, orE, if_true, Bool.not_true, Bool.not_false, Bool.true_and, Bool.and_true, Bool.false_and, Bool.or_false, Bool.false_or, Bool.true_or, Bool.or_true, Bool.and_false, Bool.false_xor, Bool.true_xor, slE, noP, someP, sl1, slD, seqI, its1, optI, forS, turn, lcE, wipeS, restS, plainAt, List.getD_cons_zero, List.getD_cons_succ, List.all_cons, List.all_nil, muE, mu1, lstAt, dArgs, appF, popF, rvsF, extF, rng1I, rng2I, enI, zipI, zip2, starA, subS, decide_true, decide_false, Int.reduceLT, Int.reduceLE, Nat.reduceLT, Nat.reduceLeDiff, true_and, and_true, Bool.false_eq_true, if_false, ite_true, ite_false, reduceIte, reduceCtorEq, Option.some.injEq, check_number_c, bad, h]
    exact ⟨_, rfl⟩
  · refine call_rt (ds := [.int k, rulesD Rs]) rfl ?_
    have hi : itemsD (rulesD Rs) = some (Rs.map Rl.data) := rfl
    simp only [b_is_rules, Gv, Gio, ins, List.map_cons, List.map_nil, List.length_cons, List.length_nil, Nat.sub_self, List.replicate_zero, List.append_nil, List.nil_append, List.cons_append, List.replicate_succ, Nat.reduceSub, Nat.reduceAdd, retS, retN, ret1, setS, sto, stoO, freeAt, free_dv, dv_some, dv_none, free_d, free_n, free_o, plain_dv, plain_dd, plain_n, dropS, seqS, ifS, raiS, nextS, brkS, cntS, unpS, tpG, itsOf, bindAll, optO, nmG, augS, chE, bind_ok, bind_er, out_ok, out_er, seq_nx, seq_rt, seq_er, seq_bk, seq_ct, ite_and, ite_or, ite_and2, ite_or2, ite_andB, ite_orB, cE, varE, shE, shr, bi2, un1, opE, unE, rd, List.getElem?_cons_zero, List.getElem?_cons_succ, List.set_cons_zero, List.set_cons_succ, leD, ltD, gtD, geD, cmpD, eqD_str, neD_str, eqD_int, neD_int, inD_sign, isD, isNone, ifB, caE, consA, nilA, ca1, rdAll, dAll, lenD, intF, tupF, lstF, Option.map_some, Option.map_none, Option.bind_some, addD, intD, subI, modI, divI, adI, negD, mulD, revND, revD, tupE, lstE, mtE, okTy, isStr, isLst, stripF, callE, callI, truT, tru1, tru, truD, blT, notT, andT, orT, ifE, notE, andE, orE, if_true, Bool.not_true, Bool.not_false, Bool.true_and, Bool.and_true, Bool.false_and, Bool.or_false, Bool.false_or, Bool.true_or, Bool.or_true, Bool.and_false, Bool.false_xor, Bool.true_xor, slE, noP, someP, sl1, slD, seqI, its1, optI, forS, turn, lcE, wipeS, restS, plainAt, List.getD_cons_zero, List.getD_cons_succ, List.all_cons, List.all_nil, muE, mu1, lstAt, dArgs, appF, popF, rvsF, extF, rng1I, rng2I, enI, zipI, zip2, starA, subS, decide_true, decide_false, Int.reduceLT, Int.reduceLE, Nat.reduceLT, Nat.reduceLeDiff, true_and, and_true, Bool.false_eq_true, if_false, ite_true, ite_false, reduceIte, reduceCtorEq, Option.some.injEq, check_number_c, h, hi, List.length_map]
    rw [lcL_m (f := fun R => .bool (isRule k R)) (by rw [List.length_nil]; omega) fun R m => ⟨_, rfl, rfl, ?_⟩]
    · simp only [Gv, Gio, ins, List.map_cons, List.map_nil, List.length_cons, List.length_nil, Nat.sub_self, List.replicate_zero, List.append_nil, List.nil_append, List.cons_append, List.replicate_succ, Nat.reduceSub, Nat.reduceAdd, retS, retN, ret1, setS, sto, stoO, freeAt, free_dv, dv_some, dv_none, free_d, free_n, free_o, plain_dv, plain_dd, plain_n, dropS, seqS, ifS, raiS, nextS, brkS, cntS, unpS, tpG, itsOf, bindAll, optO, nmG, augS, chE, bind_ok, bind_er, out_ok, out_er, seq_nx, seq_rt, seq_er, seq_bk, seq_ct, ite_and, ite_or, ite_and2, ite_or2, ite_andB, ite_orB, cE, varE, shE, shr, bi2, un1, opE, unE, rd, List.getElem?_cons_zero, List.getElem?_cons_succ, List.set_cons_zero, List.set_cons_succ, leD, ltD, gtD, geD, cmpD, eqD_str, neD_str, eqD_int, neD_int, inD_sign, isD, isNone, ifB, caE, consA, nilA, ca1, rdAll, dAll, lenD, intF, tupF, lstF, Option.map_some, Option.map_none, Option.bind_some, addD, intD, subI, modI, divI, adI, negD, mulD, revND, revD, tupE, lstE, mtE, okTy, isStr, isLst, stripF, callE, callI, truT, tru1, tru, truD, blT, notT, andT, orT, ifE, notE, andE, orE, if_true, Bool.not_true, Bool.not_false, Bool.true_and, Bool.and_true, Bool.false_and, Bool.or_false, Bool.false_or, Bool.true_or, Bool.or_true, Bool.and_false, Bool.false_xor, Bool.true_xor, slE, noP, someP, sl1, slD, seqI, its1, optI, forS, turn, lcE, wipeS, restS, plainAt, List.getD_cons_zero, List.getD_cons_succ, List.all_cons, List.all_nil, muE, mu1, lstAt, dArgs, appF, popF, rvsF, extF, rng1I, rng2I, enI, zipI, zip2, starA, subS, decide_true, decide_false, Int.reduceLT, Int.reduceLE, Nat.reduceLT, Nat.reduceLeDiff, true_and, and_true, Bool.false_eq_true, if_false, ite_true, ite_false, reduceIte, reduceCtorEq, Option.some.injEq, allF_map]
      exact ⟨_, rfl⟩
    · simp only [Gv, Gio, ins, List.map_cons, List.map_nil, List.length_cons, List.length_nil, Nat.sub_self, List.replicate_zero, List.append_nil, List.nil_append, List.cons_append, List.replicate_succ, Nat.reduceSub, Nat.reduceAdd, retS, retN, ret1, setS, sto, stoO, freeAt, free_dv, dv_some, dv_none, free_d, free_n, free_o, plain_dv, plain_dd, plain_n, dropS, seqS, ifS, raiS, nextS, brkS, cntS, unpS, tpG, itsOf, bindAll, optO, nmG, augS, chE, bind_ok, bind_er, out_ok, out_er, seq_nx, seq_rt, seq_er, seq_bk, seq_ct, ite_and, ite_or, ite_and2, ite_or2, ite_andB, ite_orB, cE, varE, shE, shr, bi2, un1, opE, unE, rd, List.getElem?_cons_zero, List.getElem?_cons_succ, List.set_cons_zero, List.set_cons_succ, leD, ltD, gtD, geD, cmpD, eqD_str, neD_str, eqD_int, neD_int, inD_sign, isD, isNone, ifB, caE, consA, nilA, ca1, rdAll, dAll, lenD, intF, tupF, lstF, Option.map_some, Option.map_none, Option.bind_some, addD, intD, subI, modI, divI, adI, negD, mulD, revND, revD, tupE, lstE, mtE, okTy, isStr, isLst, stripF, callE, callI, truT, tru1, tru, truD, blT, notT, andT, orT, ifE, notE, andE, orE, if_true, Bool.not_true, Bool.not_false, Bool.true_and, Bool.and_true, Bool.false_and, Bool.or_false, Bool.false_or, Bool.true_or, Bool.or_true, Bool.and_false, Bool.false_xor, Bool.true_xor, slE, noP, someP, sl1, slD, seqI, its1, optI, forS, turn, lcE, wipeS, restS, plainAt, List.getD_cons_zero, List.getD_cons_succ, List.all_cons, List.all_nil, muE, mu1, lstAt, dArgs, appF, popF, rvsF, extF, rng1I, rng2I, enI, zipI, zip2, starA, subS, decide_true, decide_false, Int.reduceLT, Int.reduceLE, Nat.reduceLT, Nat.reduceLeDiff, true_and, and_true, Bool.false_eq_true, if_false, ite_true, ite_false, reduceIte, reduceCtorEq, Option.some.injEq, is_rule_c, h]
theorem check_rule_c (k : Int) (R : Rl) (s : S) : call1 2 F_check_rule [.d (.int k), .d R.data] s = if numOk k = true then (if isRule k R = true then .ok (.d .none) s else bad "NotRule" s) else bad "BadNumber" s := by
  cases h : numOk k
  · refine call_er (ds := [.int k, R.data]) rfl ?_
    simp only [b_check_rule, Gv, Gio, ins, List.map_cons, List.map_nil, List.length_cons, List.length_nil, Nat.sub_self, List.replicate_zero, List.append_nil, List.nil_append, List.cons_append, List.replicate_succ, Nat.reduceSub, Nat.reduceAdd, retS, retN, ret1, setS, sto, stoO, freeAt, free_dv, dv_some, dv_none, free_d, free_n, free_o, plain_dv, plain_dd, plain_n, dropS, seqS, ifS, raiS, nextS, brkS, cntS, unpS, tpG, itsOf, bindAll, optO, nmG, augS, chE, bind_ok, bind_er, bind_ite, out_ok, out_er, out_ite, seq_nx, seq_rt, seq_er, seq_bk, seq_ct, seq_ite, ite_and, ite_or, ite_and2, ite_or2, ite_andB, ite_orB, cE, varE, shE, shr, bi2, un1, opE, unE, rd, List.getElem?_cons_zero, List.getElem?_cons_succ, List.set_cons_zero, List.set_cons_succ, leD, ltD, gtD, geD, cmpD, eqD_str, neD_str, eqD_int, neD_int, inD_sign, isD, isNone, ifB, caE, consA, nilA, ca1, rdAll, dAll, lenD, intF, tupF, lstF, Option.map_some, Option.map_none, Option.bind_some, addD, intD, subI, modI, divI, adI, negD, mulD, revND, revD, tupE, lstE, mtE, okTy, isStr, isLst, stripF, callE, callI, truT, tru1, tru, truD, blT, notT, andT, orT, ifE, notE, andE, orE, if_true, Bool.not_true, Bool.not_false, Bool.true_and, Bool.and_true, Bool.false_and, Bool.or_false, Bool.false_or, Bool.true_or, Bool.or_true, Bool.and_false, Bool.false_xor, Bool.true_xor, slE, noP, someP, sl1, slD, seqI, its1, optI, forS, turn, lcE, wipeS, restS, plainAt, List.getD_cons_zero, List.getD_cons_succ, List.all_cons, List.all_nil, muE, mu1, lstAt, dArgs, appF, popF, rvsF, extF, rng1I, rng2I, enI, zipI, zip2, starA, subS, decide_true, decide_false, Int.reduceLT, Int.reduceLE, Nat.reduceLT, Nat.reduceLeDiff, true_and, and_true, Bool.false_eq_true, if_false, ite_true, ite_false, reduceIte, reduceCtorEq, Option.some.injEq, is_rule_c, bad, h]
    exact ⟨_, rfl⟩
  · cases h2 : isRule k R
    · refine call_er (ds := [.int k, R.data]) rfl ?_
      simp only [b_check_rule, Gv, Gio, ins, List.map_cons, List.map_nil, List.length_cons, List.length_nil, Nat.sub_self, List.replicate_zero, List.append_nil, List.nil_append, List.cons_append, List.replicate_succ, Nat.reduceSub, Nat.reduceAdd, retS, retN, ret1, setS, sto, stoO, freeAt, free_dv, dv_some, dv_none, free_d, free_n, free_o, plain_dv, plain_dd, plain_n, dropS, seqS, ifS, raiS, nextS, brkS, cntS, unpS, tpG, itsOf, bindAll, optO, nmG, augS, chE, bind_ok, bind_er, bind_ite, out_ok, out_er, out_ite, seq_nx, seq_rt, seq_er, seq_bk, seq_ct, seq_ite, ite_and, ite_or, ite_and2, ite_or2, ite_andB, ite_orB, cE, varE, shE, shr, bi2, un1, opE, unE, rd, List.getElem?_cons_zero, List.getElem?_cons_succ, List.set_cons_zero, List.set_cons_succ, leD, ltD, gtD, geD, cmpD, eqD_str, neD_str, eqD_int, neD_int, inD_sign, isD, isNone, ifB, caE, consA, nilA, ca1, rdAll, dAll, lenD, intF, tupF, lstF, Option.map_some, Option.map_none, Option.bind_some, addD, intD, subI, modI, divI, adI, negD, mulD, revND, revD, tupE, lstE, mtE, okTy, isStr, isLst, stripF, callE, callI, truT, tru1, tru, truD, blT, notT, andT, orT, ifE, notE, andE, orE, if_true, Bool.not_true, Bool.not_false, Bool.true_and, Bool.and_true, Bool.false_and, Bool.or_false, Bool.false_or, Bool.true_or, Bool.or_true, Bool.and_false, Bool.false_xor, Bool.true_xor, slE, noP, someP, sl1, slD, seqI, its1, optI, forS, turn, lcE, wipeS, restS, plainAt, List.getD_cons_zero, List.getD_cons_succ, List.all_cons, List.all_nil, muE, mu1, lstAt, dArgs, appF, popF, rvsF, extF, rng1I, rng2I, enI, zipI, zip2, starA, subS, decide_true, decide_false, Int.reduceLT, Int.reduceLE, Nat.reduceLT, Nat.reduceLeDiff, true_and, and_true, Bool.false_eq_true, if_false, ite_true, ite_false, reduceIte, reduceCtorEq, Option.some.injEq, is_rule_c, h, h2]
      exact ⟨_, rfl⟩
    · refine call_nx (ds := [.int k, R.data]) rfl ?_
      simp only [b_check_rule, Gv, Gio, ins, List.map_cons, List.map_nil, List.length_cons, List.length_nil, Nat.sub_self, List.replicate_zero, List.append_nil, List.nil_append, List.cons_append, List.replicate_succ, Nat.reduceSub, Nat.reduceAdd, retS, retN, ret1, setS, sto, stoO, freeAt, free_dv, dv_some, dv_none, free_d, free_n, free_o, plain_dv, plain_dd, plain_n, dropS, seqS, ifS, raiS, nextS, brkS, cntS, unpS, tpG, itsOf, bindAll, optO, nmG, augS, chE, bind_ok, bind_er, bind_ite, out_ok, out_er, out_ite, seq_nx, seq_rt, seq_er, seq_bk, seq_ct, seq_ite, ite_and, ite_or, ite_and2, ite_or2, ite_andB, ite_orB, cE, varE, shE, shr, bi2, un1, opE, unE, rd, List.getElem?_cons_zero, List.getElem?_cons_succ, List.set_cons_zero, List.set_cons_succ, leD, ltD, gtD, geD, cmpD, eqD_str, neD_str, eqD_int, neD_int, inD_sign, isD, isNone, ifB, caE, consA, nilA, ca1, rdAll, dAll, lenD, intF, tupF, lstF, Option.map_some, Option.map_none, Option.bind_some, addD, intD, subI, modI, divI, adI, negD, mulD, revND, revD, tupE, lstE, mtE, okTy, isStr, isLst, stripF, callE, callI, truT, tru1, tru, truD, blT, notT, andT, orT, ifE, notE, andE, orE, if_true, Bool.not_true, Bool.not_false, Bool.true_and, Bool.and_true, Bool.false_and, Bool.or_false, Bool.false_or, Bool.true_or, Bool.or_true, Bool.and_false, Bool.false_xor, Bool.true_xor, slE, noP, someP, sl1, slD, seqI, its1, optI, forS, turn, lcE, wipeS, restS, plainAt, List.getD_cons_zero, List.getD_cons_succ, List.all_cons, List.all_nil, muE, mu1, lstAt, dArgs, appF, popF, rvsF, extF, rng1I, rng2I, enI, zipI, zip2, starA, subS, decide_true, decide_false, Int.reduceLT, Int.reduceLE, Nat.reduceLT, Nat.reduceLeDiff, true_and, and_true, Bool.false_eq_true, if_false, ite_true, ite_false, reduceIte, reduceCtorEq, Option.some.injEq, is_rule_c, h, h2]
      exact ⟨_, rfl⟩
theorem check_rules_c (k : Int) (Rs : List Rl) (hr : Rs.length ≤ 16777216) (s : S) : call1 2 F_check_rules [.d (.int k), .d (rulesD Rs)] s = if numOk k = true then (if areRules k Rs = true then .ok (.d .none) s else bad "NotRule" s) else bad "BadNumber" s := by
  cases h : numOk k
  · refine call_er (ds := [.int k, rulesD Rs]) rfl ?_
    simp only [b_check_rules, Gv, Gio, ins, List.map_cons, List.map_nil, List.length_cons, List.length_nil, Nat.sub_self, List.replicate_zero, List.append_nil, List.nil_append, List.cons_append, List.replicate_succ, Nat.reduceSub, Nat.reduceAdd, retS, retN, ret1, setS, sto, stoO, freeAt, free_dv, dv_some, dv_none, free_d, free_n, free_o, plain_dv, plain_dd, plain_n, dropS, seqS, ifS, raiS, nextS, brkS, cntS, unpS, tpG, itsOf, bindAll, optO, nmG, augS, chE, bind_ok, bind_er, bind_ite, out_ok, out_er, out_ite, seq_nx, seq_rt, seq_er, seq_bk, seq_ct, seq_ite, ite_and, ite_or, ite_and2, ite_or2, ite_andB, ite_orB, cE, varE, shE, shr, bi2, un1, opE, unE, rd, List.getElem?_cons_zero, List.getElem?_cons_succ, List.set_cons_zero, List.set_cons_succ, leD, ltD, gtD, geD, cmpD, eqD_str, neD_str, eqD_int, neD_int, inD_sign, isD, isNone, ifB, caE, consA, nilA, ca1, rdAll, dAll, lenD, intF, tupF, lstF, Option.map_some, Option.map_none, Option.bind_some, addD, intD, subI, modI, divI, adI, negD, mulD, revND, revD, tupE, lstE, mtE, okTy, isStr, isLst, stripF, callE, callI, truT, tru1, tru, truD, blT, notT, andT, orT, ifE, notE, andE, orE, if_true, Bool.not_true, Bool.not_false, Bool.true_and, Bool.and_true, Bool.false_and, Bool.or_false, Bool.false_or, Bool.true_or, Bool.or_true, Bool.and_false, Bool.false_xor, Bool.true_xor, slE, noP, someP, sl1, slD, seqI, its1, optI, forS, turn, lcE, wipeS, restS, plainAt, List.getD_cons_zero, List.getD_cons_succ, List.all_cons, List.all_nil, muE, mu1, lstAt, dArgs, appF, popF, rvsF, extF, rng1I, rng2I, enI, zipI, zip2, starA, subS, decide_true, decide_false, Int.reduceLT, Int.reduceLE, Nat.reduceLT, Nat.reduceLeDiff, true_and, and_true, Bool.false_eq_true, if_false, ite_true, ite_false, reduceIte, reduceCtorEq, Option.some.injEq, is_rules_c _ _ hr, bad, h]
    exact ⟨_, rfl⟩
  · cases h2 : areRules k Rs
    · refine call_er (ds := [.int k, rulesD Rs]) rfl ?_
      simp only [b_check_rules, Gv, Gio, ins, List.map_cons, List.map_nil, List.length_cons, List.length_nil, Nat.sub_self, List.replicate_zero, List.append_nil, List.nil_append, List.cons_append, List.replicate_succ, Nat.reduceSub, Nat.reduceAdd, retS, retN, ret1, setS, sto, stoO, freeAt, free_dv, dv_some, dv_none, free_d, free_n, free_o, plain_dv, plain_dd, plain_n, dropS, seqS, ifS, raiS, nextS, brkS, cntS, unpS, tpG, itsOf, bindAll, optO, nmG, augS, chE, bind_ok, bind_er, bind_ite, out_ok, out_er, out_ite, seq_nx, seq_rt, seq_er, seq_bk, seq_ct, seq_ite, ite_and, ite_or, ite_and2, ite_or2, ite_andB, ite_orB, cE, varE, shE, shr, bi2, un1, opE, unE, rd, List.getElem?_cons_zero, List.getElem?_cons_succ, List.set_cons_zero, List.set_cons_succ, leD, ltD, gtD, geD, cmpD, eqD_str, neD_str, eqD_int, neD_int, inD_sign, isD, isNone, ifB, caE, consA, nilA, ca1, rdAll, dAll, lenD, intF, tupF, lstF, Option.map_some, Option.map_none, Option.bind_some, addD, intD, subI, modI, divI, adI, negD, mulD, revND, revD, tupE, lstE, mtE, okTy, isStr, isLst, stripF, callE, callI, truT, tru1, tru, truD, blT, notT, andT, orT, ifE, notE, andE, orE, if_true, Bool.not_true, Bool.not_false, Bool.true_and, Bool.and_true, Bool.false_and, Bool.or_false, Bool.false_or, Bool.true_or, Bool.or_true, Bool.and_false, Bool.false_xor, Bool.true_xor, slE, noP, someP, sl1, slD, seqI, its1, optI, forS, turn, lcE, wipeS, restS, plainAt, List.getD_cons_zero, List.getD_cons_succ, List.all_cons, List.all_nil, muE, mu1, lstAt, dArgs, appF, popF, rvsF, extF, rng1I, rng2I, enI, zipI, zip2, starA, subS, decide_true, decide_false, Int.reduceLT, Int.reduceLE, Nat.reduceLT, Nat.reduceLeDiff, true_and, and_true, Bool.false_eq_true, if_false, ite_true, ite_false, reduceIte, reduceCtorEq, Option.some.injEq, is_rules_c _ _ hr, h, h2]
      exact ⟨_, rfl⟩
    · refine call_nx (ds := [.int k, rulesD Rs]) rfl ?_
      simp only [b_check_rules, Gv, Gio, ins, List.map_cons, List.map_nil, List.length_cons, List.length_nil, Nat.sub_self, List.replicate_zero, List.append_nil, List.nil_append, List.cons_append, List.replicate_succ, Nat.reduceSub, Nat.reduceAdd, retS, retN, ret1, setS, sto, stoO, freeAt, free_dv, dv_some, dv_none, free_d, free_n, free_o, plain_dv, plain_dd, plain_n, dropS, seqS, ifS, raiS, nextS, brkS, cntS, unpS, tpG, itsOf, bindAll, optO, nmG, augS, chE, bind_ok, bind_er, bind_ite, out_ok, out_er, out_ite, seq_nx, seq_rt, seq_er, seq_bk, seq_ct, seq_ite, ite_and, ite_or, ite_and2, ite_or2, ite_andB, ite_orB, cE, varE, shE, shr, bi2, un1, opE, unE, rd, List.getElem?_cons_zero, List.getElem?_cons_succ, List.set_cons_zero, List.set_cons_succ, leD, ltD, gtD, geD, cmpD, eqD_str, neD_str, eqD_int, neD_int, inD_sign, isD, isNone, ifB, caE, consA, nilA, ca1, rdAll, dAll, lenD, intF, tupF, lstF, Option.map_some, Option.map_none, Option.bind_some, addD, intD, subI, modI, divI, adI, negD, mulD, revND, revD, tupE, lstE, mtE, okTy, isStr, isLst, stripF, callE, callI, truT, tru1, tru, truD, blT, notT, andT, orT, ifE, notE, andE, orE, if_true, Bool.not_true, Bool.not_false, Bool.true_and, Bool.and_true, Bool.false_and, Bool.or_false, Bool.false_or, Bool.true_or, Bool.or_true, Bool.and_false, Bool.false_xor, Bool.true_xor, slE, noP, someP, sl1, slD, seqI, its1, optI, forS, turn, lcE, wipeS, restS, plainAt, List.getD_cons_zero, List.getD_cons_succ, List.all_cons, List.all_nil, muE, mu1, lstAt, dArgs, appF, popF, rvsF, extF, rng1I, rng2I, enI, zipI, zip2, starA, subS, decide_true, decide_false, Int.reduceLT, Int.reduceLE, Nat.reduceLT, Nat.reduceLeDiff, true_and, and_true, Bool.false_eq_true, if_false, ite_true, ite_false, reduceIte, reduceCtorEq, Option.some.injEq, is_rules_c _ _ hr, h, h2]
      exact ⟨_, rfl⟩
theorem sort_signs (z : Str) : sortL (Sv.signs z) = (sortN z.cps.toList).map fun c => tx [c] := by
  have p : ((sortN z.cps.toList).map fun c => tx [c]).Perm (Sv.signs z) := (sortN_perm _).map _
  refine (sortL_uniq p ?_).symm
  have le := sortN_le z.cps.toList
  generalize sortN z.cps.toList = m at le
  have go : ∀ (m : List Nat) (a : Nat), (a :: m).Pairwise (· ≤ ·) → PyProof.Rows.risingS (tx [a]) (m.map fun c => tx [c]) = true := by
    intro m
    induction m with
    | nil => intro a _; rfl
    | cons b m ih =>
      intro a h
      show (!ltCps [b] [a] && PyProof.Rows.risingS (tx [b]) (m.map fun c => tx [c])) = true
      have h2 := List.pairwise_cons.mp h
      rw [ih b h2.2, PyProof.Rows.ltCps_eq, Bool.and_true, Bool.not_eq_true', decide_eq_false_iff_not, List.not_lt]
      have := h2.1 b List.mem_cons_self
      rcases Nat.lt_or_eq_of_le this with z | z
      · exact List.le_of_lt (List.Lex.rel z)
      · rw [z]; exact List.le_refl _
  cases m with
  | nil => rfl
  | cons a m => exact go m a le
theorem sorted_str {z : Str} (h : z.length < 64) : sortF [.str z] = some (.o true (.L ((sortN z.cps.toList).map fun c => .str (tx [c])))) := by
  show (if z.length < 64 then some (Vl.o true (.L ((sortL (Sv.signs z)).map .str))) else none) = _
  rw [if_pos h, sort_signs, List.map_map]
  rfl
theorem check_names_c (k : Int) (n : Str) (hn : n.length < 64) (s : S) : call1 2 F_check_names [.d (.int k), .d (.str n)] s = if numOk k = true then (if namesOk k n = true then .ok (.d .none) s else bad "NotWord" s) else bad "BadNumber" s := by
  have hl : (sortN n.cps.toList).length ≤ 16777216 := by rw [(sortN_perm _).length_eq, Array.length_toList]; have : n.cps.size = n.length := rfl; omega
  cases h : numOk k
  · refine call_er (ds := [.int k, .str n]) rfl ?_
    simp only [b_check_names, Gv, Gio, ins, List.map_cons, List.map_nil, List.length_cons, List.length_nil, Nat.sub_self, List.replicate_zero, List.append_nil, List.nil_append, List.cons_append, List.replicate_succ, Nat.reduceSub, Nat.reduceAdd, retS, retN, ret1, setS, sto, stoO, freeAt, free_dv, dv_some, dv_none, free_d, free_n, free_o, plain_dv, plain_dd, plain_n, dropS, seqS, ifS, raiS, nextS, brkS, cntS, unpS, tpG, itsOf, bindAll, optO, nmG, augS, chE, bind_ok, bind_er, bind_ite, out_ok, out_er, out_ite, seq_nx, seq_rt, seq_er, seq_bk, seq_ct, seq_ite, ite_and, ite_or, ite_and2, ite_or2, ite_andB, ite_orB, cE, varE, shE, shr, bi2, un1, opE, unE, rd, List.getElem?_cons_zero, List.getElem?_cons_succ, List.set_cons_zero, List.set_cons_succ, leD, ltD, gtD, geD, cmpD, eqD_str, neD_str, eqD_int, neD_int, inD_sign, isD, isNone, ifB, caE, consA, nilA, ca1, rdAll, dAll, lenD, intF, tupF, lstF, Option.map_some, Option.map_none, Option.bind_some, addD, intD, subI, modI, divI, adI, negD, mulD, revND, revD, tupE, lstE, mtE, okTy, isStr, isLst, stripF, callE, callI, truT, tru1, tru, truD, blT, notT, andT, orT, ifE, notE, andE, orE, if_true, Bool.not_true, Bool.not_false, Bool.true_and, Bool.and_true, Bool.false_and, Bool.or_false, Bool.false_or, Bool.true_or, Bool.or_true, Bool.and_false, Bool.false_xor, Bool.true_xor, slE, noP, someP, sl1, slD, seqI, its1, optI, forS, turn, lcE, wipeS, restS, plainAt, List.getD_cons_zero, List.getD_cons_succ, List.all_cons, List.all_nil, muE, mu1, lstAt, dArgs, appF, popF, rvsF, extF, rng1I, rng2I, enI, zipI, zip2, starA, subS, decide_true, decide_false, Int.reduceLT, Int.reduceLE, Nat.reduceLT, Nat.reduceLeDiff, true_and, and_true, Bool.false_eq_true, if_false, ite_true, ite_false, reduceIte, reduceCtorEq, Option.some.injEq, letters_of_c, bad, h, sorted_str hn, joinF_signs hl]
    exact ⟨_, rfl⟩
  · cases h2 : namesOk k n
    · refine call_er (ds := [.int k, .str n]) rfl ?_
      unfold namesOk at h2
      simp only [b_check_names, Gv, Gio, ins, List.map_cons, List.map_nil, List.length_cons, List.length_nil, Nat.sub_self, List.replicate_zero, List.append_nil, List.nil_append, List.cons_append, List.replicate_succ, Nat.reduceSub, Nat.reduceAdd, retS, retN, ret1, setS, sto, stoO, freeAt, free_dv, dv_some, dv_none, free_d, free_n, free_o, plain_dv, plain_dd, plain_n, dropS, seqS, ifS, raiS, nextS, brkS, cntS, unpS, tpG, itsOf, bindAll, optO, nmG, augS, chE, bind_ok, bind_er, bind_ite, out_ok, out_er, out_ite, seq_nx, seq_rt, seq_er, seq_bk, seq_ct, seq_ite, ite_and, ite_or, ite_and2, ite_or2, ite_andB, ite_orB, cE, varE, shE, shr, bi2, un1, opE, unE, rd, List.getElem?_cons_zero, List.getElem?_cons_succ, List.set_cons_zero, List.set_cons_succ, leD, ltD, gtD, geD, cmpD, eqD_str, neD_str, eqD_int, neD_int, inD_sign, isD, isNone, ifB, caE, consA, nilA, ca1, rdAll, dAll, lenD, intF, tupF, lstF, Option.map_some, Option.map_none, Option.bind_some, addD, intD, subI, modI, divI, adI, negD, mulD, revND, revD, tupE, lstE, mtE, okTy, isStr, isLst, stripF, callE, callI, truT, tru1, tru, truD, blT, notT, andT, orT, ifE, notE, andE, orE, if_true, Bool.not_true, Bool.not_false, Bool.true_and, Bool.and_true, Bool.false_and, Bool.or_false, Bool.false_or, Bool.true_or, Bool.or_true, Bool.and_false, Bool.false_xor, Bool.true_xor, slE, noP, someP, sl1, slD, seqI, its1, optI, forS, turn, lcE, wipeS, restS, plainAt, List.getD_cons_zero, List.getD_cons_succ, List.all_cons, List.all_nil, muE, mu1, lstAt, dArgs, appF, popF, rvsF, extF, rng1I, rng2I, enI, zipI, zip2, starA, subS, decide_true, decide_false, Int.reduceLT, Int.reduceLE, Nat.reduceLT, Nat.reduceLeDiff, true_and, and_true, Bool.false_eq_true, if_false, ite_true, ite_false, reduceIte, reduceCtorEq, Option.some.injEq, letters_of_c, h, sorted_str hn, joinF_signs hl, h2]
      exact ⟨_, rfl⟩
    · refine call_nx (ds := [.int k, .str n]) rfl ?_
      unfold namesOk at h2
      simp only [b_check_names, Gv, Gio, ins, List.map_cons, List.map_nil, List.length_cons, List.length_nil, Nat.sub_self, List.replicate_zero, List.append_nil, List.nil_append, List.cons_append, List.replicate_succ, Nat.reduceSub, Nat.reduceAdd, retS, retN, ret1, setS, sto, stoO, freeAt, free_dv, dv_some, dv_none, free_d, free_n, free_o, plain_dv, plain_dd, plain_n, dropS, seqS, ifS, raiS, nextS, brkS, cntS, unpS, tpG, itsOf, bindAll, optO, nmG, augS, chE, bind_ok, bind_er, bind_ite, out_ok, out_er, out_ite, seq_nx, seq_rt, seq_er, seq_bk, seq_ct, seq_ite, ite_and, ite_or, ite_and2, ite_or2, ite_andB, ite_orB, cE, varE, shE, shr, bi2, un1, opE, unE, rd, List.getElem?_cons_zero, List.getElem?_cons_succ, List.set_cons_zero, List.set_cons_succ, leD, ltD, gtD, geD, cmpD, eqD_str, neD_str, eqD_int, neD_int, inD_sign, isD, isNone, ifB, caE, consA, nilA, ca1, rdAll, dAll, lenD, intF, tupF, lstF, Option.map_some, Option.map_none, Option.bind_some, addD, intD, subI, modI, divI, adI, negD, mulD, revND, revD, tupE, lstE, mtE, okTy, isStr, isLst, stripF, callE, callI, truT, tru1, tru, truD, blT, notT, andT, orT, ifE, notE, andE, orE, if_true, Bool.not_true, Bool.not_false, Bool.true_and, Bool.and_true, Bool.false_and, Bool.or_false, Bool.false_or, Bool.true_or, Bool.or_true, Bool.and_false, Bool.false_xor, Bool.true_xor, slE, noP, someP, sl1, slD, seqI, its1, optI, forS, turn, lcE, wipeS, restS, plainAt, List.getD_cons_zero, List.getD_cons_succ, List.all_cons, List.all_nil, muE, mu1, lstAt, dArgs, appF, popF, rvsF, extF, rng1I, rng2I, enI, zipI, zip2, starA, subS, decide_true, decide_false, Int.reduceLT, Int.reduceLE, Nat.reduceLT, Nat.reduceLeDiff, true_and, and_true, Bool.false_eq_true, if_false, ite_true, ite_false, reduceIte, reduceCtorEq, Option.some.injEq, letters_of_c, h, sorted_str hn, joinF_signs hl, h2]
      exact ⟨_, rfl⟩
theorem fits_c (p w : Str) (i : Int) (s : S) : call1 3 F_fits [.d (.str p), .d (.str w), .d (.int i)] s = .ok (.d (.bool (fits p w i))) s := by
  refine call_rt (ds := [.str p, .str w, .int i]) rfl ?_
  unfold fits
  by_cases h : i < 0 ∨ ((w.length : Nat) : Int) ≤ i
  · have e : (decide (i < 0) || decide (((w.length : Nat) : Int) ≤ i)) = true := by rw [Bool.or_eq_true, decide_eq_true_eq, decide_eq_true_eq]; exact h
    simp only [b_fits, Gv, Gio, ins, List.map_cons, List.map_nil, List.length_cons, List.length_nil, Nat.sub_self, List.replicate_zero, List.append_nil, List.nil_append, List.cons_append, List.replicate_succ, Nat.reduceSub, Nat.reduceAdd, retS, retN, ret1, setS, sto, stoO, freeAt, free_dv, dv_some, dv_none, free_d, free_n, free_o, plain_dv, plain_dd, plain_n, dropS, seqS, ifS, raiS, nextS, brkS, cntS, unpS, tpG, itsOf, bindAll, optO, nmG, augS, chE, bind_ok, bind_er, bind_ite, out_ok, out_er, out_ite, seq_nx, seq_rt, seq_er, seq_bk, seq_ct, seq_ite, ite_and, ite_or, ite_and2, ite_or2, ite_andB, ite_orB, cE, varE, shE, shr, bi2, un1, opE, unE, rd, List.getElem?_cons_zero, List.getElem?_cons_succ, List.set_cons_zero, List.set_cons_succ, leD, ltD, gtD, geD, cmpD, eqD_str, neD_str, eqD_int, neD_int, inD_sign, isD, isNone, ifB, caE, consA, nilA, ca1, rdAll, dAll, lenD, intF, tupF, lstF, Option.map_some, Option.map_none, Option.bind_some, addD, intD, subI, modI, divI, adI, negD, mulD, revND, revD, tupE, lstE, mtE, okTy, isStr, isLst, stripF, callE, callI, truT, tru1, tru, truD, blT, notT, andT, orT, ifE, notE, andE, orE, if_true, Bool.not_true, Bool.not_false, Bool.true_and, Bool.and_true, Bool.false_and, Bool.or_false, Bool.false_or, Bool.true_or, Bool.or_true, Bool.and_false, Bool.false_xor, Bool.true_xor, slE, noP, someP, sl1, slD, seqI, its1, optI, forS, turn, lcE, wipeS, restS, plainAt, List.getD_cons_zero, List.getD_cons_succ, List.all_cons, List.all_nil, muE, mu1, lstAt, dArgs, appF, popF, rvsF, extF, rng1I, rng2I, enI, zipI, zip2, starA, subS, decide_true, decide_false, Int.reduceLT, Int.reduceLE, Nat.reduceLT, Nat.reduceLeDiff, true_and, and_true, Bool.false_eq_true, if_false, ite_true, ite_false, reduceIte, reduceCtorEq, Option.some.injEq, geD, e, if_pos h]
    exact ⟨_, rfl⟩
  · have e : (decide (i < 0) || decide (((w.length : Nat) : Int) ≤ i)) = false := by rw [Bool.or_eq_false_iff, decide_eq_false_iff_not, decide_eq_false_iff_not]; omega
    simp only [b_fits, Gv, Gio, ins, List.map_cons, List.map_nil, List.length_cons, List.length_nil, Nat.sub_self, List.replicate_zero, List.append_nil, List.nil_append, List.cons_append, List.replicate_succ, Nat.reduceSub, Nat.reduceAdd, retS, retN, ret1, setS, sto, stoO, freeAt, free_dv, dv_some, dv_none, free_d, free_n, free_o, plain_dv, plain_dd, plain_n, dropS, seqS, ifS, raiS, nextS, brkS, cntS, unpS, tpG, itsOf, bindAll, optO, nmG, augS, chE, bind_ok, bind_er, bind_ite, out_ok, out_er, out_ite, seq_nx, seq_rt, seq_er, seq_bk, seq_ct, seq_ite, ite_and, ite_or, ite_and2, ite_or2, ite_andB, ite_orB, cE, varE, shE, shr, bi2, un1, opE, unE, rd, List.getElem?_cons_zero, List.getElem?_cons_succ, List.set_cons_zero, List.set_cons_succ, leD, ltD, gtD, geD, cmpD, eqD_str, neD_str, eqD_int, neD_int, inD_sign, isD, isNone, ifB, caE, consA, nilA, ca1, rdAll, dAll, lenD, intF, tupF, lstF, Option.map_some, Option.map_none, Option.bind_some, addD, intD, subI, modI, divI, adI, negD, mulD, revND, revD, tupE, lstE, mtE, okTy, isStr, isLst, stripF, callE, callI, truT, tru1, tru, truD, blT, notT, andT, orT, ifE, notE, andE, orE, if_true, Bool.not_true, Bool.not_false, Bool.true_and, Bool.and_true, Bool.false_and, Bool.or_false, Bool.false_or, Bool.true_or, Bool.or_true, Bool.and_false, Bool.false_xor, Bool.true_xor, slE, noP, someP, sl1, slD, seqI, its1, optI, forS, turn, lcE, wipeS, restS, plainAt, List.getD_cons_zero, List.getD_cons_succ, List.all_cons, List.all_nil, muE, mu1, lstAt, dArgs, appF, popF, rvsF, extF, rng1I, rng2I, enI, zipI, zip2, starA, subS, decide_true, decide_false, Int.reduceLT, Int.reduceLE, Nat.reduceLT, Nat.reduceLeDiff, true_and, and_true, Bool.false_eq_true, if_false, ite_true, ite_false, reduceIte, reduceCtorEq, Option.some.injEq, geD, e, if_neg h, ixD_str (z := w) (i := i) (by omega) (by omega)]
    exact ⟨_, rfl⟩
theorem all_fit_c (ps : List Str) (w : Str) (b : Int) (s : S) : call1 3 F_all_fit [.d (tupS ps), .d (.str w), .d (.int b)] s = .ok (.d (.bool (allFit ps w b))) s := by
  refine call_rt (ds := [tupS ps, .str w, .int b]) rfl ?_
  have hi : itemsD (tupS ps) = some (ps.map .str) := rfl
  have step : ∀ j ∈ List.range ps.length, ∀ s, (∃ x y, s = [some (.d (tupS ps)), some (.d (.str w)), some (.d (.int b)), dv x, dv y]) →
      ∃ s2, (∃ x y, s2 = [some (.d (tupS ps)), some (.d (.str w)), some (.d (.int b)), dv x, dv y]) ∧ turn (tpG [nmG 3, nmG 4]) b_all_fit_1 (.tuple [.int ((j : Nat) : Int), .str (ps.getD j "")]) s = if fits (ps.getD j "") w (b + (j : Nat)) = true then .nx s2 else .rt (.d (.bool false)) s2 := by
    rintro j m s ⟨x, y, rfl⟩
    refine ⟨_, ⟨some (.int (j : Nat)), some (.str (ps.getD j "")), rfl⟩, ?_⟩
    simp only [b_all_fit_1, Gv, Gio, ins, List.map_cons, List.map_nil, List.length_cons, List.length_nil, Nat.sub_self, List.replicate_zero, List.append_nil, List.nil_append, List.cons_append, List.replicate_succ, Nat.reduceSub, Nat.reduceAdd, retS, retN, ret1, setS, sto, stoO, freeAt, free_dv, dv_some, dv_none, free_d, free_n, free_o, plain_dv, plain_dd, plain_n, dropS, seqS, ifS, raiS, nextS, brkS, cntS, unpS, tpG, itsOf, bindAll, optO, nmG, augS, chE, bind_ok, bind_er, bind_ite, out_ok, out_er, out_ite, seq_nx, seq_rt, seq_er, seq_bk, seq_ct, seq_ite, ite_and, ite_or, ite_and2, ite_or2, ite_andB, ite_orB, cE, varE, shE, shr, bi2, un1, opE, unE, rd, List.getElem?_cons_zero, List.getElem?_cons_succ, List.set_cons_zero, List.set_cons_succ, leD, ltD, gtD, geD, cmpD, eqD_str, neD_str, eqD_int, neD_int, inD_sign, isD, isNone, ifB, caE, consA, nilA, ca1, rdAll, dAll, lenD, intF, tupF, lstF, Option.map_some, Option.map_none, Option.bind_some, addD, intD, subI, modI, divI, adI, negD, mulD, revND, revD, tupE, lstE, mtE, okTy, isStr, isLst, stripF, callE, callI, truT, tru1, tru, truD, blT, notT, andT, orT, ifE, notE, andE, orE, if_true, Bool.not_true, Bool.not_false, Bool.true_and, Bool.and_true, Bool.false_and, Bool.or_false, Bool.false_or, Bool.true_or, Bool.or_true, Bool.and_false, Bool.false_xor, Bool.true_xor, slE, noP, someP, sl1, slD, seqI, its1, optI, forS, turn, lcE, wipeS, restS, plainAt, List.getD_cons_zero, List.getD_cons_succ, List.all_cons, List.all_nil, muE, mu1, lstAt, dArgs, appF, popF, rvsF, extF, rng1I, rng2I, enI, zipI, zip2, starA, subS, decide_true, decide_false, Int.reduceLT, Int.reduceLE, Nat.reduceLT, Nat.reduceLeDiff, true_and, and_true, Bool.false_eq_true, if_false, ite_true, ite_false, reduceIte, reduceCtorEq, Option.some.injEq, fits_c]
    cases fits (ps.getD j "") w (b + (j : Nat)) <;> rfl
  simp only [b_all_fit, Gv, Gio, ins, List.map_cons, List.map_nil, List.length_cons, List.length_nil, Nat.sub_self, List.replicate_zero, List.append_nil, List.nil_append, List.cons_append, List.replicate_succ, Nat.reduceSub, Nat.reduceAdd, retS, retN, ret1, setS, sto, stoO, freeAt, free_dv, dv_some, dv_none, free_d, free_n, free_o, plain_dv, plain_dd, plain_n, dropS, seqS, ifS, raiS, nextS, brkS, cntS, unpS, tpG, itsOf, bindAll, optO, nmG, augS, chE, bind_ok, bind_er, bind_ite, out_ok, out_er, out_ite, seq_nx, seq_rt, seq_er, seq_bk, seq_ct, seq_ite, ite_and, ite_or, ite_and2, ite_or2, ite_andB, ite_orB, cE, varE, shE, shr, bi2, un1, opE, unE, rd, List.getElem?_cons_zero, List.getElem?_cons_succ, List.set_cons_zero, List.set_cons_succ, leD, ltD, gtD, geD, cmpD, eqD_str, neD_str, eqD_int, neD_int, inD_sign, isD, isNone, ifB, caE, consA, nilA, ca1, rdAll, dAll, lenD, intF, tupF, lstF, Option.map_some, Option.map_none, Option.bind_some, addD, intD, subI, modI, divI, adI, negD, mulD, revND, revD, tupE, lstE, mtE, okTy, isStr, isLst, stripF, callE, callI, truT, tru1, tru, truD, blT, notT, andT, orT, ifE, notE, andE, orE, if_true, Bool.not_true, Bool.not_false, Bool.true_and, Bool.and_true, Bool.false_and, Bool.or_false, Bool.false_or, Bool.true_or, Bool.or_true, Bool.and_false, Bool.false_xor, Bool.true_xor, slE, noP, someP, sl1, slD, seqI, its1, optI, forS, turn, lcE, wipeS, restS, plainAt, List.getD_cons_zero, List.getD_cons_succ, List.all_cons, List.all_nil, muE, mu1, lstAt, dArgs, appF, popF, rvsF, extF, rng1I, rng2I, enI, zipI, zip2, starA, subS, decide_true, decide_false, Int.reduceLT, Int.reduceLE, Nat.reduceLT, Nat.reduceLeDiff, true_and, and_true, Bool.false_eq_true, if_false, ite_true, ite_false, reduceIte, reduceCtorEq, Option.some.injEq, hi, enumL_map PyData.str ""]
  obtain ⟨s', ⟨x, y, e1⟩, e2⟩ := forL_all (i := fun j => .tuple [.int ((j : Nat) : Int), .str (ps.getD j "")]) (xs := List.range ps.length)
    (s := [some (.d (tupS ps)), some (.d (.str w)), some (.d (.int b)), none, none]) ⟨none, none, rfl⟩ step
  rw [e2]
  unfold allFit
  cases (List.range ps.length).all fun j => fits (ps.getD j "") w (b + (j : Nat))
  · exact ⟨_, rfl⟩
  · rw [e1]
    exact ⟨_, rfl⟩
end M

set_option Elab.async false
set_option linter.all false
set_option maxRecDepth 100000
set_option maxHeartbeats 4000000
/-! What the defs of words and rules answer. -/
namespace M
open PySem PySem.Spec L2 Sv

theorem stands_at_c (R : Rl) (w : Str) (i : Nat) (hi : i < w.length) (s : S) : call1 3 F_stands_at [.d R.data, .d (.str w), .d (.int ((i : Nat) : Int))] s = .ok (.d (.bool (standsAt R w i))) s := by
  obtain ⟨c, n, l, r⟩ := R
  refine call_rt (ds := [Rl.data ⟨c, n, l, r⟩, .str w, .int ((i : Nat) : Int)]) rfl ?_
  simp only [b_stands_at, Gv, Gio, ins, List.map_cons, List.map_nil, List.length_cons, List.length_nil, Nat.sub_self, List.replicate_zero, List.append_nil, List.nil_append, List.cons_append, List.replicate_succ, Nat.reduceSub, Nat.reduceAdd, retS, retN, ret1, setS, sto, stoO, freeAt, free_dv, dv_some, dv_none, free_d, free_n, free_o, plain_dv, plain_dd, plain_n, dropS, seqS, ifS, raiS, nextS, brkS, cntS, unpS, tpG, itsOf, bindAll, optO, nmG, augS, chE, bind_ok, bind_er, bind_ite, out_ok, out_er, out_ite, seq_nx, seq_rt, seq_er, seq_bk, seq_ct, seq_ite, ite_and, ite_or, ite_and2, ite_or2, ite_andB, ite_orB, cE, varE, shE, shr, bi2, un1, opE, unE, rd, List.getElem?_cons_zero, List.getElem?_cons_succ, List.set_cons_zero, List.set_cons_succ, leD, ltD, gtD, geD, cmpD, eqD_str, neD_str, eqD_int, neD_int, inD_sign, isD, isNone, ifB, caE, consA, nilA, ca1, rdAll, dAll, lenD, intF, tupF, lstF, Option.map_some, Option.map_none, Option.bind_some, addD, intD, subI, modI, divI, adI, negD, mulD, revND, revD, tupE, lstE, mtE, okTy, isStr, isLst, stripF, callE, callI, truT, tru1, tru, truD, blT, notT, andT, orT, ifE, notE, andE, orE, if_true, Bool.not_true, Bool.not_false, Bool.true_and, Bool.and_true, Bool.false_and, Bool.or_false, Bool.false_or, Bool.true_or, Bool.or_true, Bool.and_false, Bool.false_xor, Bool.true_xor, slE, noP, someP, sl1, slD, seqI, its1, optI, forS, turn, lcE, wipeS, restS, plainAt, List.getD_cons_zero, List.getD_cons_succ, List.all_cons, List.all_nil, muE, mu1, lstAt, dArgs, appF, popF, rvsF, extF, rng1I, rng2I, enI, zipI, zip2, starA, subS, decide_true, decide_false, Int.reduceLT, Int.reduceLE, Nat.reduceLT, Nat.reduceLeDiff, true_and, and_true, Bool.false_eq_true, if_false, ite_true, ite_false, reduceIte, reduceCtorEq, Option.some.injEq, data_eq, ixD_str (z := w) (i := ((i : Nat) : Int)) (by omega) (by omega), Int.toNat_natCast, all_fit_c, List.length_map]
  unfold standsAt
  cases decide (tx [w.cps.getD i 0] = c) <;> cases allFit l w (((i : Nat) : Int) - ((l.length : Nat) : Int)) <;> exact ⟨_, rfl⟩
theorem indexes_of_c (R : Rl) (w : Str) (hw : w.length ≤ 16777216) (s : S) : call1 2 F_indexes_of [.d R.data, .d (.str w)] s = .ok (.o true (.L ((stood R w).map fun i => .int ((i : Nat) : Int)))) s := by
  refine call_ob (ds := [R.data, .str w]) rfl ?_
  have hs : smI ((w.length : Nat) : Int) = true := smI_of (by omega) (by omega)
  simp only [b_indexes_of, Gv, Gio, ins, List.map_cons, List.map_nil, List.length_cons, List.length_nil, Nat.sub_self, List.replicate_zero, List.append_nil, List.nil_append, List.cons_append, List.replicate_succ, Nat.reduceSub, Nat.reduceAdd, retS, retN, ret1, setS, sto, stoO, freeAt, free_dv, dv_some, dv_none, free_d, free_n, free_o, plain_dv, plain_dd, plain_n, dropS, seqS, ifS, raiS, nextS, brkS, cntS, unpS, tpG, itsOf, bindAll, optO, nmG, augS, chE, bind_ok, bind_er, out_ok, out_er, seq_nx, seq_rt, seq_er, seq_bk, seq_ct, ite_and, ite_or, ite_and2, ite_or2, ite_andB, ite_orB, cE, varE, shE, shr, bi2, un1, opE, unE, rd, List.getElem?_cons_zero, List.getElem?_cons_succ, List.set_cons_zero, List.set_cons_succ, leD, ltD, gtD, geD, cmpD, eqD_str, neD_str, eqD_int, neD_int, inD_sign, isD, isNone, ifB, caE, consA, nilA, ca1, rdAll, dAll, lenD, intF, tupF, lstF, Option.map_some, Option.map_none, Option.bind_some, addD, intD, subI, modI, divI, adI, negD, mulD, revND, revD, tupE, lstE, mtE, okTy, isStr, isLst, stripF, callE, callI, truT, tru1, tru, truD, blT, notT, andT, orT, ifE, notE, andE, orE, if_true, Bool.not_true, Bool.not_false, Bool.true_and, Bool.and_true, Bool.false_and, Bool.or_false, Bool.false_or, Bool.true_or, Bool.or_true, Bool.and_false, Bool.false_xor, Bool.true_xor, slE, noP, someP, sl1, slD, seqI, its1, optI, forS, turn, lcE, wipeS, restS, plainAt, List.getD_cons_zero, List.getD_cons_succ, List.all_cons, List.all_nil, muE, mu1, lstAt, dArgs, appF, popF, rvsF, extF, rng1I, rng2I, enI, zipI, zip2, starA, subS, decide_true, decide_false, Int.reduceLT, Int.reduceLE, Nat.reduceLT, Nat.reduceLeDiff, true_and, and_true, Bool.false_eq_true, if_false, ite_true, ite_false, reduceIte, reduceCtorEq, Option.some.injEq, hs, rng_zero, Int.toNat_natCast]
  rw [lcL_p (P := standsAt R w) (f := fun i => .int ((i : Nat) : Int)) (by rw [List.length_nil, List.length_range]; omega) fun i m => ⟨_, rfl, rfl, ?_, fun _ => rfl⟩]
  · exact ⟨_, rfl⟩
  · simp only [Gv, Gio, ins, List.map_cons, List.map_nil, List.length_cons, List.length_nil, Nat.sub_self, List.replicate_zero, List.append_nil, List.nil_append, List.cons_append, List.replicate_succ, Nat.reduceSub, Nat.reduceAdd, retS, retN, ret1, setS, sto, stoO, freeAt, free_dv, dv_some, dv_none, free_d, free_n, free_o, plain_dv, plain_dd, plain_n, dropS, seqS, ifS, raiS, nextS, brkS, cntS, unpS, tpG, itsOf, bindAll, optO, nmG, augS, chE, bind_ok, bind_er, out_ok, out_er, seq_nx, seq_rt, seq_er, seq_bk, seq_ct, ite_and, ite_or, ite_and2, ite_or2, ite_andB, ite_orB, cE, varE, shE, shr, bi2, un1, opE, unE, rd, List.getElem?_cons_zero, List.getElem?_cons_succ, List.set_cons_zero, List.set_cons_succ, leD, ltD, gtD, geD, cmpD, eqD_str, neD_str, eqD_int, neD_int, inD_sign, isD, isNone, ifB, caE, consA, nilA, ca1, rdAll, dAll, lenD, intF, tupF, lstF, Option.map_some, Option.map_none, Option.bind_some, addD, intD, subI, modI, divI, adI, negD, mulD, revND, revD, tupE, lstE, mtE, okTy, isStr, isLst, stripF, callE, callI, truT, tru1, tru, truD, blT, notT, andT, orT, ifE, notE, andE, orE, if_true, Bool.not_true, Bool.not_false, Bool.true_and, Bool.and_true, Bool.false_and, Bool.or_false, Bool.false_or, Bool.true_or, Bool.or_true, Bool.and_false, Bool.false_xor, Bool.true_xor, slE, noP, someP, sl1, slD, seqI, its1, optI, forS, turn, lcE, wipeS, restS, plainAt, List.getD_cons_zero, List.getD_cons_succ, List.all_cons, List.all_nil, muE, mu1, lstAt, dArgs, appF, popF, rvsF, extF, rng1I, rng2I, enI, zipI, zip2, starA, subS, decide_true, decide_false, Int.reduceLT, Int.reduceLE, Nat.reduceLT, Nat.reduceLeDiff, true_and, and_true, Bool.false_eq_true, if_false, ite_true, ite_false, reduceIte, reduceCtorEq, Option.some.injEq, stands_at_c _ _ _ (List.mem_range.mp m)]
theorem parts_foldD (R : Rl) (w : Str) : (stood R w).foldl (fun acc j => acc.set j (PyData.str R.n)) ((Sv.signs w).map PyData.str) = (parts R w).map PyData.str := by
  apply List.ext_getElem?
  intro i
  by_cases h : i < w.cps.size
  · have hl : i < ((Sv.signs w).map PyData.str).length := by rw [List.length_map, signs_len]; exact h
    rw [foldl_set_get _ _ _ _ hl]
    have e1 : ((Sv.signs w).map PyData.str)[i]? = some (PyData.str (tx [w.cps.getD i 0])) := by
      rw [List.getElem?_map, Sv.signs_map, List.getElem?_map, Array.getElem?_toList, Array.getD_eq_getD_getElem?, Array.getElem?_eq_getElem h]
      rfl
    have e2 : ((parts R w).map PyData.str)[i]? = some (PyData.str (if standsAt R w i = true then R.n else tx [w.cps.getD i 0])) := by
      unfold parts
      rw [List.getElem?_map, List.getElem?_map, List.getElem?_range h]
      rfl
    rw [e1, e2]
    unfold stood
    by_cases c : standsAt R w i = true
    · rw [if_pos (List.mem_filter.mpr ⟨List.mem_range.mpr h, c⟩), if_pos c]
    · rw [if_neg (fun z => c (List.mem_filter.mp z).2), if_neg c]
  · rw [List.getElem?_eq_none (by rw [foldl_set, List.length_map, signs_len]; omega), List.getElem?_eq_none (by unfold parts; simp; omega)]
theorem parts_of_c (R : Rl) (w : Str) (hw : w.length ≤ 16777216) (s : S) : call1 2 F_parts_of [.d R.data, .d (.str w)] s = .ok (.o true (.L ((parts R w).map .str))) s := by
  refine call_ob (ds := [R.data, .str w]) rfl ?_
  have hi : itemsD (.list ((stood R w).map fun i => .int ((i : Nat) : Int))) = some ((stood R w).map fun i => .int ((i : Nat) : Int)) := rfl
  simp only [b_parts_of, Gv, Gio, ins, List.map_cons, List.map_nil, List.length_cons, List.length_nil, Nat.sub_self, List.replicate_zero, List.append_nil, List.nil_append, List.cons_append, List.replicate_succ, Nat.reduceSub, Nat.reduceAdd, retS, retN, ret1, setS, sto, stoO, freeAt, free_dv, dv_some, dv_none, free_d, free_n, free_o, plain_dv, plain_dd, plain_n, dropS, seqS, ifS, raiS, nextS, brkS, cntS, unpS, tpG, itsOf, bindAll, optO, nmG, augS, chE, bind_ok, bind_er, bind_ite, out_ok, out_er, out_ite, seq_nx, seq_rt, seq_er, seq_bk, seq_ct, seq_ite, ite_and, ite_or, ite_and2, ite_or2, ite_andB, ite_orB, cE, varE, shE, shr, bi2, un1, opE, unE, rd, List.getElem?_cons_zero, List.getElem?_cons_succ, List.set_cons_zero, List.set_cons_succ, leD, ltD, gtD, geD, cmpD, eqD_str, neD_str, eqD_int, neD_int, inD_sign, isD, isNone, ifB, caE, consA, nilA, ca1, rdAll, dAll, lenD, intF, tupF, lstF, Option.map_some, Option.map_none, Option.bind_some, addD, intD, subI, modI, divI, adI, negD, mulD, revND, revD, tupE, lstE, mtE, okTy, isStr, isLst, stripF, callE, callI, truT, tru1, tru, truD, blT, notT, andT, orT, ifE, notE, andE, orE, if_true, Bool.not_true, Bool.not_false, Bool.true_and, Bool.and_true, Bool.false_and, Bool.or_false, Bool.false_or, Bool.true_or, Bool.or_true, Bool.and_false, Bool.false_xor, Bool.true_xor, slE, noP, someP, sl1, slD, seqI, its1, optI, forS, turn, lcE, wipeS, restS, plainAt, List.getD_cons_zero, List.getD_cons_succ, List.all_cons, List.all_nil, muE, mu1, lstAt, dArgs, appF, popF, rvsF, extF, rng1I, rng2I, enI, zipI, zip2, starA, subS, decide_true, decide_false, Int.reduceLT, Int.reduceLE, Nat.reduceLT, Nat.reduceLeDiff, true_and, and_true, Bool.false_eq_true, if_false, ite_true, ite_false, reduceIte, reduceCtorEq, Option.some.injEq, indexes_of_c _ _ hw, hi]
  obtain ⟨s', e1, x, e2, e3⟩ := forL_fold (i := fun j : Nat => .int ((j : Nat) : Int)) (g := nmG 3) (b := b_parts_of_1) (xs := stood R w) (step := fun acc j => acc.set j (PyData.str R.n)) (z := (Sv.signs w).map PyData.str)
    (St := fun acc s => ∃ x, s = [some (.d R.data), some (.d (.str w)), some (.o true (.L acc)), dv x] ∧ acc.length = w.length) (s := [some (.d R.data), some (.d (.str w)), some (.o true (.L ((Sv.signs w).map PyData.str))), none]) ⟨none, rfl, by rw [List.length_map, signs_len]; rfl⟩ (by
      rintro acc j m s ⟨x, rfl, hl⟩
      have hj : j < acc.length := by rw [hl]; exact List.mem_range.mp (List.mem_filter.mp m).1
      refine ⟨_, .inl ?_, some (.int (j : Nat)), rfl, by rw [List.length_set]; exact hl⟩
      have er : ixD R.data (.int 1) = some (.d (.str R.n)) := rfl
      simp only [b_parts_of_1, subS, Gv, Gio, ins, List.map_cons, List.map_nil, List.length_cons, List.length_nil, Nat.sub_self, List.replicate_zero, List.append_nil, List.nil_append, List.cons_append, List.replicate_succ, Nat.reduceSub, Nat.reduceAdd, retS, retN, ret1, setS, sto, stoO, freeAt, free_dv, dv_some, dv_none, free_d, free_n, free_o, plain_dv, plain_dd, plain_n, dropS, seqS, ifS, raiS, nextS, brkS, cntS, unpS, tpG, itsOf, bindAll, optO, nmG, augS, chE, bind_ok, bind_er, bind_ite, out_ok, out_er, out_ite, seq_nx, seq_rt, seq_er, seq_bk, seq_ct, seq_ite, ite_and, ite_or, ite_and2, ite_or2, ite_andB, ite_orB, cE, varE, shE, shr, bi2, un1, opE, unE, rd, List.getElem?_cons_zero, List.getElem?_cons_succ, List.set_cons_zero, List.set_cons_succ, leD, ltD, gtD, geD, cmpD, eqD_str, neD_str, eqD_int, neD_int, inD_sign, isD, isNone, ifB, caE, consA, nilA, ca1, rdAll, dAll, lenD, intF, tupF, lstF, Option.map_some, Option.map_none, Option.bind_some, addD, intD, subI, modI, divI, adI, negD, mulD, revND, revD, tupE, lstE, mtE, okTy, isStr, isLst, stripF, callE, callI, truT, tru1, tru, truD, blT, notT, andT, orT, ifE, notE, andE, orE, if_true, Bool.not_true, Bool.not_false, Bool.true_and, Bool.and_true, Bool.false_and, Bool.or_false, Bool.false_or, Bool.true_or, Bool.or_true, Bool.and_false, Bool.false_xor, Bool.true_xor, slE, noP, someP, sl1, slD, seqI, its1, optI, forS, turn, lcE, wipeS, restS, plainAt, List.getD_cons_zero, List.getD_cons_succ, List.all_cons, List.all_nil, muE, mu1, lstAt, dArgs, appF, popF, rvsF, extF, rng1I, rng2I, enI, zipI, zip2, starA, subS, decide_true, decide_false, Int.reduceLT, Int.reduceLE, Nat.reduceLT, Nat.reduceLeDiff, true_and, and_true, Bool.false_eq_true, if_false, ite_true, ite_false, reduceIte, reduceCtorEq, Option.some.injEq, er, ixN_at hj])
  rw [e1, e2, parts_foldD]
  exact ⟨_, rfl⟩
end M

set_option Elab.async false
set_option linter.all false
set_option maxRecDepth 100000
set_option maxHeartbeats 4000000
/-! Lists of rules: forms, steps. -/
namespace M
open PySem PySem.Spec L2 Sv
/-! ### lists of rules -/
def Rl.nil : Rl := ⟨"", "", [], []⟩
theorem getD_rl {Rs : List Rl} {i : Nat} (h : i < Rs.length) : Rs.getD i Rl.nil ∈ Rs := by
  rw [List.getD_eq_getElem?_getD, List.getElem?_eq_getElem h]
  exact List.getElem_mem h
def change (R : Rl) (w : Str) : Str := jn (parts R w)
def formOf (Rs : List Rl) (w : Str) : Str := Rs.foldl (fun w R => change R w) w
def stepsOf : List Rl → Str → List Str
  | [], w => [w]
  | R :: Rs, w => w :: stepsOf Rs (change R w)
/-- a word on the way has more than 2000 letters -/
def big : List Rl → Str → Bool
  | [], _ => false
  | R :: Rs, w => decide (2000 < (change R w).length) || big Rs (change R w)
def acted (Rs : List Rl) (w : Str) : List Nat := (List.range Rs.length).filter fun i => !(stood (Rs.getD i Rl.nil) (formOf (Rs.take i) w)).isEmpty
theorem take_succ_rl (Rs : List Rl) {i : Nat} (h : i < Rs.length) : Rs.take (i + 1) = Rs.take i ++ [Rs.getD i Rl.nil] := by
  rw [List.take_add_one, List.getElem?_eq_getElem h, List.getD_eq_getElem?_getD, List.getElem?_eq_getElem h]
  rfl
theorem formOf_snoc (Rs : List Rl) (R : Rl) (w : Str) : formOf (Rs ++ [R]) w = change R (formOf Rs w) := by
  unfold formOf
  rw [List.foldl_append]
  rfl
theorem formOf_app (Rs Ss : List Rl) (w : Str) : formOf (Rs ++ Ss) w = formOf Ss (formOf Rs w) := by
  unfold formOf
  rw [List.foldl_append]
theorem stepsOf_snoc : ∀ (Rs : List Rl) (R : Rl) (w : Str), stepsOf (Rs ++ [R]) w = stepsOf Rs w ++ [change R (formOf Rs w)]
  | [], R, w => rfl
  | S :: Rs, R, w => by
    show w :: stepsOf (Rs ++ [R]) (change S w) = _
    rw [stepsOf_snoc Rs R]
    rfl
theorem big_snoc : ∀ (Rs : List Rl) (R : Rl) (w : Str), big (Rs ++ [R]) w = (big Rs w || decide (2000 < (change R (formOf Rs w)).length))
  | [], R, w => by
    show (decide (2000 < (change R w).length) || false) = _
    rw [Bool.or_false]
    rfl
  | S :: Rs, R, w => by
    show (_ || big (Rs ++ [R]) (change S w)) = _
    rw [big_snoc Rs R, ← Bool.or_assoc]
    rfl
theorem big_app : ∀ (Rs Ss : List Rl) (w : Str), big (Rs ++ Ss) w = (big Rs w || big Ss (formOf Rs w))
  | [], Ss, w => by
    show big Ss w = (false || _)
    rw [Bool.false_or]
    rfl
  | S :: Rs, Ss, w => by
    show (_ || big (Rs ++ Ss) (change S w)) = _
    rw [big_app Rs Ss, ← Bool.or_assoc]
    rfl
theorem big_take {Rs : List Rl} {w : Str} {i : Nat} (h : big (Rs.take i) w = true) : big Rs w = true := by
  have e := big_app (Rs.take i) (Rs.drop i) w
  rw [List.take_append_drop, h, Bool.true_or] at e
  exact e
theorem big_take_f {Rs : List Rl} {w : Str} (i : Nat) (h : big Rs w = false) : big (Rs.take i) w = false := by
  cases e : big (Rs.take i) w with
  | false => rfl
  | true => rw [big_take e] at h; cases h
theorem stepsOf_len : ∀ (Rs : List Rl) (w : Str), (stepsOf Rs w).length = Rs.length + 1
  | [], _ => rfl
  | R :: Rs, w => by
    show (stepsOf Rs (change R w)).length + 1 = _
    rw [stepsOf_len Rs]
    rfl
theorem stepsOf_get : ∀ (Rs : List Rl) (w : Str) (i : Nat), i ≤ Rs.length → (stepsOf Rs w)[i]? = some (formOf (Rs.take i) w)
  | [], w, i, h => by
    have : i = 0 := by simpa using h
    subst this
    rfl
  | R :: Rs, w, 0, _ => rfl
  | R :: Rs, w, i + 1, h => by
    show (stepsOf Rs (change R w))[i]? = _
    rw [stepsOf_get Rs _ i (by simpa using h)]
    rfl
theorem form_len {Rs : List Rl} {w : Str} (hw : w.length ≤ 10000) (h : big Rs w = false) : (formOf Rs w).length ≤ 10000 := by
  by_cases e : Rs = []
  · rw [e]
    exact hw
  · rw [← List.dropLast_concat_getLast e] at h ⊢
    rw [big_snoc, Bool.or_eq_false_iff] at h
    have := of_decide_eq_false h.2
    rw [formOf_snoc]
    omega
theorem change_len (R : Rl) (w : Str) (h : R.n.length ≤ 1000) : (change R w).length ≤ w.length * 1000 := by
  unfold change
  rw [jn_len]
  exact parts_sum R w h
/-! ### contracts -/
/-! ### a def with defaults by name -/
/-! ### drawn lists of rules -/
/-! ### settling -/
/-! ### data that == compares -/
def Shp (k : Nat) (d : PyData) : Prop := d.canLay0 = true ∧ d.depth ≤ k
theorem shp_all {k : Nat} : ∀ {ds : List PyData}, (∀ d ∈ ds, Shp k d) → PyData.canLayAll0 ds = true ∧ PyData.depthAll ds ≤ k
  | [], _ => ⟨rfl, Nat.zero_le _⟩
  | d :: ds, h => by
    obtain ⟨a, b⟩ := shp_all (ds := ds) fun z m => h z (List.mem_cons_of_mem _ m)
    obtain ⟨c, e⟩ := h d List.mem_cons_self
    refine ⟨?_, ?_⟩
    · show (d.canLay0 && PyData.canLayAll0 ds) = true
      rw [a, c]; rfl
    · show max d.depth (PyData.depthAll ds) ≤ k
      omega
theorem Shp.list {k : Nat} {ds : List PyData} (h : ∀ d ∈ ds, Shp k d) : Shp (k + 1) (.list ds) := ⟨(shp_all h).1, Nat.succ_le_succ (shp_all h).2⟩
theorem Shp.tup {k : Nat} {ds : List PyData} (h : ∀ d ∈ ds, Shp k d) : Shp (k + 1) (.tuple ds) := ⟨(shp_all h).1, Nat.succ_le_succ (shp_all h).2⟩
theorem Shp.str {k : Nat} {x : Str} (h : ∀ c ∈ x.cps.toList, c < 1000) : Shp k (.str x) := by
  refine ⟨?_, Nat.zero_le _⟩
  show x.cps.all (· < 0x110000) = true
  rw [Array.all_eq_true_iff_forall_mem]
  exact fun c m => decide_eq_true (Nat.lt_trans (h c (Array.mem_toList_iff.mpr m)) (by decide))
theorem Shp.int {k : Nat} {i : Int} : Shp k (.int i) := ⟨rfl, Nat.zero_le _⟩
theorem Shp.ok {k : Nat} {d : PyData} (h : Shp k d) (hk : k ≤ 64) : SeqAt.shaped d = true := by
  show (d.canLay0 && decide (d.depth ≤ 64)) = true
  rw [h.1, decide_eq_true (Nat.le_trans h.2 hk)]
  rfl
theorem Shp.eqv {k : Nat} {d : PyData} (h : Shp k d) : PyData.eqv d d = true := SeqAt.eqv_refl d h.1
/-! ### sizes of forms -/
def Word (k : Int) (w : Str) : Prop := ∀ c ∈ w.cps.toList, LetK k c
theorem jn_mem {ys : List Str} {c : Nat} (h : c ∈ (jn ys).cps.toList) : ∃ y ∈ ys, c ∈ y.cps.toList := by
  have h : c ∈ (ys.map fun y => y.cps.toList).flatten := h
  obtain ⟨l, hl, hc⟩ := List.mem_flatten.mp h
  obtain ⟨y, hy, rfl⟩ := List.mem_map.mp hl
  exact ⟨y, hy, hc⟩
theorem change_word {k : Int} {R : Rl} {w : Str} (h : Made k R) (hw : Word k w) : Word k (change R w) := fun c m => by
  obtain ⟨y, hy, hc⟩ := jn_mem m
  unfold parts at hy
  obtain ⟨i, hi, rfl⟩ := List.mem_map.mp hy
  have hi := List.mem_range.mp hi
  by_cases s : standsAt R w i = true
  · rw [if_pos s] at hc
    exact h.n c hc
  · rw [if_neg s] at hc
    rw [List.mem_singleton.mp hc]
    refine hw _ ?_
    rw [Array.getD_eq_getD_getElem?, Array.getElem?_eq_getElem hi]
    exact Array.getElem_mem_toList hi
theorem change_3 {k : Int} {R : Rl} (h : Made k R) (w : Str) : (change R w).length ≤ 3 * w.length := by
  unfold change
  rw [jn_len]
  have := sum_le (b := 3) ((parts R w).map (·.length)) fun x m => by
    obtain ⟨y, my, rfl⟩ := List.mem_map.mp m
    unfold parts at my
    obtain ⟨i, _, rfl⟩ := List.mem_map.mp my
    by_cases c : standsAt R w i = true
    · rw [if_pos c]; exact h.n3
    · rw [if_neg c, tx_len]; show 1 ≤ 3; decide
  rw [List.length_map, parts_len] at this
  have e : w.cps.size = w.length := rfl
  omega
theorem formOf_word {k : Int} : ∀ {Rs : List Rl} {w : Str}, (∀ R ∈ Rs, Made k R) → Word k w → Word k (formOf Rs w)
  | [], _, _, hw => hw
  | R :: Rs, w, h, hw => formOf_word (Rs := Rs) (fun S m => h S (List.mem_cons_of_mem _ m)) (change_word (h R List.mem_cons_self) hw)
theorem formOf_3 {k : Int} : ∀ {Rs : List Rl} (w : Str), (∀ R ∈ Rs, Made k R) → (formOf Rs w).length ≤ 3 ^ Rs.length * w.length
  | [], w, _ => by show w.length ≤ 1 * w.length; omega
  | R :: Rs, w, h => by
    have h1 := formOf_3 (Rs := Rs) (change R w) fun S m => h S (List.mem_cons_of_mem _ m)
    have h2 := Nat.mul_le_mul_left (3 ^ Rs.length) (change_3 (h R List.mem_cons_self) w)
    show (formOf Rs (change R w)).length ≤ 3 ^ (Rs.length + 1) * w.length
    rw [Nat.pow_succ, Nat.mul_assoc]
    omega
theorem big_3 {k : Int} : ∀ {Rs : List Rl} {w : Str}, (∀ R ∈ Rs, Made k R) → 3 ^ Rs.length * w.length ≤ 2000 → big Rs w = false
  | [], _, _, _ => rfl
  | R :: Rs, w, h, hw => by
    have c := change_3 (h R List.mem_cons_self) w
    have e : 3 ^ (R :: Rs).length * w.length = 3 ^ Rs.length * (3 * w.length) := by
      rw [List.length_cons, Nat.pow_succ, Nat.mul_assoc]
    rw [e] at hw
    have p : 1 ≤ 3 ^ Rs.length := Nat.pow_pos (by decide)
    have m1 : 1 * (3 * w.length) ≤ 3 ^ Rs.length * (3 * w.length) := Nat.mul_le_mul_right _ p
    have m2 : 3 ^ Rs.length * (change R w).length ≤ 3 ^ Rs.length * (3 * w.length) := Nat.mul_le_mul_left _ c
    show (decide (2000 < (change R w).length) || big Rs (change R w)) = false
    rw [decide_eq_false (by omega), big_3 (fun S m => h S (List.mem_cons_of_mem _ m)) (by omega)]
    rfl
theorem stepsOf_word {k : Int} : ∀ {Rs : List Rl} {w : Str}, (∀ R ∈ Rs, Made k R) → Word k w → ∀ p ∈ stepsOf Rs w, Word k p
  | [], w, _, hw => fun p m => by rw [List.mem_singleton.mp m]; exact hw
  | R :: Rs, w, h, hw => fun p m => by
    rcases List.mem_cons.mp m with e | m
    · rw [e]; exact hw
    · exact stepsOf_word (Rs := Rs) (fun S m => h S (List.mem_cons_of_mem _ m)) (change_word (h R List.mem_cons_self) hw) p m
theorem shp_words {k : Int} {j : Nat} (b : k ≤ 6) {ps : List Str} (h : ∀ p ∈ ps, Word k p) : Shp (j + 1) (.list (ps.map PyData.str)) :=
  Shp.list fun d m => by
    obtain ⟨p, hp, rfl⟩ := List.mem_map.mp m
    exact .str (LetK.small b (h p hp))
theorem stepsOf_app : ∀ (Rs Ss : List Rl) (w : Str), stepsOf (Rs ++ Ss) w = (stepsOf Rs w).dropLast ++ stepsOf Ss (formOf Rs w)
  | [], Ss, w => rfl
  | R :: Rs, Ss, w => by
    have ne : stepsOf Rs (change R w) ≠ [] := fun e => by have := stepsOf_len Rs (change R w); rw [e] at this; cases this
    show w :: stepsOf (Rs ++ Ss) (change R w) = (w :: stepsOf Rs (change R w)).dropLast ++ _
    rw [stepsOf_app Rs Ss, List.dropLast_cons_of_ne_nil ne]
    rfl
/-! ### rules that act alone -/
theorem change_none {R : Rl} {w : Str} (h : stood R w = []) : change R w = w := by
  unfold change
  have e : parts R w = w.cps.toList.map fun c => tx [c] := by
    unfold parts
    rw [← Sv.range_map, List.map_map]
    refine List.map_congr_left fun i hi => ?_
    have ns : ¬ standsAt R w i = true := fun z => by
      have : i ∈ stood R w := List.mem_filter.mpr ⟨hi, z⟩
      rw [h] at this
      cases this
    rw [if_neg ns]
    rfl
  rw [e, jn_signs, ← tx_of]
def onlyActs : List Rl → Str → List Rl
  | [], _ => []
  | R :: Rs, w => if stood R w = [] then onlyActs Rs w else R :: onlyActs Rs (change R w)
theorem onlyActs_cons (R : Rl) (Rs : List Rl) (w : Str) : onlyActs (R :: Rs) w = if stood R w = [] then onlyActs Rs w else R :: onlyActs Rs (change R w) := rfl
theorem acted_cons (R : Rl) (Rs : List Rl) (w : Str) : acted (R :: Rs) w = (if stood R w = [] then [] else [0]) ++ (acted Rs (change R w)).map Nat.succ := by
  unfold acted
  rw [List.length_cons, List.range_succ_eq_map, List.filter_cons, List.filter_map]
  have e : ((fun i => !(stood ((R :: Rs).getD i Rl.nil) (formOf ((R :: Rs).take i) w)).isEmpty) ∘ Nat.succ) = fun i => !(stood (Rs.getD i Rl.nil) (formOf (Rs.take i) (change R w))).isEmpty := by
    funext i
    rfl
  rw [e]
  have e0 : (!(stood ((R :: Rs).getD 0 Rl.nil) (formOf ((R :: Rs).take 0) w)).isEmpty) = !(stood R w).isEmpty := rfl
  rw [e0]
  cases hs : stood R w with
  | nil => rfl
  | cons a b => rfl
theorem onlyActs_eq : ∀ (Rs : List Rl) (w : Str), (acted Rs w).map (fun i => Rs.getD i Rl.nil) = onlyActs Rs w
  | [], _ => rfl
  | R :: Rs, w => by
    rw [acted_cons, List.map_append, List.map_map]
    have e : ((fun i => (R :: Rs).getD i Rl.nil) ∘ Nat.succ) = fun i => Rs.getD i Rl.nil := rfl
    rw [e, onlyActs_eq Rs]
    rw [onlyActs_cons]
    by_cases h : stood R w = []
    · rw [if_pos h, if_pos h, change_none h]
      rfl
    · rw [if_neg h, if_neg h]
      rfl
theorem onlyActs_form : ∀ (Rs : List Rl) (w : Str), formOf (onlyActs Rs w) w = formOf Rs w
  | [], _ => rfl
  | R :: Rs, w => by
    rw [onlyActs_cons]
    by_cases h : stood R w = []
    · rw [if_pos h, onlyActs_form Rs w]
      show _ = formOf Rs (change R w)
      rw [change_none h]
    · rw [if_neg h]
      show formOf (onlyActs Rs (change R w)) (change R w) = formOf Rs (change R w)
      exact onlyActs_form Rs _
theorem onlyActs_acted : ∀ (Rs : List Rl) (w : Str), acted (onlyActs Rs w) w = List.range (onlyActs Rs w).length
  | [], _ => rfl
  | R :: Rs, w => by
    rw [onlyActs_cons]
    by_cases h : stood R w = []
    · rw [if_pos h]
      exact onlyActs_acted Rs w
    · rw [if_neg h, acted_cons, if_neg h, onlyActs_acted Rs (change R w), List.length_cons, List.range_succ_eq_map]
      rfl
theorem onlyActs_mem : ∀ {Rs : List Rl} {w : Str} {R : Rl}, R ∈ onlyActs Rs w → R ∈ Rs
  | [], _, _, m => m
  | S :: Rs, w, R, m => by
    rw [onlyActs_cons] at m
    by_cases h : stood S w = []
    · rw [if_pos h] at m
      exact List.mem_cons_of_mem _ (onlyActs_mem m)
    · rw [if_neg h] at m
      rcases List.mem_cons.mp m with e | m
      · rw [e]; exact List.mem_cons_self
      · exact List.mem_cons_of_mem _ (onlyActs_mem m)
theorem onlyActs_len : ∀ (Rs : List Rl) (w : Str), (onlyActs Rs w).length ≤ Rs.length
  | [], _ => Nat.le_refl _
  | R :: Rs, w => by
    rw [onlyActs_cons]
    by_cases h : stood R w = []
    · rw [if_pos h]
      exact Nat.le_succ_of_le (onlyActs_len Rs w)
    · rw [if_neg h]
      exact Nat.succ_le_succ (onlyActs_len Rs _)
theorem areRules_of {k : Int} {Rs : List Rl} (h : Rs.length ≤ 8) (a : ∀ R ∈ Rs, isRule k R = true) : areRules k Rs = true := by
  unfold areRules
  rw [decide_eq_true (by omega), List.all_eq_true.mpr a]
  rfl
end M

set_option Elab.async false
set_option linter.all false
set_option maxRecDepth 100000
set_option maxHeartbeats 4000000
/-! More answers: rules changed, turned, renamed; lists of rules. -/
namespace M
open PySem PySem.Spec L2 Sv

theorem change_le {R : Rl} {w : Str} (hn : R.n.length ≤ 1000) (hw : w.length ≤ 10000) : ((parts R w).map (·.length)).sum ≤ 16777216 := by
  have := parts_sum R w hn
  have e : w.cps.size = w.length := rfl
  omega
theorem changed_c (k : Int) (R : Rl) (w : Str) (hn : R.n.length ≤ 1000) (hw : w.length ≤ 10000) (s : S) : call1 3 F_changed [.d (.int k), .d R.data, .d (.str w)] s =
    if numOk k = true then (if isRule k R = true then (if isWord k w = true then .ok (.d (.str (change R w))) s else bad "NotWord" s) else bad "NotRule" s) else bad "BadNumber" s := by
  cases hh0 : numOk k
  · refine call_er (ds := [.int k, R.data, .str w]) rfl ?_
    simp only [b_changed, Gv, Gio, ins, List.map_cons, List.map_nil, List.length_cons, List.length_nil, Nat.sub_self, List.replicate_zero, List.append_nil, List.nil_append, List.cons_append, List.replicate_succ, Nat.reduceSub, Nat.reduceAdd, retS, retN, ret1, setS, sto, stoO, freeAt, free_dv, dv_some, dv_none, free_d, free_n, free_o, plain_dv, plain_dd, plain_n, dropS, seqS, ifS, raiS, nextS, brkS, cntS, unpS, tpG, itsOf, bindAll, optO, nmG, augS, chE, bind_ok, bind_er, bind_ite, out_ok, out_er, out_ite, seq_nx, seq_rt, seq_er, seq_bk, seq_ct, seq_ite, ite_and, ite_or, ite_and2, ite_or2, ite_andB, ite_orB, cE, varE, shE, shr, bi2, un1, opE, unE, rd, List.getElem?_cons_zero, List.getElem?_cons_succ, List.set_cons_zero, List.set_cons_succ, leD, ltD, gtD, geD, cmpD, eqD_str, neD_str, eqD_int, neD_int, inD_sign, isD, isNone, ifB, caE, consA, nilA, ca1, rdAll, dAll, lenD, intF, tupF, lstF, Option.map_some, Option.map_none, Option.bind_some, addD, intD, subI, modI, divI, adI, negD, mulD, revND, revD, tupE, lstE, mtE, okTy, isStr, isLst, stripF, callE, callI, truT, tru1, tru, truD, blT, notT, andT, orT, ifE, notE, andE, orE, if_true, Bool.not_true, Bool.not_false, Bool.true_and, Bool.and_true, Bool.false_and, Bool.or_false, Bool.false_or, Bool.true_or, Bool.or_true, Bool.and_false, Bool.false_xor, Bool.true_xor, slE, noP, someP, sl1, slD, seqI, its1, optI, forS, turn, lcE, wipeS, restS, plainAt, List.getD_cons_zero, List.getD_cons_succ, List.all_cons, List.all_nil, muE, mu1, lstAt, dArgs, appF, popF, rvsF, extF, rng1I, rng2I, enI, zipI, zip2, starA, subS, decide_true, decide_false, Int.reduceLT, Int.reduceLE, Nat.reduceLT, Nat.reduceLeDiff, true_and, and_true, Bool.false_eq_true, if_false, ite_true, ite_false, reduceIte, reduceCtorEq, Option.some.injEq, check_rule_c, check_word_c, parts_of_c _ _ (show w.length ≤ 16777216 by omega), joinF_jn (change_le hn hw), bad, hh0]
    exact ⟨_, rfl⟩
  · skip
    cases hh1 : isRule k R
    · refine call_er (ds := [.int k, R.data, .str w]) rfl ?_
      simp only [b_changed, Gv, Gio, ins, List.map_cons, List.map_nil, List.length_cons, List.length_nil, Nat.sub_self, List.replicate_zero, List.append_nil, List.nil_append, List.cons_append, List.replicate_succ, Nat.reduceSub, Nat.reduceAdd, retS, retN, ret1, setS, sto, stoO, freeAt, free_dv, dv_some, dv_none, free_d, free_n, free_o, plain_dv, plain_dd, plain_n, dropS, seqS, ifS, raiS, nextS, brkS, cntS, unpS, tpG, itsOf, bindAll, optO, nmG, augS, chE, bind_ok, bind_er, bind_ite, out_ok, out_er, out_ite, seq_nx, seq_rt, seq_er, seq_bk, seq_ct, seq_ite, ite_and, ite_or, ite_and2, ite_or2, ite_andB, ite_orB, cE, varE, shE, shr, bi2, un1, opE, unE, rd, List.getElem?_cons_zero, List.getElem?_cons_succ, List.set_cons_zero, List.set_cons_succ, leD, ltD, gtD, geD, cmpD, eqD_str, neD_str, eqD_int, neD_int, inD_sign, isD, isNone, ifB, caE, consA, nilA, ca1, rdAll, dAll, lenD, intF, tupF, lstF, Option.map_some, Option.map_none, Option.bind_some, addD, intD, subI, modI, divI, adI, negD, mulD, revND, revD, tupE, lstE, mtE, okTy, isStr, isLst, stripF, callE, callI, truT, tru1, tru, truD, blT, notT, andT, orT, ifE, notE, andE, orE, if_true, Bool.not_true, Bool.not_false, Bool.true_and, Bool.and_true, Bool.false_and, Bool.or_false, Bool.false_or, Bool.true_or, Bool.or_true, Bool.and_false, Bool.false_xor, Bool.true_xor, slE, noP, someP, sl1, slD, seqI, its1, optI, forS, turn, lcE, wipeS, restS, plainAt, List.getD_cons_zero, List.getD_cons_succ, List.all_cons, List.all_nil, muE, mu1, lstAt, dArgs, appF, popF, rvsF, extF, rng1I, rng2I, enI, zipI, zip2, starA, subS, decide_true, decide_false, Int.reduceLT, Int.reduceLE, Nat.reduceLT, Nat.reduceLeDiff, true_and, and_true, Bool.false_eq_true, if_false, ite_true, ite_false, reduceIte, reduceCtorEq, Option.some.injEq, check_rule_c, check_word_c, parts_of_c _ _ (show w.length ≤ 16777216 by omega), joinF_jn (change_le hn hw), bad, hh0, hh1]
      exact ⟨_, rfl⟩
    · skip
      cases hh2 : isWord k w
      · refine call_er (ds := [.int k, R.data, .str w]) rfl ?_
        simp only [b_changed, Gv, Gio, ins, List.map_cons, List.map_nil, List.length_cons, List.length_nil, Nat.sub_self, List.replicate_zero, List.append_nil, List.nil_append, List.cons_append, List.replicate_succ, Nat.reduceSub, Nat.reduceAdd, retS, retN, ret1, setS, sto, stoO, freeAt, free_dv, dv_some, dv_none, free_d, free_n, free_o, plain_dv, plain_dd, plain_n, dropS, seqS, ifS, raiS, nextS, brkS, cntS, unpS, tpG, itsOf, bindAll, optO, nmG, augS, chE, bind_ok, bind_er, bind_ite, out_ok, out_er, out_ite, seq_nx, seq_rt, seq_er, seq_bk, seq_ct, seq_ite, ite_and, ite_or, ite_and2, ite_or2, ite_andB, ite_orB, cE, varE, shE, shr, bi2, un1, opE, unE, rd, List.getElem?_cons_zero, List.getElem?_cons_succ, List.set_cons_zero, List.set_cons_succ, leD, ltD, gtD, geD, cmpD, eqD_str, neD_str, eqD_int, neD_int, inD_sign, isD, isNone, ifB, caE, consA, nilA, ca1, rdAll, dAll, lenD, intF, tupF, lstF, Option.map_some, Option.map_none, Option.bind_some, addD, intD, subI, modI, divI, adI, negD, mulD, revND, revD, tupE, lstE, mtE, okTy, isStr, isLst, stripF, callE, callI, truT, tru1, tru, truD, blT, notT, andT, orT, ifE, notE, andE, orE, if_true, Bool.not_true, Bool.not_false, Bool.true_and, Bool.and_true, Bool.false_and, Bool.or_false, Bool.false_or, Bool.true_or, Bool.or_true, Bool.and_false, Bool.false_xor, Bool.true_xor, slE, noP, someP, sl1, slD, seqI, its1, optI, forS, turn, lcE, wipeS, restS, plainAt, List.getD_cons_zero, List.getD_cons_succ, List.all_cons, List.all_nil, muE, mu1, lstAt, dArgs, appF, popF, rvsF, extF, rng1I, rng2I, enI, zipI, zip2, starA, subS, decide_true, decide_false, Int.reduceLT, Int.reduceLE, Nat.reduceLT, Nat.reduceLeDiff, true_and, and_true, Bool.false_eq_true, if_false, ite_true, ite_false, reduceIte, reduceCtorEq, Option.some.injEq, check_rule_c, check_word_c, parts_of_c _ _ (show w.length ≤ 16777216 by omega), joinF_jn (change_le hn hw), bad, hh0, hh1, hh2]
        exact ⟨_, rfl⟩
      · skip
        refine call_rt (ds := [.int k, R.data, .str w]) rfl ?_
        simp only [b_changed, Gv, Gio, ins, List.map_cons, List.map_nil, List.length_cons, List.length_nil, Nat.sub_self, List.replicate_zero, List.append_nil, List.nil_append, List.cons_append, List.replicate_succ, Nat.reduceSub, Nat.reduceAdd, retS, retN, ret1, setS, sto, stoO, freeAt, free_dv, dv_some, dv_none, free_d, free_n, free_o, plain_dv, plain_dd, plain_n, dropS, seqS, ifS, raiS, nextS, brkS, cntS, unpS, tpG, itsOf, bindAll, optO, nmG, augS, chE, bind_ok, bind_er, bind_ite, out_ok, out_er, out_ite, seq_nx, seq_rt, seq_er, seq_bk, seq_ct, seq_ite, ite_and, ite_or, ite_and2, ite_or2, ite_andB, ite_orB, cE, varE, shE, shr, bi2, un1, opE, unE, rd, List.getElem?_cons_zero, List.getElem?_cons_succ, List.set_cons_zero, List.set_cons_succ, leD, ltD, gtD, geD, cmpD, eqD_str, neD_str, eqD_int, neD_int, inD_sign, isD, isNone, ifB, caE, consA, nilA, ca1, rdAll, dAll, lenD, intF, tupF, lstF, Option.map_some, Option.map_none, Option.bind_some, addD, intD, subI, modI, divI, adI, negD, mulD, revND, revD, tupE, lstE, mtE, okTy, isStr, isLst, stripF, callE, callI, truT, tru1, tru, truD, blT, notT, andT, orT, ifE, notE, andE, orE, if_true, Bool.not_true, Bool.not_false, Bool.true_and, Bool.and_true, Bool.false_and, Bool.or_false, Bool.false_or, Bool.true_or, Bool.or_true, Bool.and_false, Bool.false_xor, Bool.true_xor, slE, noP, someP, sl1, slD, seqI, its1, optI, forS, turn, lcE, wipeS, restS, plainAt, List.getD_cons_zero, List.getD_cons_succ, List.all_cons, List.all_nil, muE, mu1, lstAt, dArgs, appF, popF, rvsF, extF, rng1I, rng2I, enI, zipI, zip2, starA, subS, decide_true, decide_false, Int.reduceLT, Int.reduceLE, Nat.reduceLT, Nat.reduceLeDiff, true_and, and_true, Bool.false_eq_true, if_false, ite_true, ite_false, reduceIte, reduceCtorEq, Option.some.injEq, check_rule_c, check_word_c, parts_of_c _ _ (show w.length ≤ 16777216 by omega), joinF_jn (change_le hn hw), hh0, hh1, hh2]
        exact ⟨_, rfl⟩
theorem stands_c (k : Int) (R : Rl) (w : Str) (hw : w.length ≤ 10000) (s : S) : call1 3 F_stands [.d (.int k), .d R.data, .d (.str w)] s =
    if numOk k = true then (if isRule k R = true then (if isWord k w = true then .ok (.o true (.L ((stood R w).map fun i => .int ((i : Nat) : Int)))) s else bad "NotWord" s) else bad "NotRule" s) else bad "BadNumber" s := by
  cases hh0 : numOk k
  · refine call_er (ds := [.int k, R.data, .str w]) rfl ?_
    simp only [b_stands, Gv, Gio, ins, List.map_cons, List.map_nil, List.length_cons, List.length_nil, Nat.sub_self, List.replicate_zero, List.append_nil, List.nil_append, List.cons_append, List.replicate_succ, Nat.reduceSub, Nat.reduceAdd, retS, retN, ret1, setS, sto, stoO, freeAt, free_dv, dv_some, dv_none, free_d, free_n, free_o, plain_dv, plain_dd, plain_n, dropS, seqS, ifS, raiS, nextS, brkS, cntS, unpS, tpG, itsOf, bindAll, optO, nmG, augS, chE, bind_ok, bind_er, bind_ite, out_ok, out_er, out_ite, seq_nx, seq_rt, seq_er, seq_bk, seq_ct, seq_ite, ite_and, ite_or, ite_and2, ite_or2, ite_andB, ite_orB, cE, varE, shE, shr, bi2, un1, opE, unE, rd, List.getElem?_cons_zero, List.getElem?_cons_succ, List.set_cons_zero, List.set_cons_succ, leD, ltD, gtD, geD, cmpD, eqD_str, neD_str, eqD_int, neD_int, inD_sign, isD, isNone, ifB, caE, consA, nilA, ca1, rdAll, dAll, lenD, intF, tupF, lstF, Option.map_some, Option.map_none, Option.bind_some, addD, intD, subI, modI, divI, adI, negD, mulD, revND, revD, tupE, lstE, mtE, okTy, isStr, isLst, stripF, callE, callI, truT, tru1, tru, truD, blT, notT, andT, orT, ifE, notE, andE, orE, if_true, Bool.not_true, Bool.not_false, Bool.true_and, Bool.and_true, Bool.false_and, Bool.or_false, Bool.false_or, Bool.true_or, Bool.or_true, Bool.and_false, Bool.false_xor, Bool.true_xor, slE, noP, someP, sl1, slD, seqI, its1, optI, forS, turn, lcE, wipeS, restS, plainAt, List.getD_cons_zero, List.getD_cons_succ, List.all_cons, List.all_nil, muE, mu1, lstAt, dArgs, appF, popF, rvsF, extF, rng1I, rng2I, enI, zipI, zip2, starA, subS, decide_true, decide_false, Int.reduceLT, Int.reduceLE, Nat.reduceLT, Nat.reduceLeDiff, true_and, and_true, Bool.false_eq_true, if_false, ite_true, ite_false, reduceIte, reduceCtorEq, Option.some.injEq, check_rule_c, check_word_c, indexes_of_c _ _ (show w.length ≤ 16777216 by omega), bad, hh0]
    exact ⟨_, rfl⟩
  · skip
    cases hh1 : isRule k R
    · refine call_er (ds := [.int k, R.data, .str w]) rfl ?_
      simp only [b_stands, Gv, Gio, ins, List.map_cons, List.map_nil, List.length_cons, List.length_nil, Nat.sub_self, List.replicate_zero, List.append_nil, List.nil_append, List.cons_append, List.replicate_succ, Nat.reduceSub, Nat.reduceAdd, retS, retN, ret1, setS, sto, stoO, freeAt, free_dv, dv_some, dv_none, free_d, free_n, free_o, plain_dv, plain_dd, plain_n, dropS, seqS, ifS, raiS, nextS, brkS, cntS, unpS, tpG, itsOf, bindAll, optO, nmG, augS, chE, bind_ok, bind_er, bind_ite, out_ok, out_er, out_ite, seq_nx, seq_rt, seq_er, seq_bk, seq_ct, seq_ite, ite_and, ite_or, ite_and2, ite_or2, ite_andB, ite_orB, cE, varE, shE, shr, bi2, un1, opE, unE, rd, List.getElem?_cons_zero, List.getElem?_cons_succ, List.set_cons_zero, List.set_cons_succ, leD, ltD, gtD, geD, cmpD, eqD_str, neD_str, eqD_int, neD_int, inD_sign, isD, isNone, ifB, caE, consA, nilA, ca1, rdAll, dAll, lenD, intF, tupF, lstF, Option.map_some, Option.map_none, Option.bind_some, addD, intD, subI, modI, divI, adI, negD, mulD, revND, revD, tupE, lstE, mtE, okTy, isStr, isLst, stripF, callE, callI, truT, tru1, tru, truD, blT, notT, andT, orT, ifE, notE, andE, orE, if_true, Bool.not_true, Bool.not_false, Bool.true_and, Bool.and_true, Bool.false_and, Bool.or_false, Bool.false_or, Bool.true_or, Bool.or_true, Bool.and_false, Bool.false_xor, Bool.true_xor, slE, noP, someP, sl1, slD, seqI, its1, optI, forS, turn, lcE, wipeS, restS, plainAt, List.getD_cons_zero, List.getD_cons_succ, List.all_cons, List.all_nil, muE, mu1, lstAt, dArgs, appF, popF, rvsF, extF, rng1I, rng2I, enI, zipI, zip2, starA, subS, decide_true, decide_false, Int.reduceLT, Int.reduceLE, Nat.reduceLT, Nat.reduceLeDiff, true_and, and_true, Bool.false_eq_true, if_false, ite_true, ite_false, reduceIte, reduceCtorEq, Option.some.injEq, check_rule_c, check_word_c, indexes_of_c _ _ (show w.length ≤ 16777216 by omega), bad, hh0, hh1]
      exact ⟨_, rfl⟩
    · skip
      cases hh2 : isWord k w
      · refine call_er (ds := [.int k, R.data, .str w]) rfl ?_
        simp only [b_stands, Gv, Gio, ins, List.map_cons, List.map_nil, List.length_cons, List.length_nil, Nat.sub_self, List.replicate_zero, List.append_nil, List.nil_append, List.cons_append, List.replicate_succ, Nat.reduceSub, Nat.reduceAdd, retS, retN, ret1, setS, sto, stoO, freeAt, free_dv, dv_some, dv_none, free_d, free_n, free_o, plain_dv, plain_dd, plain_n, dropS, seqS, ifS, raiS, nextS, brkS, cntS, unpS, tpG, itsOf, bindAll, optO, nmG, augS, chE, bind_ok, bind_er, bind_ite, out_ok, out_er, out_ite, seq_nx, seq_rt, seq_er, seq_bk, seq_ct, seq_ite, ite_and, ite_or, ite_and2, ite_or2, ite_andB, ite_orB, cE, varE, shE, shr, bi2, un1, opE, unE, rd, List.getElem?_cons_zero, List.getElem?_cons_succ, List.set_cons_zero, List.set_cons_succ, leD, ltD, gtD, geD, cmpD, eqD_str, neD_str, eqD_int, neD_int, inD_sign, isD, isNone, ifB, caE, consA, nilA, ca1, rdAll, dAll, lenD, intF, tupF, lstF, Option.map_some, Option.map_none, Option.bind_some, addD, intD, subI, modI, divI, adI, negD, mulD, revND, revD, tupE, lstE, mtE, okTy, isStr, isLst, stripF, callE, callI, truT, tru1, tru, truD, blT, notT, andT, orT, ifE, notE, andE, orE, if_true, Bool.not_true, Bool.not_false, Bool.true_and, Bool.and_true, Bool.false_and, Bool.or_false, Bool.false_or, Bool.true_or, Bool.or_true, Bool.and_false, Bool.false_xor, Bool.true_xor, slE, noP, someP, sl1, slD, seqI, its1, optI, forS, turn, lcE, wipeS, restS, plainAt, List.getD_cons_zero, List.getD_cons_succ, List.all_cons, List.all_nil, muE, mu1, lstAt, dArgs, appF, popF, rvsF, extF, rng1I, rng2I, enI, zipI, zip2, starA, subS, decide_true, decide_false, Int.reduceLT, Int.reduceLE, Nat.reduceLT, Nat.reduceLeDiff, true_and, and_true, Bool.false_eq_true, if_false, ite_true, ite_false, reduceIte, reduceCtorEq, Option.some.injEq, check_rule_c, check_word_c, indexes_of_c _ _ (show w.length ≤ 16777216 by omega), bad, hh0, hh1, hh2]
        exact ⟨_, rfl⟩
      · skip
        refine call_ob (ds := [.int k, R.data, .str w]) rfl ?_
        simp only [b_stands, Gv, Gio, ins, List.map_cons, List.map_nil, List.length_cons, List.length_nil, Nat.sub_self, List.replicate_zero, List.append_nil, List.nil_append, List.cons_append, List.replicate_succ, Nat.reduceSub, Nat.reduceAdd, retS, retN, ret1, setS, sto, stoO, freeAt, free_dv, dv_some, dv_none, free_d, free_n, free_o, plain_dv, plain_dd, plain_n, dropS, seqS, ifS, raiS, nextS, brkS, cntS, unpS, tpG, itsOf, bindAll, optO, nmG, augS, chE, bind_ok, bind_er, bind_ite, out_ok, out_er, out_ite, seq_nx, seq_rt, seq_er, seq_bk, seq_ct, seq_ite, ite_and, ite_or, ite_and2, ite_or2, ite_andB, ite_orB, cE, varE, shE, shr, bi2, un1, opE, unE, rd, List.getElem?_cons_zero, List.getElem?_cons_succ, List.set_cons_zero, List.set_cons_succ, leD, ltD, gtD, geD, cmpD, eqD_str, neD_str, eqD_int, neD_int, inD_sign, isD, isNone, ifB, caE, consA, nilA, ca1, rdAll, dAll, lenD, intF, tupF, lstF, Option.map_some, Option.map_none, Option.bind_some, addD, intD, subI, modI, divI, adI, negD, mulD, revND, revD, tupE, lstE, mtE, okTy, isStr, isLst, stripF, callE, callI, truT, tru1, tru, truD, blT, notT, andT, orT, ifE, notE, andE, orE, if_true, Bool.not_true, Bool.not_false, Bool.true_and, Bool.and_true, Bool.false_and, Bool.or_false, Bool.false_or, Bool.true_or, Bool.or_true, Bool.and_false, Bool.false_xor, Bool.true_xor, slE, noP, someP, sl1, slD, seqI, its1, optI, forS, turn, lcE, wipeS, restS, plainAt, List.getD_cons_zero, List.getD_cons_succ, List.all_cons, List.all_nil, muE, mu1, lstAt, dArgs, appF, popF, rvsF, extF, rng1I, rng2I, enI, zipI, zip2, starA, subS, decide_true, decide_false, Int.reduceLT, Int.reduceLE, Nat.reduceLT, Nat.reduceLeDiff, true_and, and_true, Bool.false_eq_true, if_false, ite_true, ite_false, reduceIte, reduceCtorEq, Option.some.injEq, check_rule_c, check_word_c, indexes_of_c _ _ (show w.length ≤ 16777216 by omega), hh0, hh1, hh2]
        exact ⟨_, rfl⟩
theorem turn_data (R : Rl) : R.turn.data = .tuple [.str R.c, .str (revS R.n), .tuple ((R.r.map PyData.str).reverse), .tuple ((R.l.map PyData.str).reverse)] := by
  show PyData.tuple [.str R.c, .str (revS R.n), .tuple (R.r.reverse.map PyData.str), .tuple (R.l.reverse.map PyData.str)] = _
  rw [List.map_reverse, List.map_reverse]
theorem turned_c (k : Int) (R : Rl) (s : S) : call1 2 F_turned [.d (.int k), .d R.data] s =
    if numOk k = true then (if isRule k R = true then .ok (.d R.turn.data) s else bad "NotRule" s) else bad "BadNumber" s := by
  have hd : R.data = .tuple [.str R.c, .str R.n, tupS R.l, tupS R.r] := rfl
  have h4 : (4 : Nat) ≤ 16777216 := by decide
  cases hh0 : numOk k
  · refine call_er (ds := [.int k, R.data]) rfl ?_
    simp only [b_turned, Gv, Gio, ins, List.map_cons, List.map_nil, List.length_cons, List.length_nil, Nat.sub_self, List.replicate_zero, List.append_nil, List.nil_append, List.cons_append, List.replicate_succ, Nat.reduceSub, Nat.reduceAdd, retS, retN, ret1, setS, sto, stoO, freeAt, free_dv, dv_some, dv_none, free_d, free_n, free_o, plain_dv, plain_dd, plain_n, dropS, seqS, ifS, raiS, nextS, brkS, cntS, unpS, tpG, itsOf, bindAll, optO, nmG, augS, chE, bind_ok, bind_er, bind_ite, out_ok, out_er, out_ite, seq_nx, seq_rt, seq_er, seq_bk, seq_ct, seq_ite, ite_and, ite_or, ite_and2, ite_or2, ite_andB, ite_orB, cE, varE, shE, shr, bi2, un1, opE, unE, rd, List.getElem?_cons_zero, List.getElem?_cons_succ, List.set_cons_zero, List.set_cons_succ, leD, ltD, gtD, geD, cmpD, eqD_str, neD_str, eqD_int, neD_int, inD_sign, isD, isNone, ifB, caE, consA, nilA, ca1, rdAll, dAll, lenD, intF, tupF, lstF, Option.map_some, Option.map_none, Option.bind_some, addD, intD, subI, modI, divI, adI, negD, mulD, revND, revD, tupE, lstE, mtE, okTy, isStr, isLst, stripF, callE, callI, truT, tru1, tru, truD, blT, notT, andT, orT, ifE, notE, andE, orE, if_true, Bool.not_true, Bool.not_false, Bool.true_and, Bool.and_true, Bool.false_and, Bool.or_false, Bool.false_or, Bool.true_or, Bool.or_true, Bool.and_false, Bool.false_xor, Bool.true_xor, slE, noP, someP, sl1, slD, seqI, its1, optI, forS, turn, lcE, wipeS, restS, plainAt, List.getD_cons_zero, List.getD_cons_succ, List.all_cons, List.all_nil, muE, mu1, lstAt, dArgs, appF, popF, rvsF, extF, rng1I, rng2I, enI, zipI, zip2, starA, subS, decide_true, decide_false, Int.reduceLT, Int.reduceLE, Nat.reduceLT, Nat.reduceLeDiff, true_and, and_true, Bool.false_eq_true, if_false, ite_true, ite_false, reduceIte, reduceCtorEq, Option.some.injEq, check_rule_c, bad, hh0]
    exact ⟨_, rfl⟩
  cases hh1 : isRule k R
  · refine call_er (ds := [.int k, R.data]) rfl ?_
    simp only [b_turned, Gv, Gio, ins, List.map_cons, List.map_nil, List.length_cons, List.length_nil, Nat.sub_self, List.replicate_zero, List.append_nil, List.nil_append, List.cons_append, List.replicate_succ, Nat.reduceSub, Nat.reduceAdd, retS, retN, ret1, setS, sto, stoO, freeAt, free_dv, dv_some, dv_none, free_d, free_n, free_o, plain_dv, plain_dd, plain_n, dropS, seqS, ifS, raiS, nextS, brkS, cntS, unpS, tpG, itsOf, bindAll, optO, nmG, augS, chE, bind_ok, bind_er, bind_ite, out_ok, out_er, out_ite, seq_nx, seq_rt, seq_er, seq_bk, seq_ct, seq_ite, ite_and, ite_or, ite_and2, ite_or2, ite_andB, ite_orB, cE, varE, shE, shr, bi2, un1, opE, unE, rd, List.getElem?_cons_zero, List.getElem?_cons_succ, List.set_cons_zero, List.set_cons_succ, leD, ltD, gtD, geD, cmpD, eqD_str, neD_str, eqD_int, neD_int, inD_sign, isD, isNone, ifB, caE, consA, nilA, ca1, rdAll, dAll, lenD, intF, tupF, lstF, Option.map_some, Option.map_none, Option.bind_some, addD, intD, subI, modI, divI, adI, negD, mulD, revND, revD, tupE, lstE, mtE, okTy, isStr, isLst, stripF, callE, callI, truT, tru1, tru, truD, blT, notT, andT, orT, ifE, notE, andE, orE, if_true, Bool.not_true, Bool.not_false, Bool.true_and, Bool.and_true, Bool.false_and, Bool.or_false, Bool.false_or, Bool.true_or, Bool.or_true, Bool.and_false, Bool.false_xor, Bool.true_xor, slE, noP, someP, sl1, slD, seqI, its1, optI, forS, turn, lcE, wipeS, restS, plainAt, List.getD_cons_zero, List.getD_cons_succ, List.all_cons, List.all_nil, muE, mu1, lstAt, dArgs, appF, popF, rvsF, extF, rng1I, rng2I, enI, zipI, zip2, starA, subS, decide_true, decide_false, Int.reduceLT, Int.reduceLE, Nat.reduceLT, Nat.reduceLeDiff, true_and, and_true, Bool.false_eq_true, if_false, ite_true, ite_false, reduceIte, reduceCtorEq, Option.some.injEq, check_rule_c, bad, hh0, hh1]
    exact ⟨_, rfl⟩
  refine call_rt (ds := [.int k, R.data]) rfl ?_
  simp only [b_turned, Gv, Gio, ins, List.map_cons, List.map_nil, List.length_cons, List.length_nil, Nat.sub_self, List.replicate_zero, List.append_nil, List.nil_append, List.cons_append, List.replicate_succ, Nat.reduceSub, Nat.reduceAdd, retS, retN, ret1, setS, sto, stoO, freeAt, free_dv, dv_some, dv_none, free_d, free_n, free_o, plain_dv, plain_dd, plain_n, dropS, seqS, ifS, raiS, nextS, brkS, cntS, unpS, tpG, itsOf, bindAll, optO, nmG, augS, chE, bind_ok, bind_er, out_ok, out_er, seq_nx, seq_rt, seq_er, seq_bk, seq_ct, ite_and, ite_or, ite_and2, ite_or2, ite_andB, ite_orB, cE, varE, shE, shr, bi2, un1, opE, unE, rd, List.getElem?_cons_zero, List.getElem?_cons_succ, List.set_cons_zero, List.set_cons_succ, leD, ltD, gtD, geD, cmpD, eqD_str, neD_str, eqD_int, neD_int, inD_sign, isD, isNone, ifB, caE, consA, nilA, ca1, rdAll, dAll, lenD, intF, tupF, lstF, Option.map_some, Option.map_none, Option.bind_some, addD, intD, subI, modI, divI, adI, negD, mulD, revND, revD, tupE, lstE, mtE, okTy, isStr, isLst, stripF, callE, callI, truT, tru1, tru, truD, blT, notT, andT, orT, ifE, notE, andE, orE, if_true, Bool.not_true, Bool.not_false, Bool.true_and, Bool.and_true, Bool.false_and, Bool.or_false, Bool.false_or, Bool.true_or, Bool.or_true, Bool.and_false, Bool.false_xor, Bool.true_xor, slE, noP, someP, sl1, slD, seqI, its1, optI, forS, turn, lcE, wipeS, restS, plainAt, List.getD_cons_zero, List.getD_cons_succ, List.all_cons, List.all_nil, muE, mu1, lstAt, dArgs, appF, popF, rvsF, extF, rng1I, rng2I, enI, zipI, zip2, starA, subS, decide_true, decide_false, Int.reduceLT, Int.reduceLE, Nat.reduceLT, Nat.reduceLeDiff, true_and, and_true, Bool.false_eq_true, if_false, ite_true, ite_false, reduceIte, reduceCtorEq, Option.some.injEq, check_rule_c, hh0, hh1]
  simp only [hd, Gv, Gio, ins, List.map_cons, List.map_nil, List.length_cons, List.length_nil, Nat.sub_self, List.replicate_zero, List.append_nil, List.nil_append, List.cons_append, List.replicate_succ, Nat.reduceSub, Nat.reduceAdd, retS, retN, ret1, setS, sto, stoO, freeAt, free_dv, dv_some, dv_none, free_d, free_n, free_o, plain_dv, plain_dd, plain_n, dropS, seqS, ifS, raiS, nextS, brkS, cntS, unpS, tpG, itsOf, bindAll, optO, nmG, augS, chE, bind_ok, bind_er, out_ok, out_er, seq_nx, seq_rt, seq_er, seq_bk, seq_ct, ite_and, ite_or, ite_and2, ite_or2, ite_andB, ite_orB, cE, varE, shE, shr, bi2, un1, opE, unE, rd, List.getElem?_cons_zero, List.getElem?_cons_succ, List.set_cons_zero, List.set_cons_succ, leD, ltD, gtD, geD, cmpD, eqD_str, neD_str, eqD_int, neD_int, inD_sign, isD, isNone, ifB, caE, consA, nilA, ca1, rdAll, dAll, lenD, intF, tupF, lstF, Option.map_some, Option.map_none, Option.bind_some, addD, intD, subI, modI, divI, adI, negD, mulD, revND, revD, tupE, lstE, mtE, okTy, isStr, isLst, stripF, callE, callI, truT, tru1, tru, truD, blT, notT, andT, orT, ifE, notE, andE, orE, if_true, Bool.not_true, Bool.not_false, Bool.true_and, Bool.and_true, Bool.false_and, Bool.or_false, Bool.false_or, Bool.true_or, Bool.or_true, Bool.and_false, Bool.false_xor, Bool.true_xor, slE, noP, someP, sl1, slD, seqI, its1, optI, forS, turn, lcE, wipeS, restS, plainAt, List.getD_cons_zero, List.getD_cons_succ, List.all_cons, List.all_nil, muE, mu1, lstAt, dArgs, appF, popF, rvsF, extF, rng1I, rng2I, enI, zipI, zip2, starA, subS, decide_true, decide_false, Int.reduceLT, Int.reduceLE, Nat.reduceLT, Nat.reduceLeDiff, true_and, and_true, Bool.false_eq_true, if_false, ite_true, ite_false, reduceIte, reduceCtorEq, Option.some.injEq, h4, turn_data]
  exact ⟨_, rfl⟩
theorem renamed_letters_c (l n w : Str) (h : RenOk l n w) (hw : w.length ≤ 10000) (s : S) : call1 3 F_renamed_letters [.d (.str l), .d (.str n), .d (.str w)] s = .ok (.d (.str (renS n w))) s := by
  refine call_rt (ds := [.str l, .str n, .str w]) rfl ?_
  have ll : w.cps.toList.length = w.length := Array.length_toList
  simp only [b_renamed_letters, Gv, Gio, ins, List.map_cons, List.map_nil, List.length_cons, List.length_nil, Nat.sub_self, List.replicate_zero, List.append_nil, List.nil_append, List.cons_append, List.replicate_succ, Nat.reduceSub, Nat.reduceAdd, retS, retN, ret1, setS, sto, stoO, freeAt, free_dv, dv_some, dv_none, free_d, free_n, free_o, plain_dv, plain_dd, plain_n, dropS, seqS, ifS, raiS, nextS, brkS, cntS, unpS, tpG, itsOf, bindAll, optO, nmG, augS, chE, bind_ok, bind_er, out_ok, out_er, seq_nx, seq_rt, seq_er, seq_bk, seq_ct, ite_and, ite_or, ite_and2, ite_or2, ite_andB, ite_orB, cE, varE, shE, shr, bi2, un1, opE, unE, rd, List.getElem?_cons_zero, List.getElem?_cons_succ, List.set_cons_zero, List.set_cons_succ, leD, ltD, gtD, geD, cmpD, eqD_str, neD_str, eqD_int, neD_int, inD_sign, isD, isNone, ifB, caE, consA, nilA, ca1, rdAll, dAll, lenD, intF, tupF, lstF, Option.map_some, Option.map_none, Option.bind_some, addD, intD, subI, modI, divI, adI, negD, mulD, revND, revD, tupE, lstE, mtE, okTy, isStr, isLst, stripF, callE, callI, truT, tru1, tru, truD, blT, notT, andT, orT, ifE, notE, andE, orE, if_true, Bool.not_true, Bool.not_false, Bool.true_and, Bool.and_true, Bool.false_and, Bool.or_false, Bool.false_or, Bool.true_or, Bool.or_true, Bool.and_false, Bool.false_xor, Bool.true_xor, slE, noP, someP, sl1, slD, seqI, its1, optI, forS, turn, lcE, wipeS, restS, plainAt, List.getD_cons_zero, List.getD_cons_succ, List.all_cons, List.all_nil, muE, mu1, lstAt, dArgs, appF, popF, rvsF, extF, rng1I, rng2I, enI, zipI, zip2, starA, subS, decide_true, decide_false, Int.reduceLT, Int.reduceLE, Nat.reduceLT, Nat.reduceLeDiff, true_and, and_true, Bool.false_eq_true, if_false, ite_true, ite_false, reduceIte, reduceCtorEq, Option.some.injEq, items_str]
  rw [lcL_m (f := fun c => .str (tx [ren n c])) (by rw [ll]; show 0 + _ ≤ _; omega) fun c m => ⟨_, rfl, rfl, ?_⟩]
  · have e : (w.cps.toList.map fun c => PyData.str (tx [ren n c])) = (w.cps.toList.map (ren n)).map fun c => .str (tx [c]) := by rw [List.map_map]; rfl
    simp only [Gv, Gio, ins, List.map_cons, List.map_nil, List.length_cons, List.length_nil, Nat.sub_self, List.replicate_zero, List.append_nil, List.nil_append, List.cons_append, List.replicate_succ, Nat.reduceSub, Nat.reduceAdd, retS, retN, ret1, setS, sto, stoO, freeAt, free_dv, dv_some, dv_none, free_d, free_n, free_o, plain_dv, plain_dd, plain_n, dropS, seqS, ifS, raiS, nextS, brkS, cntS, unpS, tpG, itsOf, bindAll, optO, nmG, augS, chE, bind_ok, bind_er, out_ok, out_er, seq_nx, seq_rt, seq_er, seq_bk, seq_ct, ite_and, ite_or, ite_and2, ite_or2, ite_andB, ite_orB, cE, varE, shE, shr, bi2, un1, opE, unE, rd, List.getElem?_cons_zero, List.getElem?_cons_succ, List.set_cons_zero, List.set_cons_succ, leD, ltD, gtD, geD, cmpD, eqD_str, neD_str, eqD_int, neD_int, inD_sign, isD, isNone, ifB, caE, consA, nilA, ca1, rdAll, dAll, lenD, intF, tupF, lstF, Option.map_some, Option.map_none, Option.bind_some, addD, intD, subI, modI, divI, adI, negD, mulD, revND, revD, tupE, lstE, mtE, okTy, isStr, isLst, stripF, callE, callI, truT, tru1, tru, truD, blT, notT, andT, orT, ifE, notE, andE, orE, if_true, Bool.not_true, Bool.not_false, Bool.true_and, Bool.and_true, Bool.false_and, Bool.or_false, Bool.false_or, Bool.true_or, Bool.or_true, Bool.and_false, Bool.false_xor, Bool.true_xor, slE, noP, someP, sl1, slD, seqI, its1, optI, forS, turn, lcE, wipeS, restS, plainAt, List.getD_cons_zero, List.getD_cons_succ, List.all_cons, List.all_nil, muE, mu1, lstAt, dArgs, appF, popF, rvsF, extF, rng1I, rng2I, enI, zipI, zip2, starA, subS, decide_true, decide_false, Int.reduceLT, Int.reduceLE, Nat.reduceLT, Nat.reduceLeDiff, true_and, and_true, Bool.false_eq_true, if_false, ite_true, ite_false, reduceIte, reduceCtorEq, Option.some.injEq, e]
    rw [joinF_signs (by rw [List.length_map]; omega)]
    simp only [Gv, Gio, ins, List.map_cons, List.map_nil, List.length_cons, List.length_nil, Nat.sub_self, List.replicate_zero, List.append_nil, List.nil_append, List.cons_append, List.replicate_succ, Nat.reduceSub, Nat.reduceAdd, retS, retN, ret1, setS, sto, stoO, freeAt, free_dv, dv_some, dv_none, free_d, free_n, free_o, plain_dv, plain_dd, plain_n, dropS, seqS, ifS, raiS, nextS, brkS, cntS, unpS, tpG, itsOf, bindAll, optO, nmG, augS, chE, bind_ok, bind_er, out_ok, out_er, seq_nx, seq_rt, seq_er, seq_bk, seq_ct, ite_and, ite_or, ite_and2, ite_or2, ite_andB, ite_orB, cE, varE, shE, shr, bi2, un1, opE, unE, rd, List.getElem?_cons_zero, List.getElem?_cons_succ, List.set_cons_zero, List.set_cons_succ, leD, ltD, gtD, geD, cmpD, eqD_str, neD_str, eqD_int, neD_int, inD_sign, isD, isNone, ifB, caE, consA, nilA, ca1, rdAll, dAll, lenD, intF, tupF, lstF, Option.map_some, Option.map_none, Option.bind_some, addD, intD, subI, modI, divI, adI, negD, mulD, revND, revD, tupE, lstE, mtE, okTy, isStr, isLst, stripF, callE, callI, truT, tru1, tru, truD, blT, notT, andT, orT, ifE, notE, andE, orE, if_true, Bool.not_true, Bool.not_false, Bool.true_and, Bool.and_true, Bool.false_and, Bool.or_false, Bool.false_or, Bool.true_or, Bool.or_true, Bool.and_false, Bool.false_xor, Bool.true_xor, slE, noP, someP, sl1, slD, seqI, its1, optI, forS, turn, lcE, wipeS, restS, plainAt, List.getD_cons_zero, List.getD_cons_succ, List.all_cons, List.all_nil, muE, mu1, lstAt, dArgs, appF, popF, rvsF, extF, rng1I, rng2I, enI, zipI, zip2, starA, subS, decide_true, decide_false, Int.reduceLT, Int.reduceLE, Nat.reduceLT, Nat.reduceLeDiff, true_and, and_true, Bool.false_eq_true, if_false, ite_true, ite_false, reduceIte, reduceCtorEq, Option.some.injEq]
    exact ⟨_, rfl⟩
  · obtain ⟨⟨rest, e⟩, lt⟩ := h c m
    have es : sindexF [.str l, .str (tx [c])] = some (.d (.int ((c - 97 : Nat) : Int))) := by
      show (match Builtin.Str.occurrences l ⟨#[c]⟩ 0 l.length 1 with | i :: _ => some (Vl.d (.int (i : Nat))) | [] => none) = _
      rw [e]
    simp only [Gv, Gio, ins, List.map_cons, List.map_nil, List.length_cons, List.length_nil, Nat.sub_self, List.replicate_zero, List.append_nil, List.nil_append, List.cons_append, List.replicate_succ, Nat.reduceSub, Nat.reduceAdd, retS, retN, ret1, setS, sto, stoO, freeAt, free_dv, dv_some, dv_none, free_d, free_n, free_o, plain_dv, plain_dd, plain_n, dropS, seqS, ifS, raiS, nextS, brkS, cntS, unpS, tpG, itsOf, bindAll, optO, nmG, augS, chE, bind_ok, bind_er, out_ok, out_er, seq_nx, seq_rt, seq_er, seq_bk, seq_ct, ite_and, ite_or, ite_and2, ite_or2, ite_andB, ite_orB, cE, varE, shE, shr, bi2, un1, opE, unE, rd, List.getElem?_cons_zero, List.getElem?_cons_succ, List.set_cons_zero, List.set_cons_succ, leD, ltD, gtD, geD, cmpD, eqD_str, neD_str, eqD_int, neD_int, inD_sign, isD, isNone, ifB, caE, consA, nilA, ca1, rdAll, dAll, lenD, intF, tupF, lstF, Option.map_some, Option.map_none, Option.bind_some, addD, intD, subI, modI, divI, adI, negD, mulD, revND, revD, tupE, lstE, mtE, okTy, isStr, isLst, stripF, callE, callI, truT, tru1, tru, truD, blT, notT, andT, orT, ifE, notE, andE, orE, if_true, Bool.not_true, Bool.not_false, Bool.true_and, Bool.and_true, Bool.false_and, Bool.or_false, Bool.false_or, Bool.true_or, Bool.or_true, Bool.and_false, Bool.false_xor, Bool.true_xor, slE, noP, someP, sl1, slD, seqI, its1, optI, forS, turn, lcE, wipeS, restS, plainAt, List.getD_cons_zero, List.getD_cons_succ, List.all_cons, List.all_nil, muE, mu1, lstAt, dArgs, appF, popF, rvsF, extF, rng1I, rng2I, enI, zipI, zip2, starA, subS, decide_true, decide_false, Int.reduceLT, Int.reduceLE, Nat.reduceLT, Nat.reduceLeDiff, true_and, and_true, Bool.false_eq_true, if_false, ite_true, ite_false, reduceIte, reduceCtorEq, Option.some.injEq, es, ixD_str (z := n) (i := ((c - 97 : Nat) : Int)) (by omega) (by omega), Int.toNat_natCast]
    rfl
theorem renamed_places_c (l n : Str) (ps : List Str) (h : ∀ p ∈ ps, p ≠ "#" → RenOk l n p ∧ p.length < 64) (hp : ps.length ≤ 1000) (s : S) : call1 3 F_renamed_places [.d (.str l), .d (.str n), .d (tupS ps)] s = .ok (.d (tupS (ps.map (renP n)))) s := by
  refine call_rt (ds := [.str l, .str n, tupS ps]) rfl ?_
  have hi : itemsD (tupS ps) = some (ps.map .str) := rfl
  simp only [b_renamed_places, Gv, Gio, ins, List.map_cons, List.map_nil, List.length_cons, List.length_nil, Nat.sub_self, List.replicate_zero, List.append_nil, List.nil_append, List.cons_append, List.replicate_succ, Nat.reduceSub, Nat.reduceAdd, retS, retN, ret1, setS, sto, stoO, freeAt, free_dv, dv_some, dv_none, free_d, free_n, free_o, plain_dv, plain_dd, plain_n, dropS, seqS, ifS, raiS, nextS, brkS, cntS, unpS, tpG, itsOf, bindAll, optO, nmG, augS, chE, bind_ok, bind_er, out_ok, out_er, seq_nx, seq_rt, seq_er, seq_bk, seq_ct, ite_and, ite_or, ite_and2, ite_or2, ite_andB, ite_orB, cE, varE, shE, shr, bi2, un1, opE, unE, rd, List.getElem?_cons_zero, List.getElem?_cons_succ, List.set_cons_zero, List.set_cons_succ, leD, ltD, gtD, geD, cmpD, eqD_str, neD_str, eqD_int, neD_int, inD_sign, isD, isNone, ifB, caE, consA, nilA, ca1, rdAll, dAll, lenD, intF, tupF, lstF, Option.map_some, Option.map_none, Option.bind_some, addD, intD, subI, modI, divI, adI, negD, mulD, revND, revD, tupE, lstE, mtE, okTy, isStr, isLst, stripF, callE, callI, truT, tru1, tru, truD, blT, notT, andT, orT, ifE, notE, andE, orE, if_true, Bool.not_true, Bool.not_false, Bool.true_and, Bool.and_true, Bool.false_and, Bool.or_false, Bool.false_or, Bool.true_or, Bool.or_true, Bool.and_false, Bool.false_xor, Bool.true_xor, slE, noP, someP, sl1, slD, seqI, its1, optI, forS, turn, lcE, wipeS, restS, plainAt, List.getD_cons_zero, List.getD_cons_succ, List.all_cons, List.all_nil, muE, mu1, lstAt, dArgs, appF, popF, rvsF, extF, rng1I, rng2I, enI, zipI, zip2, starA, subS, decide_true, decide_false, Int.reduceLT, Int.reduceLE, Nat.reduceLT, Nat.reduceLeDiff, true_and, and_true, Bool.false_eq_true, if_false, ite_true, ite_false, reduceIte, reduceCtorEq, Option.some.injEq, hi]
  rw [lcL_m (f := fun p => .str (renP n p)) (by rw [List.length_nil]; omega) fun p m => ⟨_, rfl, rfl, ?_⟩]
  · simp only [Gv, Gio, ins, List.map_cons, List.map_nil, List.length_cons, List.length_nil, Nat.sub_self, List.replicate_zero, List.append_nil, List.nil_append, List.cons_append, List.replicate_succ, Nat.reduceSub, Nat.reduceAdd, retS, retN, ret1, setS, sto, stoO, freeAt, free_dv, dv_some, dv_none, free_d, free_n, free_o, plain_dv, plain_dd, plain_n, dropS, seqS, ifS, raiS, nextS, brkS, cntS, unpS, tpG, itsOf, bindAll, optO, nmG, augS, chE, bind_ok, bind_er, out_ok, out_er, seq_nx, seq_rt, seq_er, seq_bk, seq_ct, ite_and, ite_or, ite_and2, ite_or2, ite_andB, ite_orB, cE, varE, shE, shr, bi2, un1, opE, unE, rd, List.getElem?_cons_zero, List.getElem?_cons_succ, List.set_cons_zero, List.set_cons_succ, leD, ltD, gtD, geD, cmpD, eqD_str, neD_str, eqD_int, neD_int, inD_sign, isD, isNone, ifB, caE, consA, nilA, ca1, rdAll, dAll, lenD, intF, tupF, lstF, Option.map_some, Option.map_none, Option.bind_some, addD, intD, subI, modI, divI, adI, negD, mulD, revND, revD, tupE, lstE, mtE, okTy, isStr, isLst, stripF, callE, callI, truT, tru1, tru, truD, blT, notT, andT, orT, ifE, notE, andE, orE, if_true, Bool.not_true, Bool.not_false, Bool.true_and, Bool.and_true, Bool.false_and, Bool.or_false, Bool.false_or, Bool.true_or, Bool.or_true, Bool.and_false, Bool.false_xor, Bool.true_xor, slE, noP, someP, sl1, slD, seqI, its1, optI, forS, turn, lcE, wipeS, restS, plainAt, List.getD_cons_zero, List.getD_cons_succ, List.all_cons, List.all_nil, muE, mu1, lstAt, dArgs, appF, popF, rvsF, extF, rng1I, rng2I, enI, zipI, zip2, starA, subS, decide_true, decide_false, Int.reduceLT, Int.reduceLE, Nat.reduceLT, Nat.reduceLeDiff, true_and, and_true, Bool.false_eq_true, if_false, ite_true, ite_false, reduceIte, reduceCtorEq, Option.some.injEq]
    rw [show (ps.map fun p => PyData.str (renP n p)) = (ps.map (renP n)).map .str by rw [List.map_map]; rfl]
    exact ⟨_, rfl⟩
  · unfold renP
    by_cases e : p = "#"
    · simp only [Gv, Gio, ins, List.map_cons, List.map_nil, List.length_cons, List.length_nil, Nat.sub_self, List.replicate_zero, List.append_nil, List.nil_append, List.cons_append, List.replicate_succ, Nat.reduceSub, Nat.reduceAdd, retS, retN, ret1, setS, sto, stoO, freeAt, free_dv, dv_some, dv_none, free_d, free_n, free_o, plain_dv, plain_dd, plain_n, dropS, seqS, ifS, raiS, nextS, brkS, cntS, unpS, tpG, itsOf, bindAll, optO, nmG, augS, chE, bind_ok, bind_er, out_ok, out_er, seq_nx, seq_rt, seq_er, seq_bk, seq_ct, ite_and, ite_or, ite_and2, ite_or2, ite_andB, ite_orB, cE, varE, shE, shr, bi2, un1, opE, unE, rd, List.getElem?_cons_zero, List.getElem?_cons_succ, List.set_cons_zero, List.set_cons_succ, leD, ltD, gtD, geD, cmpD, eqD_str, neD_str, eqD_int, neD_int, inD_sign, isD, isNone, ifB, caE, consA, nilA, ca1, rdAll, dAll, lenD, intF, tupF, lstF, Option.map_some, Option.map_none, Option.bind_some, addD, intD, subI, modI, divI, adI, negD, mulD, revND, revD, tupE, lstE, mtE, okTy, isStr, isLst, stripF, callE, callI, truT, tru1, tru, truD, blT, notT, andT, orT, ifE, notE, andE, orE, if_true, Bool.not_true, Bool.not_false, Bool.true_and, Bool.and_true, Bool.false_and, Bool.or_false, Bool.false_or, Bool.true_or, Bool.or_true, Bool.and_false, Bool.false_xor, Bool.true_xor, slE, noP, someP, sl1, slD, seqI, its1, optI, forS, turn, lcE, wipeS, restS, plainAt, List.getD_cons_zero, List.getD_cons_succ, List.all_cons, List.all_nil, muE, mu1, lstAt, dArgs, appF, popF, rvsF, extF, rng1I, rng2I, enI, zipI, zip2, starA, subS, decide_true, decide_false, Int.reduceLT, Int.reduceLE, Nat.reduceLT, Nat.reduceLeDiff, true_and, and_true, Bool.false_eq_true, if_false, ite_true, ite_false, reduceIte, reduceCtorEq, Option.some.injEq, e, decide_true, if_pos]
    · obtain ⟨h1, h2⟩ := h p m e
      have hz : (renS n p).length < 64 := by rw [renS_len]; exact h2
      have hl : (sortN (renS n p).cps.toList).length ≤ 16777216 := by
        rw [(sortN_perm _).length_eq, Array.length_toList]
        have : (renS n p).cps.size = (renS n p).length := rfl
        omega
      simp only [Gv, Gio, ins, List.map_cons, List.map_nil, List.length_cons, List.length_nil, Nat.sub_self, List.replicate_zero, List.append_nil, List.nil_append, List.cons_append, List.replicate_succ, Nat.reduceSub, Nat.reduceAdd, retS, retN, ret1, setS, sto, stoO, freeAt, free_dv, dv_some, dv_none, free_d, free_n, free_o, plain_dv, plain_dd, plain_n, dropS, seqS, ifS, raiS, nextS, brkS, cntS, unpS, tpG, itsOf, bindAll, optO, nmG, augS, chE, bind_ok, bind_er, out_ok, out_er, seq_nx, seq_rt, seq_er, seq_bk, seq_ct, ite_and, ite_or, ite_and2, ite_or2, ite_andB, ite_orB, cE, varE, shE, shr, bi2, un1, opE, unE, rd, List.getElem?_cons_zero, List.getElem?_cons_succ, List.set_cons_zero, List.set_cons_succ, leD, ltD, gtD, geD, cmpD, eqD_str, neD_str, eqD_int, neD_int, inD_sign, isD, isNone, ifB, caE, consA, nilA, ca1, rdAll, dAll, lenD, intF, tupF, lstF, Option.map_some, Option.map_none, Option.bind_some, addD, intD, subI, modI, divI, adI, negD, mulD, revND, revD, tupE, lstE, mtE, okTy, isStr, isLst, stripF, callE, callI, truT, tru1, tru, truD, blT, notT, andT, orT, ifE, notE, andE, orE, if_true, Bool.not_true, Bool.not_false, Bool.true_and, Bool.and_true, Bool.false_and, Bool.or_false, Bool.false_or, Bool.true_or, Bool.or_true, Bool.and_false, Bool.false_xor, Bool.true_xor, slE, noP, someP, sl1, slD, seqI, its1, optI, forS, turn, lcE, wipeS, restS, plainAt, List.getD_cons_zero, List.getD_cons_succ, List.all_cons, List.all_nil, muE, mu1, lstAt, dArgs, appF, popF, rvsF, extF, rng1I, rng2I, enI, zipI, zip2, starA, subS, decide_true, decide_false, Int.reduceLT, Int.reduceLE, Nat.reduceLT, Nat.reduceLeDiff, true_and, and_true, Bool.false_eq_true, if_false, ite_true, ite_false, reduceIte, reduceCtorEq, Option.some.injEq, e, decide_false, renamed_letters_c _ _ _ h1 (show p.length ≤ 10000 by omega), sorted_str hz, joinF_signs hl]
theorem renamed_word_c (k : Int) (w n : Str) (hw : w.length ≤ 10000) (hn : n.length < 64) (h : isWord k w = true → namesOk k n = true → RenOk (letters k) n w) (s : S) : call1 3 F_renamed_word [.d (.int k), .d (.str w), .d (.str n)] s =
    if numOk k = true then (if isWord k w = true then (if namesOk k n = true then .ok (.d (.str (renS n w))) s else bad "NotWord" s) else bad "NotWord" s) else bad "BadNumber" s := by
  cases hh0 : numOk k
  · refine call_er (ds := [.int k, .str w, .str n]) rfl ?_
    simp only [b_renamed_word, Gv, Gio, ins, List.map_cons, List.map_nil, List.length_cons, List.length_nil, Nat.sub_self, List.replicate_zero, List.append_nil, List.nil_append, List.cons_append, List.replicate_succ, Nat.reduceSub, Nat.reduceAdd, retS, retN, ret1, setS, sto, stoO, freeAt, free_dv, dv_some, dv_none, free_d, free_n, free_o, plain_dv, plain_dd, plain_n, dropS, seqS, ifS, raiS, nextS, brkS, cntS, unpS, tpG, itsOf, bindAll, optO, nmG, augS, chE, bind_ok, bind_er, bind_ite, out_ok, out_er, out_ite, seq_nx, seq_rt, seq_er, seq_bk, seq_ct, seq_ite, ite_and, ite_or, ite_and2, ite_or2, ite_andB, ite_orB, cE, varE, shE, shr, bi2, un1, opE, unE, rd, List.getElem?_cons_zero, List.getElem?_cons_succ, List.set_cons_zero, List.set_cons_succ, leD, ltD, gtD, geD, cmpD, eqD_str, neD_str, eqD_int, neD_int, inD_sign, isD, isNone, ifB, caE, consA, nilA, ca1, rdAll, dAll, lenD, intF, tupF, lstF, Option.map_some, Option.map_none, Option.bind_some, addD, intD, subI, modI, divI, adI, negD, mulD, revND, revD, tupE, lstE, mtE, okTy, isStr, isLst, stripF, callE, callI, truT, tru1, tru, truD, blT, notT, andT, orT, ifE, notE, andE, orE, if_true, Bool.not_true, Bool.not_false, Bool.true_and, Bool.and_true, Bool.false_and, Bool.or_false, Bool.false_or, Bool.true_or, Bool.or_true, Bool.and_false, Bool.false_xor, Bool.true_xor, slE, noP, someP, sl1, slD, seqI, its1, optI, forS, turn, lcE, wipeS, restS, plainAt, List.getD_cons_zero, List.getD_cons_succ, List.all_cons, List.all_nil, muE, mu1, lstAt, dArgs, appF, popF, rvsF, extF, rng1I, rng2I, enI, zipI, zip2, starA, subS, decide_true, decide_false, Int.reduceLT, Int.reduceLE, Nat.reduceLT, Nat.reduceLeDiff, true_and, and_true, Bool.false_eq_true, if_false, ite_true, ite_false, reduceIte, reduceCtorEq, Option.some.injEq, check_word_c, bad, hh0]
    exact ⟨_, rfl⟩
  cases hh1 : isWord k w
  · refine call_er (ds := [.int k, .str w, .str n]) rfl ?_
    simp only [b_renamed_word, Gv, Gio, ins, List.map_cons, List.map_nil, List.length_cons, List.length_nil, Nat.sub_self, List.replicate_zero, List.append_nil, List.nil_append, List.cons_append, List.replicate_succ, Nat.reduceSub, Nat.reduceAdd, retS, retN, ret1, setS, sto, stoO, freeAt, free_dv, dv_some, dv_none, free_d, free_n, free_o, plain_dv, plain_dd, plain_n, dropS, seqS, ifS, raiS, nextS, brkS, cntS, unpS, tpG, itsOf, bindAll, optO, nmG, augS, chE, bind_ok, bind_er, bind_ite, out_ok, out_er, out_ite, seq_nx, seq_rt, seq_er, seq_bk, seq_ct, seq_ite, ite_and, ite_or, ite_and2, ite_or2, ite_andB, ite_orB, cE, varE, shE, shr, bi2, un1, opE, unE, rd, List.getElem?_cons_zero, List.getElem?_cons_succ, List.set_cons_zero, List.set_cons_succ, leD, ltD, gtD, geD, cmpD, eqD_str, neD_str, eqD_int, neD_int, inD_sign, isD, isNone, ifB, caE, consA, nilA, ca1, rdAll, dAll, lenD, intF, tupF, lstF, Option.map_some, Option.map_none, Option.bind_some, addD, intD, subI, modI, divI, adI, negD, mulD, revND, revD, tupE, lstE, mtE, okTy, isStr, isLst, stripF, callE, callI, truT, tru1, tru, truD, blT, notT, andT, orT, ifE, notE, andE, orE, if_true, Bool.not_true, Bool.not_false, Bool.true_and, Bool.and_true, Bool.false_and, Bool.or_false, Bool.false_or, Bool.true_or, Bool.or_true, Bool.and_false, Bool.false_xor, Bool.true_xor, slE, noP, someP, sl1, slD, seqI, its1, optI, forS, turn, lcE, wipeS, restS, plainAt, List.getD_cons_zero, List.getD_cons_succ, List.all_cons, List.all_nil, muE, mu1, lstAt, dArgs, appF, popF, rvsF, extF, rng1I, rng2I, enI, zipI, zip2, starA, subS, decide_true, decide_false, Int.reduceLT, Int.reduceLE, Nat.reduceLT, Nat.reduceLeDiff, true_and, and_true, Bool.false_eq_true, if_false, ite_true, ite_false, reduceIte, reduceCtorEq, Option.some.injEq, check_word_c, bad, hh0, hh1]
    exact ⟨_, rfl⟩
  cases hh2 : namesOk k n
  · refine call_er (ds := [.int k, .str w, .str n]) rfl ?_
    simp only [b_renamed_word, Gv, Gio, ins, List.map_cons, List.map_nil, List.length_cons, List.length_nil, Nat.sub_self, List.replicate_zero, List.append_nil, List.nil_append, List.cons_append, List.replicate_succ, Nat.reduceSub, Nat.reduceAdd, retS, retN, ret1, setS, sto, stoO, freeAt, free_dv, dv_some, dv_none, free_d, free_n, free_o, plain_dv, plain_dd, plain_n, dropS, seqS, ifS, raiS, nextS, brkS, cntS, unpS, tpG, itsOf, bindAll, optO, nmG, augS, chE, bind_ok, bind_er, bind_ite, out_ok, out_er, out_ite, seq_nx, seq_rt, seq_er, seq_bk, seq_ct, seq_ite, ite_and, ite_or, ite_and2, ite_or2, ite_andB, ite_orB, cE, varE, shE, shr, bi2, un1, opE, unE, rd, List.getElem?_cons_zero, List.getElem?_cons_succ, List.set_cons_zero, List.set_cons_succ, leD, ltD, gtD, geD, cmpD, eqD_str, neD_str, eqD_int, neD_int, inD_sign, isD, isNone, ifB, caE, consA, nilA, ca1, rdAll, dAll, lenD, intF, tupF, lstF, Option.map_some, Option.map_none, Option.bind_some, addD, intD, subI, modI, divI, adI, negD, mulD, revND, revD, tupE, lstE, mtE, okTy, isStr, isLst, stripF, callE, callI, truT, tru1, tru, truD, blT, notT, andT, orT, ifE, notE, andE, orE, if_true, Bool.not_true, Bool.not_false, Bool.true_and, Bool.and_true, Bool.false_and, Bool.or_false, Bool.false_or, Bool.true_or, Bool.or_true, Bool.and_false, Bool.false_xor, Bool.true_xor, slE, noP, someP, sl1, slD, seqI, its1, optI, forS, turn, lcE, wipeS, restS, plainAt, List.getD_cons_zero, List.getD_cons_succ, List.all_cons, List.all_nil, muE, mu1, lstAt, dArgs, appF, popF, rvsF, extF, rng1I, rng2I, enI, zipI, zip2, starA, subS, decide_true, decide_false, Int.reduceLT, Int.reduceLE, Nat.reduceLT, Nat.reduceLeDiff, true_and, and_true, Bool.false_eq_true, if_false, ite_true, ite_false, reduceIte, reduceCtorEq, Option.some.injEq, check_word_c, check_names_c _ _ hn, bad, hh0, hh1, hh2]
    exact ⟨_, rfl⟩
  refine call_rt (ds := [.int k, .str w, .str n]) rfl ?_
  simp only [b_renamed_word, Gv, Gio, ins, List.map_cons, List.map_nil, List.length_cons, List.length_nil, Nat.sub_self, List.replicate_zero, List.append_nil, List.nil_append, List.cons_append, List.replicate_succ, Nat.reduceSub, Nat.reduceAdd, retS, retN, ret1, setS, sto, stoO, freeAt, free_dv, dv_some, dv_none, free_d, free_n, free_o, plain_dv, plain_dd, plain_n, dropS, seqS, ifS, raiS, nextS, brkS, cntS, unpS, tpG, itsOf, bindAll, optO, nmG, augS, chE, bind_ok, bind_er, bind_ite, out_ok, out_er, out_ite, seq_nx, seq_rt, seq_er, seq_bk, seq_ct, seq_ite, ite_and, ite_or, ite_and2, ite_or2, ite_andB, ite_orB, cE, varE, shE, shr, bi2, un1, opE, unE, rd, List.getElem?_cons_zero, List.getElem?_cons_succ, List.set_cons_zero, List.set_cons_succ, leD, ltD, gtD, geD, cmpD, eqD_str, neD_str, eqD_int, neD_int, inD_sign, isD, isNone, ifB, caE, consA, nilA, ca1, rdAll, dAll, lenD, intF, tupF, lstF, Option.map_some, Option.map_none, Option.bind_some, addD, intD, subI, modI, divI, adI, negD, mulD, revND, revD, tupE, lstE, mtE, okTy, isStr, isLst, stripF, callE, callI, truT, tru1, tru, truD, blT, notT, andT, orT, ifE, notE, andE, orE, if_true, Bool.not_true, Bool.not_false, Bool.true_and, Bool.and_true, Bool.false_and, Bool.or_false, Bool.false_or, Bool.true_or, Bool.or_true, Bool.and_false, Bool.false_xor, Bool.true_xor, slE, noP, someP, sl1, slD, seqI, its1, optI, forS, turn, lcE, wipeS, restS, plainAt, List.getD_cons_zero, List.getD_cons_succ, List.all_cons, List.all_nil, muE, mu1, lstAt, dArgs, appF, popF, rvsF, extF, rng1I, rng2I, enI, zipI, zip2, starA, subS, decide_true, decide_false, Int.reduceLT, Int.reduceLE, Nat.reduceLT, Nat.reduceLeDiff, true_and, and_true, Bool.false_eq_true, if_false, ite_true, ite_false, reduceIte, reduceCtorEq, Option.some.injEq, check_word_c, check_names_c _ _ hn, letters_of_c, renamed_letters_c _ _ _ (h hh1 hh2) hw, hh0, hh1, hh2]
  exact ⟨_, rfl⟩
theorem ren_data (R : Rl) (n : Str) : (R.ren n).data = .tuple [.str (renS n R.c), .str (renS n R.n), tupS (R.l.map (renP n)), tupS (R.r.map (renP n))] := rfl
/-- what renaming a rule asks -/
structure RenR (k : Int) (R : Rl) (n : Str) : Prop where
  hc : RenOk (letters k) n R.c ∧ R.c.length ≤ 10000
  hn : RenOk (letters k) n R.n ∧ R.n.length ≤ 10000
  hl : ∀ p ∈ R.l, p ≠ "#" → RenOk (letters k) n p ∧ p.length < 64
  hr : ∀ p ∈ R.r, p ≠ "#" → RenOk (letters k) n p ∧ p.length < 64
  ll : R.l.length ≤ 1000
  lr : R.r.length ≤ 1000
theorem renamed_c (k : Int) (R : Rl) (n : Str) (hn : n.length < 64) (h : isRule k R = true → namesOk k n = true → RenR k R n) (s : S) : call1 3 F_renamed [.d (.int k), .d R.data, .d (.str n)] s =
    if numOk k = true then (if isRule k R = true then (if namesOk k n = true then .ok (.d (R.ren n).data) s else bad "NotWord" s) else bad "NotRule" s) else bad "BadNumber" s := by
  have hd : R.data = .tuple [.str R.c, .str R.n, tupS R.l, tupS R.r] := rfl
  have h4 : (4 : Nat) ≤ 16777216 := by decide
  cases hh0 : numOk k
  · refine call_er (ds := [.int k, R.data, .str n]) rfl ?_
    simp only [b_renamed, Gv, Gio, ins, List.map_cons, List.map_nil, List.length_cons, List.length_nil, Nat.sub_self, List.replicate_zero, List.append_nil, List.nil_append, List.cons_append, List.replicate_succ, Nat.reduceSub, Nat.reduceAdd, retS, retN, ret1, setS, sto, stoO, freeAt, free_dv, dv_some, dv_none, free_d, free_n, free_o, plain_dv, plain_dd, plain_n, dropS, seqS, ifS, raiS, nextS, brkS, cntS, unpS, tpG, itsOf, bindAll, optO, nmG, augS, chE, bind_ok, bind_er, bind_ite, out_ok, out_er, out_ite, seq_nx, seq_rt, seq_er, seq_bk, seq_ct, seq_ite, ite_and, ite_or, ite_and2, ite_or2, ite_andB, ite_orB, cE, varE, shE, shr, bi2, un1, opE, unE, rd, List.getElem?_cons_zero, List.getElem?_cons_succ, List.set_cons_zero, List.set_cons_succ, leD, ltD, gtD, geD, cmpD, eqD_str, neD_str, eqD_int, neD_int, inD_sign, isD, isNone, ifB, caE, consA, nilA, ca1, rdAll, dAll, lenD, intF, tupF, lstF, Option.map_some, Option.map_none, Option.bind_some, addD, intD, subI, modI, divI, adI, negD, mulD, revND, revD, tupE, lstE, mtE, okTy, isStr, isLst, stripF, callE, callI, truT, tru1, tru, truD, blT, notT, andT, orT, ifE, notE, andE, orE, if_true, Bool.not_true, Bool.not_false, Bool.true_and, Bool.and_true, Bool.false_and, Bool.or_false, Bool.false_or, Bool.true_or, Bool.or_true, Bool.and_false, Bool.false_xor, Bool.true_xor, slE, noP, someP, sl1, slD, seqI, its1, optI, forS, turn, lcE, wipeS, restS, plainAt, List.getD_cons_zero, List.getD_cons_succ, List.all_cons, List.all_nil, muE, mu1, lstAt, dArgs, appF, popF, rvsF, extF, rng1I, rng2I, enI, zipI, zip2, starA, subS, decide_true, decide_false, Int.reduceLT, Int.reduceLE, Nat.reduceLT, Nat.reduceLeDiff, true_and, and_true, Bool.false_eq_true, if_false, ite_true, ite_false, reduceIte, reduceCtorEq, Option.some.injEq, check_rule_c, bad, hh0]
    exact ⟨_, rfl⟩
  cases hh1 : isRule k R
  · refine call_er (ds := [.int k, R.data, .str n]) rfl ?_
    simp only [b_renamed, Gv, Gio, ins, List.map_cons, List.map_nil, List.length_cons, List.length_nil, Nat.sub_self, List.replicate_zero, List.append_nil, List.nil_append, List.cons_append, List.replicate_succ, Nat.reduceSub, Nat.reduceAdd, retS, retN, ret1, setS, sto, stoO, freeAt, free_dv, dv_some, dv_none, free_d, free_n, free_o, plain_dv, plain_dd, plain_n, dropS, seqS, ifS, raiS, nextS, brkS, cntS, unpS, tpG, itsOf, bindAll, optO, nmG, augS, chE, bind_ok, bind_er, bind_ite, out_ok, out_er, out_ite, seq_nx, seq_rt, seq_er, seq_bk, seq_ct, seq_ite, ite_and, ite_or, ite_and2, ite_or2, ite_andB, ite_orB, cE, varE, shE, shr, bi2, un1, opE, unE, rd, List.getElem?_cons_zero, List.getElem?_cons_succ, List.set_cons_zero, List.set_cons_succ, leD, ltD, gtD, geD, cmpD, eqD_str, neD_str, eqD_int, neD_int, inD_sign, isD, isNone, ifB, caE, consA, nilA, ca1, rdAll, dAll, lenD, intF, tupF, lstF, Option.map_some, Option.map_none, Option.bind_some, addD, intD, subI, modI, divI, adI, negD, mulD, revND, revD, tupE, lstE, mtE, okTy, isStr, isLst, stripF, callE, callI, truT, tru1, tru, truD, blT, notT, andT, orT, ifE, notE, andE, orE, if_true, Bool.not_true, Bool.not_false, Bool.true_and, Bool.and_true, Bool.false_and, Bool.or_false, Bool.false_or, Bool.true_or, Bool.or_true, Bool.and_false, Bool.false_xor, Bool.true_xor, slE, noP, someP, sl1, slD, seqI, its1, optI, forS, turn, lcE, wipeS, restS, plainAt, List.getD_cons_zero, List.getD_cons_succ, List.all_cons, List.all_nil, muE, mu1, lstAt, dArgs, appF, popF, rvsF, extF, rng1I, rng2I, enI, zipI, zip2, starA, subS, decide_true, decide_false, Int.reduceLT, Int.reduceLE, Nat.reduceLT, Nat.reduceLeDiff, true_and, and_true, Bool.false_eq_true, if_false, ite_true, ite_false, reduceIte, reduceCtorEq, Option.some.injEq, check_rule_c, bad, hh0, hh1]
    exact ⟨_, rfl⟩
  cases hh2 : namesOk k n
  · refine call_er (ds := [.int k, R.data, .str n]) rfl ?_
    simp only [b_renamed, Gv, Gio, ins, List.map_cons, List.map_nil, List.length_cons, List.length_nil, Nat.sub_self, List.replicate_zero, List.append_nil, List.nil_append, List.cons_append, List.replicate_succ, Nat.reduceSub, Nat.reduceAdd, retS, retN, ret1, setS, sto, stoO, freeAt, free_dv, dv_some, dv_none, free_d, free_n, free_o, plain_dv, plain_dd, plain_n, dropS, seqS, ifS, raiS, nextS, brkS, cntS, unpS, tpG, itsOf, bindAll, optO, nmG, augS, chE, bind_ok, bind_er, bind_ite, out_ok, out_er, out_ite, seq_nx, seq_rt, seq_er, seq_bk, seq_ct, seq_ite, ite_and, ite_or, ite_and2, ite_or2, ite_andB, ite_orB, cE, varE, shE, shr, bi2, un1, opE, unE, rd, List.getElem?_cons_zero, List.getElem?_cons_succ, List.set_cons_zero, List.set_cons_succ, leD, ltD, gtD, geD, cmpD, eqD_str, neD_str, eqD_int, neD_int, inD_sign, isD, isNone, ifB, caE, consA, nilA, ca1, rdAll, dAll, lenD, intF, tupF, lstF, Option.map_some, Option.map_none, Option.bind_some, addD, intD, subI, modI, divI, adI, negD, mulD, revND, revD, tupE, lstE, mtE, okTy, isStr, isLst, stripF, callE, callI, truT, tru1, tru, truD, blT, notT, andT, orT, ifE, notE, andE, orE, if_true, Bool.not_true, Bool.not_false, Bool.true_and, Bool.and_true, Bool.false_and, Bool.or_false, Bool.false_or, Bool.true_or, Bool.or_true, Bool.and_false, Bool.false_xor, Bool.true_xor, slE, noP, someP, sl1, slD, seqI, its1, optI, forS, turn, lcE, wipeS, restS, plainAt, List.getD_cons_zero, List.getD_cons_succ, List.all_cons, List.all_nil, muE, mu1, lstAt, dArgs, appF, popF, rvsF, extF, rng1I, rng2I, enI, zipI, zip2, starA, subS, decide_true, decide_false, Int.reduceLT, Int.reduceLE, Nat.reduceLT, Nat.reduceLeDiff, true_and, and_true, Bool.false_eq_true, if_false, ite_true, ite_false, reduceIte, reduceCtorEq, Option.some.injEq, check_rule_c, check_names_c _ _ hn, bad, hh0, hh1, hh2]
    exact ⟨_, rfl⟩
  have hr := h hh1 hh2
  refine call_rt (ds := [.int k, R.data, .str n]) rfl ?_
  simp only [b_renamed, Gv, Gio, ins, List.map_cons, List.map_nil, List.length_cons, List.length_nil, Nat.sub_self, List.replicate_zero, List.append_nil, List.nil_append, List.cons_append, List.replicate_succ, Nat.reduceSub, Nat.reduceAdd, retS, retN, ret1, setS, sto, stoO, freeAt, free_dv, dv_some, dv_none, free_d, free_n, free_o, plain_dv, plain_dd, plain_n, dropS, seqS, ifS, raiS, nextS, brkS, cntS, unpS, tpG, itsOf, bindAll, optO, nmG, augS, chE, bind_ok, bind_er, out_ok, out_er, seq_nx, seq_rt, seq_er, seq_bk, seq_ct, ite_and, ite_or, ite_and2, ite_or2, ite_andB, ite_orB, cE, varE, shE, shr, bi2, un1, opE, unE, rd, List.getElem?_cons_zero, List.getElem?_cons_succ, List.set_cons_zero, List.set_cons_succ, leD, ltD, gtD, geD, cmpD, eqD_str, neD_str, eqD_int, neD_int, inD_sign, isD, isNone, ifB, caE, consA, nilA, ca1, rdAll, dAll, lenD, intF, tupF, lstF, Option.map_some, Option.map_none, Option.bind_some, addD, intD, subI, modI, divI, adI, negD, mulD, revND, revD, tupE, lstE, mtE, okTy, isStr, isLst, stripF, callE, callI, truT, tru1, tru, truD, blT, notT, andT, orT, ifE, notE, andE, orE, if_true, Bool.not_true, Bool.not_false, Bool.true_and, Bool.and_true, Bool.false_and, Bool.or_false, Bool.false_or, Bool.true_or, Bool.or_true, Bool.and_false, Bool.false_xor, Bool.true_xor, slE, noP, someP, sl1, slD, seqI, its1, optI, forS, turn, lcE, wipeS, restS, plainAt, List.getD_cons_zero, List.getD_cons_succ, List.all_cons, List.all_nil, muE, mu1, lstAt, dArgs, appF, popF, rvsF, extF, rng1I, rng2I, enI, zipI, zip2, starA, subS, decide_true, decide_false, Int.reduceLT, Int.reduceLE, Nat.reduceLT, Nat.reduceLeDiff, true_and, and_true, Bool.false_eq_true, if_false, ite_true, ite_false, reduceIte, reduceCtorEq, Option.some.injEq, check_rule_c, check_names_c _ _ hn, letters_of_c, hh0, hh1, hh2]
  simp only [hd, Gv, Gio, ins, List.map_cons, List.map_nil, List.length_cons, List.length_nil, Nat.sub_self, List.replicate_zero, List.append_nil, List.nil_append, List.cons_append, List.replicate_succ, Nat.reduceSub, Nat.reduceAdd, retS, retN, ret1, setS, sto, stoO, freeAt, free_dv, dv_some, dv_none, free_d, free_n, free_o, plain_dv, plain_dd, plain_n, dropS, seqS, ifS, raiS, nextS, brkS, cntS, unpS, tpG, itsOf, bindAll, optO, nmG, augS, chE, bind_ok, bind_er, out_ok, out_er, seq_nx, seq_rt, seq_er, seq_bk, seq_ct, ite_and, ite_or, ite_and2, ite_or2, ite_andB, ite_orB, cE, varE, shE, shr, bi2, un1, opE, unE, rd, List.getElem?_cons_zero, List.getElem?_cons_succ, List.set_cons_zero, List.set_cons_succ, leD, ltD, gtD, geD, cmpD, eqD_str, neD_str, eqD_int, neD_int, inD_sign, isD, isNone, ifB, caE, consA, nilA, ca1, rdAll, dAll, lenD, intF, tupF, lstF, Option.map_some, Option.map_none, Option.bind_some, addD, intD, subI, modI, divI, adI, negD, mulD, revND, revD, tupE, lstE, mtE, okTy, isStr, isLst, stripF, callE, callI, truT, tru1, tru, truD, blT, notT, andT, orT, ifE, notE, andE, orE, if_true, Bool.not_true, Bool.not_false, Bool.true_and, Bool.and_true, Bool.false_and, Bool.or_false, Bool.false_or, Bool.true_or, Bool.or_true, Bool.and_false, Bool.false_xor, Bool.true_xor, slE, noP, someP, sl1, slD, seqI, its1, optI, forS, turn, lcE, wipeS, restS, plainAt, List.getD_cons_zero, List.getD_cons_succ, List.all_cons, List.all_nil, muE, mu1, lstAt, dArgs, appF, popF, rvsF, extF, rng1I, rng2I, enI, zipI, zip2, starA, subS, decide_true, decide_false, Int.reduceLT, Int.reduceLE, Nat.reduceLT, Nat.reduceLeDiff, true_and, and_true, Bool.false_eq_true, if_false, ite_true, ite_false, reduceIte, reduceCtorEq, Option.some.injEq, h4, renamed_letters_c _ _ _ hr.hc.1 hr.hc.2, renamed_letters_c _ _ _ hr.hn.1 hr.hn.2, renamed_places_c _ _ _ hr.hl hr.ll, renamed_places_c _ _ _ hr.hr hr.lr, ren_data]
  exact ⟨_, rfl⟩
theorem check_list_c (k : Int) (Rs : List Rl) (w : Str) (hr : Rs.length ≤ 16777216) (s : S) : call1 3 F_check_list [.d (.int k), .d (rulesD Rs), .d (.str w)] s =
    if numOk k = true then (if areRules k Rs = true then (if isWord k w = true then .ok (.d .none) s else bad "NotWord" s) else bad "NotRule" s) else bad "BadNumber" s := by
  cases hh0 : numOk k
  · refine call_er (ds := [.int k, rulesD Rs, .str w]) rfl ?_
    simp only [b_check_list, Gv, Gio, ins, List.map_cons, List.map_nil, List.length_cons, List.length_nil, Nat.sub_self, List.replicate_zero, List.append_nil, List.nil_append, List.cons_append, List.replicate_succ, Nat.reduceSub, Nat.reduceAdd, retS, retN, ret1, setS, sto, stoO, freeAt, free_dv, dv_some, dv_none, free_d, free_n, free_o, plain_dv, plain_dd, plain_n, dropS, seqS, ifS, raiS, nextS, brkS, cntS, unpS, tpG, itsOf, bindAll, optO, nmG, augS, chE, bind_ok, bind_er, bind_ite, out_ok, out_er, out_ite, seq_nx, seq_rt, seq_er, seq_bk, seq_ct, seq_ite, ite_and, ite_or, ite_and2, ite_or2, ite_andB, ite_orB, cE, varE, shE, shr, bi2, un1, opE, unE, rd, List.getElem?_cons_zero, List.getElem?_cons_succ, List.set_cons_zero, List.set_cons_succ, leD, ltD, gtD, geD, cmpD, eqD_str, neD_str, eqD_int, neD_int, inD_sign, isD, isNone, ifB, caE, consA, nilA, ca1, rdAll, dAll, lenD, intF, tupF, lstF, Option.map_some, Option.map_none, Option.bind_some, addD, intD, subI, modI, divI, adI, negD, mulD, revND, revD, tupE, lstE, mtE, okTy, isStr, isLst, stripF, callE, callI, truT, tru1, tru, truD, blT, notT, andT, orT, ifE, notE, andE, orE, if_true, Bool.not_true, Bool.not_false, Bool.true_and, Bool.and_true, Bool.false_and, Bool.or_false, Bool.false_or, Bool.true_or, Bool.or_true, Bool.and_false, Bool.false_xor, Bool.true_xor, slE, noP, someP, sl1, slD, seqI, its1, optI, forS, turn, lcE, wipeS, restS, plainAt, List.getD_cons_zero, List.getD_cons_succ, List.all_cons, List.all_nil, muE, mu1, lstAt, dArgs, appF, popF, rvsF, extF, rng1I, rng2I, enI, zipI, zip2, starA, subS, decide_true, decide_false, Int.reduceLT, Int.reduceLE, Nat.reduceLT, Nat.reduceLeDiff, true_and, and_true, Bool.false_eq_true, if_false, ite_true, ite_false, reduceIte, reduceCtorEq, Option.some.injEq, check_rules_c _ _ hr, check_word_c, bad, hh0]
    exact ⟨_, rfl⟩
  · skip
    cases hh1 : areRules k Rs
    · refine call_er (ds := [.int k, rulesD Rs, .str w]) rfl ?_
      simp only [b_check_list, Gv, Gio, ins, List.map_cons, List.map_nil, List.length_cons, List.length_nil, Nat.sub_self, List.replicate_zero, List.append_nil, List.nil_append, List.cons_append, List.replicate_succ, Nat.reduceSub, Nat.reduceAdd, retS, retN, ret1, setS, sto, stoO, freeAt, free_dv, dv_some, dv_none, free_d, free_n, free_o, plain_dv, plain_dd, plain_n, dropS, seqS, ifS, raiS, nextS, brkS, cntS, unpS, tpG, itsOf, bindAll, optO, nmG, augS, chE, bind_ok, bind_er, bind_ite, out_ok, out_er, out_ite, seq_nx, seq_rt, seq_er, seq_bk, seq_ct, seq_ite, ite_and, ite_or, ite_and2, ite_or2, ite_andB, ite_orB, cE, varE, shE, shr, bi2, un1, opE, unE, rd, List.getElem?_cons_zero, List.getElem?_cons_succ, List.set_cons_zero, List.set_cons_succ, leD, ltD, gtD, geD, cmpD, eqD_str, neD_str, eqD_int, neD_int, inD_sign, isD, isNone, ifB, caE, consA, nilA, ca1, rdAll, dAll, lenD, intF, tupF, lstF, Option.map_some, Option.map_none, Option.bind_some, addD, intD, subI, modI, divI, adI, negD, mulD, revND, revD, tupE, lstE, mtE, okTy, isStr, isLst, stripF, callE, callI, truT, tru1, tru, truD, blT, notT, andT, orT, ifE, notE, andE, orE, if_true, Bool.not_true, Bool.not_false, Bool.true_and, Bool.and_true, Bool.false_and, Bool.or_false, Bool.false_or, Bool.true_or, Bool.or_true, Bool.and_false, Bool.false_xor, Bool.true_xor, slE, noP, someP, sl1, slD, seqI, its1, optI, forS, turn, lcE, wipeS, restS, plainAt, List.getD_cons_zero, List.getD_cons_succ, List.all_cons, List.all_nil, muE, mu1, lstAt, dArgs, appF, popF, rvsF, extF, rng1I, rng2I, enI, zipI, zip2, starA, subS, decide_true, decide_false, Int.reduceLT, Int.reduceLE, Nat.reduceLT, Nat.reduceLeDiff, true_and, and_true, Bool.false_eq_true, if_false, ite_true, ite_false, reduceIte, reduceCtorEq, Option.some.injEq, check_rules_c _ _ hr, check_word_c, bad, hh0, hh1]
      exact ⟨_, rfl⟩
    · skip
      cases hh2 : isWord k w
      · refine call_er (ds := [.int k, rulesD Rs, .str w]) rfl ?_
        simp only [b_check_list, Gv, Gio, ins, List.map_cons, List.map_nil, List.length_cons, List.length_nil, Nat.sub_self, List.replicate_zero, List.append_nil, List.nil_append, List.cons_append, List.replicate_succ, Nat.reduceSub, Nat.reduceAdd, retS, retN, ret1, setS, sto, stoO, freeAt, free_dv, dv_some, dv_none, free_d, free_n, free_o, plain_dv, plain_dd, plain_n, dropS, seqS, ifS, raiS, nextS, brkS, cntS, unpS, tpG, itsOf, bindAll, optO, nmG, augS, chE, bind_ok, bind_er, bind_ite, out_ok, out_er, out_ite, seq_nx, seq_rt, seq_er, seq_bk, seq_ct, seq_ite, ite_and, ite_or, ite_and2, ite_or2, ite_andB, ite_orB, cE, varE, shE, shr, bi2, un1, opE, unE, rd, List.getElem?_cons_zero, List.getElem?_cons_succ, List.set_cons_zero, List.set_cons_succ, leD, ltD, gtD, geD, cmpD, eqD_str, neD_str, eqD_int, neD_int, inD_sign, isD, isNone, ifB, caE, consA, nilA, ca1, rdAll, dAll, lenD, intF, tupF, lstF, Option.map_some, Option.map_none, Option.bind_some, addD, intD, subI, modI, divI, adI, negD, mulD, revND, revD, tupE, lstE, mtE, okTy, isStr, isLst, stripF, callE, callI, truT, tru1, tru, truD, blT, notT, andT, orT, ifE, notE, andE, orE, if_true, Bool.not_true, Bool.not_false, Bool.true_and, Bool.and_true, Bool.false_and, Bool.or_false, Bool.false_or, Bool.true_or, Bool.or_true, Bool.and_false, Bool.false_xor, Bool.true_xor, slE, noP, someP, sl1, slD, seqI, its1, optI, forS, turn, lcE, wipeS, restS, plainAt, List.getD_cons_zero, List.getD_cons_succ, List.all_cons, List.all_nil, muE, mu1, lstAt, dArgs, appF, popF, rvsF, extF, rng1I, rng2I, enI, zipI, zip2, starA, subS, decide_true, decide_false, Int.reduceLT, Int.reduceLE, Nat.reduceLT, Nat.reduceLeDiff, true_and, and_true, Bool.false_eq_true, if_false, ite_true, ite_false, reduceIte, reduceCtorEq, Option.some.injEq, check_rules_c _ _ hr, check_word_c, bad, hh0, hh1, hh2]
        exact ⟨_, rfl⟩
      · skip
        refine call_nx (ds := [.int k, rulesD Rs, .str w]) rfl ?_
        simp only [b_check_list, Gv, Gio, ins, List.map_cons, List.map_nil, List.length_cons, List.length_nil, Nat.sub_self, List.replicate_zero, List.append_nil, List.nil_append, List.cons_append, List.replicate_succ, Nat.reduceSub, Nat.reduceAdd, retS, retN, ret1, setS, sto, stoO, freeAt, free_dv, dv_some, dv_none, free_d, free_n, free_o, plain_dv, plain_dd, plain_n, dropS, seqS, ifS, raiS, nextS, brkS, cntS, unpS, tpG, itsOf, bindAll, optO, nmG, augS, chE, bind_ok, bind_er, bind_ite, out_ok, out_er, out_ite, seq_nx, seq_rt, seq_er, seq_bk, seq_ct, seq_ite, ite_and, ite_or, ite_and2, ite_or2, ite_andB, ite_orB, cE, varE, shE, shr, bi2, un1, opE, unE, rd, List.getElem?_cons_zero, List.getElem?_cons_succ, List.set_cons_zero, List.set_cons_succ, leD, ltD, gtD, geD, cmpD, eqD_str, neD_str, eqD_int, neD_int, inD_sign, isD, isNone, ifB, caE, consA, nilA, ca1, rdAll, dAll, lenD, intF, tupF, lstF, Option.map_some, Option.map_none, Option.bind_some, addD, intD, subI, modI, divI, adI, negD, mulD, revND, revD, tupE, lstE, mtE, okTy, isStr, isLst, stripF, callE, callI, truT, tru1, tru, truD, blT, notT, andT, orT, ifE, notE, andE, orE, if_true, Bool.not_true, Bool.not_false, Bool.true_and, Bool.and_true, Bool.false_and, Bool.or_false, Bool.false_or, Bool.true_or, Bool.or_true, Bool.and_false, Bool.false_xor, Bool.true_xor, slE, noP, someP, sl1, slD, seqI, its1, optI, forS, turn, lcE, wipeS, restS, plainAt, List.getD_cons_zero, List.getD_cons_succ, List.all_cons, List.all_nil, muE, mu1, lstAt, dArgs, appF, popF, rvsF, extF, rng1I, rng2I, enI, zipI, zip2, starA, subS, decide_true, decide_false, Int.reduceLT, Int.reduceLE, Nat.reduceLT, Nat.reduceLeDiff, true_and, and_true, Bool.false_eq_true, if_false, ite_true, ite_false, reduceIte, reduceCtorEq, Option.some.injEq, check_rules_c _ _ hr, check_word_c, hh0, hh1, hh2]
        exact ⟨_, rfl⟩
theorem check_made_c (w : Str) (s : S) : call1 1 F_check_made [.d (.str w)] s = if decide (2000 < w.length) = true then bad "TooLarge" s else .ok (.d .none) s := by
  by_cases h : 2000 < w.length
  · have h' : decide ((2000 : Int) < ((w.length : Nat) : Int)) = true := decide_eq_true (by omega)
    have e : call1 1 F_check_made [.d (.str w)] s = bad "TooLarge" s := by
      refine call_er (ds := [.str w]) rfl ?_
      simp only [b_check_made, Gv, Gio, ins, List.map_cons, List.map_nil, List.length_cons, List.length_nil, Nat.sub_self, List.replicate_zero, List.append_nil, List.nil_append, List.cons_append, List.replicate_succ, Nat.reduceSub, Nat.reduceAdd, retS, retN, ret1, setS, sto, stoO, freeAt, free_dv, dv_some, dv_none, free_d, free_n, free_o, plain_dv, plain_dd, plain_n, dropS, seqS, ifS, raiS, nextS, brkS, cntS, unpS, tpG, itsOf, bindAll, optO, nmG, augS, chE, bind_ok, bind_er, bind_ite, out_ok, out_er, out_ite, seq_nx, seq_rt, seq_er, seq_bk, seq_ct, seq_ite, ite_and, ite_or, ite_and2, ite_or2, ite_andB, ite_orB, cE, varE, shE, shr, bi2, un1, opE, unE, rd, List.getElem?_cons_zero, List.getElem?_cons_succ, List.set_cons_zero, List.set_cons_succ, leD, ltD, gtD, geD, cmpD, eqD_str, neD_str, eqD_int, neD_int, inD_sign, isD, isNone, ifB, caE, consA, nilA, ca1, rdAll, dAll, lenD, intF, tupF, lstF, Option.map_some, Option.map_none, Option.bind_some, addD, intD, subI, modI, divI, adI, negD, mulD, revND, revD, tupE, lstE, mtE, okTy, isStr, isLst, stripF, callE, callI, truT, tru1, tru, truD, blT, notT, andT, orT, ifE, notE, andE, orE, if_true, Bool.not_true, Bool.not_false, Bool.true_and, Bool.and_true, Bool.false_and, Bool.or_false, Bool.false_or, Bool.true_or, Bool.or_true, Bool.and_false, Bool.false_xor, Bool.true_xor, slE, noP, someP, sl1, slD, seqI, its1, optI, forS, turn, lcE, wipeS, restS, plainAt, List.getD_cons_zero, List.getD_cons_succ, List.all_cons, List.all_nil, muE, mu1, lstAt, dArgs, appF, popF, rvsF, extF, rng1I, rng2I, enI, zipI, zip2, starA, subS, decide_true, decide_false, Int.reduceLT, Int.reduceLE, Nat.reduceLT, Nat.reduceLeDiff, true_and, and_true, Bool.false_eq_true, if_false, ite_true, ite_false, reduceIte, reduceCtorEq, Option.some.injEq, h']
      exact ⟨_, rfl⟩
    rw [e, decide_eq_true h, if_pos rfl]
  · have h' : decide ((2000 : Int) < ((w.length : Nat) : Int)) = false := decide_eq_false (by omega)
    have e : call1 1 F_check_made [.d (.str w)] s = .ok (.d .none) s := by
      refine call_nx (ds := [.str w]) rfl ?_
      simp only [b_check_made, Gv, Gio, ins, List.map_cons, List.map_nil, List.length_cons, List.length_nil, Nat.sub_self, List.replicate_zero, List.append_nil, List.nil_append, List.cons_append, List.replicate_succ, Nat.reduceSub, Nat.reduceAdd, retS, retN, ret1, setS, sto, stoO, freeAt, free_dv, dv_some, dv_none, free_d, free_n, free_o, plain_dv, plain_dd, plain_n, dropS, seqS, ifS, raiS, nextS, brkS, cntS, unpS, tpG, itsOf, bindAll, optO, nmG, augS, chE, bind_ok, bind_er, bind_ite, out_ok, out_er, out_ite, seq_nx, seq_rt, seq_er, seq_bk, seq_ct, seq_ite, ite_and, ite_or, ite_and2, ite_or2, ite_andB, ite_orB, cE, varE, shE, shr, bi2, un1, opE, unE, rd, List.getElem?_cons_zero, List.getElem?_cons_succ, List.set_cons_zero, List.set_cons_succ, leD, ltD, gtD, geD, cmpD, eqD_str, neD_str, eqD_int, neD_int, inD_sign, isD, isNone, ifB, caE, consA, nilA, ca1, rdAll, dAll, lenD, intF, tupF, lstF, Option.map_some, Option.map_none, Option.bind_some, addD, intD, subI, modI, divI, adI, negD, mulD, revND, revD, tupE, lstE, mtE, okTy, isStr, isLst, stripF, callE, callI, truT, tru1, tru, truD, blT, notT, andT, orT, ifE, notE, andE, orE, if_true, Bool.not_true, Bool.not_false, Bool.true_and, Bool.and_true, Bool.false_and, Bool.or_false, Bool.false_or, Bool.true_or, Bool.or_true, Bool.and_false, Bool.false_xor, Bool.true_xor, slE, noP, someP, sl1, slD, seqI, its1, optI, forS, turn, lcE, wipeS, restS, plainAt, List.getD_cons_zero, List.getD_cons_succ, List.all_cons, List.all_nil, muE, mu1, lstAt, dArgs, appF, popF, rvsF, extF, rng1I, rng2I, enI, zipI, zip2, starA, subS, decide_true, decide_false, Int.reduceLT, Int.reduceLE, Nat.reduceLT, Nat.reduceLeDiff, true_and, and_true, Bool.false_eq_true, if_false, ite_true, ite_false, reduceIte, reduceCtorEq, Option.some.injEq, h']
      exact ⟨_, rfl⟩
    rw [e, decide_eq_false h, if_neg Bool.false_ne_true]
end M

set_option Elab.async false
set_option linter.all false
set_option maxRecDepth 100000
set_option maxHeartbeats 4000000
/-! Lists of rules at work. -/
namespace M
open PySem PySem.Spec L2 Sv

/-- texts of a bounded size -/
def SmallN (Rs : List Rl) : Prop := ∀ R ∈ Rs, R.n.length ≤ 1000
theorem steps_loop (Rs0 : D) : ∀ (Rs : List Rl) (w : Str) (acc : List D) (x : Option D), SmallN Rs → w.length ≤ 10000 → acc.length + Rs.length ≤ 16777216 → ∃ s', (big Rs w = true → forL (nmG 3) b_steps_1 (Rs.map Rl.data) [some (.d Rs0), some (.d (.str w)), some (.o true (.L acc)), dv x] = .er ⟨"TooLarge", none⟩ s') ∧
    (big Rs w = false → ∃ y, forL (nmG 3) b_steps_1 (Rs.map Rl.data) [some (.d Rs0), some (.d (.str w)), some (.o true (.L acc)), dv x] = .nx [some (.d Rs0), some (.d (.str (formOf Rs w))), some (.o true (.L (acc ++ ((stepsOf Rs w).drop 1).map .str))), dv y])
  | [], w, acc, x, _, _, _ => ⟨[], fun h => (nomatch h), fun _ => ⟨x, by
      show Out.nx _ = _
      rw [show (stepsOf [] w).drop 1 = [] from rfl, List.map_nil, List.append_nil]
      rfl⟩⟩
  | R :: Rs, w, acc, x, hs, hw, hl => by
    rw [List.length_cons] at hl
    have h1 := joinF_jn (change_le (hs R List.mem_cons_self) hw)
    have ht : turn (nmG 3) b_steps_1 R.data [some (.d Rs0), some (.d (.str w)), some (.o true (.L acc)), dv x] = if decide (2000 < (change R w).length) = true then .er ⟨"TooLarge", none⟩ [some (.d Rs0), some (.d (.str (change R w))), some (.o true (.L acc)), some (.d R.data)] else .nx [some (.d Rs0), some (.d (.str (change R w))), some (.o true (.L (acc ++ [.str (change R w)]))), some (.d R.data)] := by
      have hc : acc.length < 16777216 := by omega
      cases hd : decide (2000 < (change R w).length)
      · simp only [b_steps_1, Gv, Gio, ins, List.map_cons, List.map_nil, List.length_cons, List.length_nil, Nat.sub_self, List.replicate_zero, List.append_nil, List.nil_append, List.cons_append, List.replicate_succ, Nat.reduceSub, Nat.reduceAdd, retS, retN, ret1, setS, sto, stoO, freeAt, free_dv, dv_some, dv_none, free_d, free_n, free_o, plain_dv, plain_dd, plain_n, dropS, seqS, ifS, raiS, nextS, brkS, cntS, unpS, tpG, itsOf, bindAll, optO, nmG, augS, chE, bind_ok, bind_er, bind_ite, out_ok, out_er, out_ite, seq_nx, seq_rt, seq_er, seq_bk, seq_ct, seq_ite, ite_and, ite_or, ite_and2, ite_or2, ite_andB, ite_orB, cE, varE, shE, shr, bi2, un1, opE, unE, rd, List.getElem?_cons_zero, List.getElem?_cons_succ, List.set_cons_zero, List.set_cons_succ, leD, ltD, gtD, geD, cmpD, eqD_str, neD_str, eqD_int, neD_int, inD_sign, isD, isNone, ifB, caE, consA, nilA, ca1, rdAll, dAll, lenD, intF, tupF, lstF, Option.map_some, Option.map_none, Option.bind_some, addD, intD, subI, modI, divI, adI, negD, mulD, revND, revD, tupE, lstE, mtE, okTy, isStr, isLst, stripF, callE, callI, truT, tru1, tru, truD, blT, notT, andT, orT, ifE, notE, andE, orE, if_true, Bool.not_true, Bool.not_false, Bool.true_and, Bool.and_true, Bool.false_and, Bool.or_false, Bool.false_or, Bool.true_or, Bool.or_true, Bool.and_false, Bool.false_xor, Bool.true_xor, slE, noP, someP, sl1, slD, seqI, its1, optI, forS, turn, lcE, wipeS, restS, plainAt, List.getD_cons_zero, List.getD_cons_succ, List.all_cons, List.all_nil, muE, mu1, lstAt, dArgs, appF, popF, rvsF, extF, rng1I, rng2I, enI, zipI, zip2, starA, subS, decide_true, decide_false, Int.reduceLT, Int.reduceLE, Nat.reduceLT, Nat.reduceLeDiff, true_and, and_true, Bool.false_eq_true, if_false, ite_true, ite_false, reduceIte, reduceCtorEq, Option.some.injEq, parts_of_c _ _ (show w.length ≤ 16777216 by omega), h1]
        rw [show jn (parts R w) = change R w from rfl]
        simp only [check_made_c, hd, Gv, Gio, ins, List.map_cons, List.map_nil, List.length_cons, List.length_nil, Nat.sub_self, List.replicate_zero, List.append_nil, List.nil_append, List.cons_append, List.replicate_succ, Nat.reduceSub, Nat.reduceAdd, retS, retN, ret1, setS, sto, stoO, freeAt, free_dv, dv_some, dv_none, free_d, free_n, free_o, plain_dv, plain_dd, plain_n, dropS, seqS, ifS, raiS, nextS, brkS, cntS, unpS, tpG, itsOf, bindAll, optO, nmG, augS, chE, bind_ok, bind_er, bind_ite, out_ok, out_er, out_ite, seq_nx, seq_rt, seq_er, seq_bk, seq_ct, seq_ite, ite_and, ite_or, ite_and2, ite_or2, ite_andB, ite_orB, cE, varE, shE, shr, bi2, un1, opE, unE, rd, List.getElem?_cons_zero, List.getElem?_cons_succ, List.set_cons_zero, List.set_cons_succ, leD, ltD, gtD, geD, cmpD, eqD_str, neD_str, eqD_int, neD_int, inD_sign, isD, isNone, ifB, caE, consA, nilA, ca1, rdAll, dAll, lenD, intF, tupF, lstF, Option.map_some, Option.map_none, Option.bind_some, addD, intD, subI, modI, divI, adI, negD, mulD, revND, revD, tupE, lstE, mtE, okTy, isStr, isLst, stripF, callE, callI, truT, tru1, tru, truD, blT, notT, andT, orT, ifE, notE, andE, orE, if_true, Bool.not_true, Bool.not_false, Bool.true_and, Bool.and_true, Bool.false_and, Bool.or_false, Bool.false_or, Bool.true_or, Bool.or_true, Bool.and_false, Bool.false_xor, Bool.true_xor, slE, noP, someP, sl1, slD, seqI, its1, optI, forS, turn, lcE, wipeS, restS, plainAt, List.getD_cons_zero, List.getD_cons_succ, List.all_cons, List.all_nil, muE, mu1, lstAt, dArgs, appF, popF, rvsF, extF, rng1I, rng2I, enI, zipI, zip2, starA, subS, decide_true, decide_false, Int.reduceLT, Int.reduceLE, Nat.reduceLT, Nat.reduceLeDiff, true_and, and_true, Bool.false_eq_true, if_false, ite_true, ite_false, reduceIte, reduceCtorEq, Option.some.injEq, hc]
      · simp only [b_steps_1, Gv, Gio, ins, List.map_cons, List.map_nil, List.length_cons, List.length_nil, Nat.sub_self, List.replicate_zero, List.append_nil, List.nil_append, List.cons_append, List.replicate_succ, Nat.reduceSub, Nat.reduceAdd, retS, retN, ret1, setS, sto, stoO, freeAt, free_dv, dv_some, dv_none, free_d, free_n, free_o, plain_dv, plain_dd, plain_n, dropS, seqS, ifS, raiS, nextS, brkS, cntS, unpS, tpG, itsOf, bindAll, optO, nmG, augS, chE, bind_ok, bind_er, bind_ite, out_ok, out_er, out_ite, seq_nx, seq_rt, seq_er, seq_bk, seq_ct, seq_ite, ite_and, ite_or, ite_and2, ite_or2, ite_andB, ite_orB, cE, varE, shE, shr, bi2, un1, opE, unE, rd, List.getElem?_cons_zero, List.getElem?_cons_succ, List.set_cons_zero, List.set_cons_succ, leD, ltD, gtD, geD, cmpD, eqD_str, neD_str, eqD_int, neD_int, inD_sign, isD, isNone, ifB, caE, consA, nilA, ca1, rdAll, dAll, lenD, intF, tupF, lstF, Option.map_some, Option.map_none, Option.bind_some, addD, intD, subI, modI, divI, adI, negD, mulD, revND, revD, tupE, lstE, mtE, okTy, isStr, isLst, stripF, callE, callI, truT, tru1, tru, truD, blT, notT, andT, orT, ifE, notE, andE, orE, if_true, Bool.not_true, Bool.not_false, Bool.true_and, Bool.and_true, Bool.false_and, Bool.or_false, Bool.false_or, Bool.true_or, Bool.or_true, Bool.and_false, Bool.false_xor, Bool.true_xor, slE, noP, someP, sl1, slD, seqI, its1, optI, forS, turn, lcE, wipeS, restS, plainAt, List.getD_cons_zero, List.getD_cons_succ, List.all_cons, List.all_nil, muE, mu1, lstAt, dArgs, appF, popF, rvsF, extF, rng1I, rng2I, enI, zipI, zip2, starA, subS, decide_true, decide_false, Int.reduceLT, Int.reduceLE, Nat.reduceLT, Nat.reduceLeDiff, true_and, and_true, Bool.false_eq_true, if_false, ite_true, ite_false, reduceIte, reduceCtorEq, Option.some.injEq, parts_of_c _ _ (show w.length ≤ 16777216 by omega), h1]
        rw [show jn (parts R w) = change R w from rfl]
        simp only [check_made_c, hd, Gv, Gio, ins, List.map_cons, List.map_nil, List.length_cons, List.length_nil, Nat.sub_self, List.replicate_zero, List.append_nil, List.nil_append, List.cons_append, List.replicate_succ, Nat.reduceSub, Nat.reduceAdd, retS, retN, ret1, setS, sto, stoO, freeAt, free_dv, dv_some, dv_none, free_d, free_n, free_o, plain_dv, plain_dd, plain_n, dropS, seqS, ifS, raiS, nextS, brkS, cntS, unpS, tpG, itsOf, bindAll, optO, nmG, augS, chE, bind_ok, bind_er, bind_ite, out_ok, out_er, out_ite, seq_nx, seq_rt, seq_er, seq_bk, seq_ct, seq_ite, ite_and, ite_or, ite_and2, ite_or2, ite_andB, ite_orB, cE, varE, shE, shr, bi2, un1, opE, unE, rd, List.getElem?_cons_zero, List.getElem?_cons_succ, List.set_cons_zero, List.set_cons_succ, leD, ltD, gtD, geD, cmpD, eqD_str, neD_str, eqD_int, neD_int, inD_sign, isD, isNone, ifB, caE, consA, nilA, ca1, rdAll, dAll, lenD, intF, tupF, lstF, Option.map_some, Option.map_none, Option.bind_some, addD, intD, subI, modI, divI, adI, negD, mulD, revND, revD, tupE, lstE, mtE, okTy, isStr, isLst, stripF, callE, callI, truT, tru1, tru, truD, blT, notT, andT, orT, ifE, notE, andE, orE, if_true, Bool.not_true, Bool.not_false, Bool.true_and, Bool.and_true, Bool.false_and, Bool.or_false, Bool.false_or, Bool.true_or, Bool.or_true, Bool.and_false, Bool.false_xor, Bool.true_xor, slE, noP, someP, sl1, slD, seqI, its1, optI, forS, turn, lcE, wipeS, restS, plainAt, List.getD_cons_zero, List.getD_cons_succ, List.all_cons, List.all_nil, muE, mu1, lstAt, dArgs, appF, popF, rvsF, extF, rng1I, rng2I, enI, zipI, zip2, starA, subS, decide_true, decide_false, Int.reduceLT, Int.reduceLE, Nat.reduceLT, Nat.reduceLeDiff, true_and, and_true, Bool.false_eq_true, if_false, ite_true, ite_false, reduceIte, reduceCtorEq, Option.some.injEq, bad]
    rw [List.map_cons, forL_cons, ht]
    cases hb : decide (2000 < (change R w).length) with
    | true =>
      refine ⟨[some (.d Rs0), some (.d (.str (change R w))), some (.o true (.L acc)), some (.d R.data)], fun _ => rfl, fun h => ?_⟩
      have : (decide (2000 < (change R w).length) || big Rs (change R w)) = false := h
      rw [hb] at this
      cases this
    | false =>
      have hw2 : (change R w).length ≤ 10000 := by have := of_decide_eq_false hb; omega
      obtain ⟨s', a1, a2⟩ := steps_loop Rs0 Rs (change R w) (acc ++ [.str (change R w)]) (some R.data) (fun S m => hs S (List.mem_cons_of_mem _ m)) hw2 (by rw [List.length_append]; show acc.length + 1 + _ ≤ _; omega)
      have eb : big (R :: Rs) w = big Rs (change R w) := by
        show (decide (2000 < (change R w).length) || big Rs (change R w)) = _
        rw [hb, Bool.false_or]
      rw [eb]
      refine ⟨s', fun h => a1 h, fun h => ?_⟩
      obtain ⟨y, e⟩ := a2 h
      refine ⟨y, ?_⟩
      show forL (nmG 3) b_steps_1 (Rs.map Rl.data) [some (.d Rs0), some (.d (.str (change R w))), some (.o true (.L (acc ++ [.str (change R w)]))), some (.d R.data)] = _
      have e2 : (stepsOf (R :: Rs) w).drop 1 = change R w :: (stepsOf Rs (change R w)).drop 1 := by
        cases Rs <;> rfl
      rw [show some (Vl.d R.data) = dv (some R.data) from rfl, e, e2, List.map_cons, List.append_assoc]
      rfl
theorem steps_c (Rs : List Rl) (w : Str) (hs : SmallN Rs) (hr : Rs.length ≤ 1000) (hw : w.length ≤ 10000) (s : S) : call1 2 F_steps [.d (rulesD Rs), .d (.str w)] s = if big Rs w = true then bad "TooLarge" s else .ok (.o true (.L ((stepsOf Rs w).map .str))) s := by
  have hi : itemsD (rulesD Rs) = some (Rs.map Rl.data) := rfl
  have h1 : (1 : Nat) ≤ 16777216 := by decide
  obtain ⟨s', a1, a2⟩ := steps_loop (rulesD Rs) Rs w [.str w] none hs hw (by show 1 + _ ≤ _; omega)
  have e1 : stepsOf Rs w = w :: (stepsOf Rs w).drop 1 := by cases Rs <;> rfl
  rw [dv_none] at a1 a2
  cases hb : big Rs w
  · obtain ⟨y, e⟩ := a2 hb
    refine call_ob (ds := [rulesD Rs, .str w]) rfl ?_
    rw [show (stepsOf Rs w).map PyData.str = .str w :: ((stepsOf Rs w).drop 1).map PyData.str from (congrArg (List.map PyData.str) e1).trans rfl]
    simp only [b_steps, Gv, Gio, ins, List.map_cons, List.map_nil, List.length_cons, List.length_nil, Nat.sub_self, List.replicate_zero, List.append_nil, List.nil_append, List.cons_append, List.replicate_succ, Nat.reduceSub, Nat.reduceAdd, retS, retN, ret1, setS, sto, stoO, freeAt, free_dv, dv_some, dv_none, free_d, free_n, free_o, plain_dv, plain_dd, plain_n, dropS, seqS, ifS, raiS, nextS, brkS, cntS, unpS, tpG, itsOf, bindAll, optO, nmG, augS, chE, bind_ok, bind_er, bind_ite, out_ok, out_er, out_ite, seq_nx, seq_rt, seq_er, seq_bk, seq_ct, seq_ite, ite_and, ite_or, ite_and2, ite_or2, ite_andB, ite_orB, cE, varE, shE, shr, bi2, un1, opE, unE, rd, List.getElem?_cons_zero, List.getElem?_cons_succ, List.set_cons_zero, List.set_cons_succ, leD, ltD, gtD, geD, cmpD, eqD_str, neD_str, eqD_int, neD_int, inD_sign, isD, isNone, ifB, caE, consA, nilA, ca1, rdAll, dAll, lenD, intF, tupF, lstF, Option.map_some, Option.map_none, Option.bind_some, addD, intD, subI, modI, divI, adI, negD, mulD, revND, revD, tupE, lstE, mtE, okTy, isStr, isLst, stripF, callE, callI, truT, tru1, tru, truD, blT, notT, andT, orT, ifE, notE, andE, orE, if_true, Bool.not_true, Bool.not_false, Bool.true_and, Bool.and_true, Bool.false_and, Bool.or_false, Bool.false_or, Bool.true_or, Bool.or_true, Bool.and_false, Bool.false_xor, Bool.true_xor, slE, noP, someP, sl1, slD, seqI, its1, optI, forS, turn, lcE, wipeS, restS, plainAt, List.getD_cons_zero, List.getD_cons_succ, List.all_cons, List.all_nil, muE, mu1, lstAt, dArgs, appF, popF, rvsF, extF, rng1I, rng2I, enI, zipI, zip2, starA, subS, decide_true, decide_false, Int.reduceLT, Int.reduceLE, Nat.reduceLT, Nat.reduceLeDiff, true_and, and_true, Bool.false_eq_true, if_false, ite_true, ite_false, reduceIte, reduceCtorEq, Option.some.injEq, hi, h1, e]
    exact ⟨_, rfl⟩
  · refine call_er (ds := [rulesD Rs, .str w]) rfl ?_
    simp only [b_steps, Gv, Gio, ins, List.map_cons, List.map_nil, List.length_cons, List.length_nil, Nat.sub_self, List.replicate_zero, List.append_nil, List.nil_append, List.cons_append, List.replicate_succ, Nat.reduceSub, Nat.reduceAdd, retS, retN, ret1, setS, sto, stoO, freeAt, free_dv, dv_some, dv_none, free_d, free_n, free_o, plain_dv, plain_dd, plain_n, dropS, seqS, ifS, raiS, nextS, brkS, cntS, unpS, tpG, itsOf, bindAll, optO, nmG, augS, chE, bind_ok, bind_er, bind_ite, out_ok, out_er, out_ite, seq_nx, seq_rt, seq_er, seq_bk, seq_ct, seq_ite, ite_and, ite_or, ite_and2, ite_or2, ite_andB, ite_orB, cE, varE, shE, shr, bi2, un1, opE, unE, rd, List.getElem?_cons_zero, List.getElem?_cons_succ, List.set_cons_zero, List.set_cons_succ, leD, ltD, gtD, geD, cmpD, eqD_str, neD_str, eqD_int, neD_int, inD_sign, isD, isNone, ifB, caE, consA, nilA, ca1, rdAll, dAll, lenD, intF, tupF, lstF, Option.map_some, Option.map_none, Option.bind_some, addD, intD, subI, modI, divI, adI, negD, mulD, revND, revD, tupE, lstE, mtE, okTy, isStr, isLst, stripF, callE, callI, truT, tru1, tru, truD, blT, notT, andT, orT, ifE, notE, andE, orE, if_true, Bool.not_true, Bool.not_false, Bool.true_and, Bool.and_true, Bool.false_and, Bool.or_false, Bool.false_or, Bool.true_or, Bool.or_true, Bool.and_false, Bool.false_xor, Bool.true_xor, slE, noP, someP, sl1, slD, seqI, its1, optI, forS, turn, lcE, wipeS, restS, plainAt, List.getD_cons_zero, List.getD_cons_succ, List.all_cons, List.all_nil, muE, mu1, lstAt, dArgs, appF, popF, rvsF, extF, rng1I, rng2I, enI, zipI, zip2, starA, subS, decide_true, decide_false, Int.reduceLT, Int.reduceLE, Nat.reduceLT, Nat.reduceLeDiff, true_and, and_true, Bool.false_eq_true, if_false, ite_true, ite_false, reduceIte, reduceCtorEq, Option.some.injEq, hi, h1, a1 hb]
    exact ⟨_, rfl⟩
theorem steps_lastD (Rs : List Rl) (w : Str) : ixD (.list ((stepsOf Rs w).map PyData.str)) (.int (-1)) = some (.d (.str (formOf Rs w))) := by
  have hn : (stepsOf Rs w).map PyData.str ≠ [] := by cases Rs <;> exact fun h => nomatch h
  rw [at_last .none hn]
  congr 2
  by_cases e : Rs = []
  · rw [e]; rfl
  · rw [← List.dropLast_concat_getLast e, stepsOf_snoc, List.map_append, formOf_snoc, List.getLastD_eq_getLast?, List.map_cons, List.map_nil, List.getLast?_append]
    rfl
theorem form_of_c (k : Int) (Rs : List Rl) (w : Str) (hs : SmallN Rs) (hr : Rs.length ≤ 1000) (hw : w.length ≤ 10000) (s : S) : call1 3 F_form_of [.d (.int k), .d (rulesD Rs), .d (.str w)] s =
    if numOk k = true then (if areRules k Rs = true then (if isWord k w = true then (if big Rs w = true then bad "TooLarge" s else .ok (.d (.str (formOf Rs w))) s) else bad "NotWord" s) else bad "NotRule" s) else bad "BadNumber" s := by
  have hm : negD (.int 1) = some (.d (.int (-1))) := rfl
  cases hb : big Rs w
  · simp only [Bool.false_eq_true, if_false]
    cases hh0 : numOk k
    · refine call_er (ds := [.int k, rulesD Rs, .str w]) rfl ?_
      simp only [b_form_of, Gv, Gio, ins, List.map_cons, List.map_nil, List.length_cons, List.length_nil, Nat.sub_self, List.replicate_zero, List.append_nil, List.nil_append, List.cons_append, List.replicate_succ, Nat.reduceSub, Nat.reduceAdd, retS, retN, ret1, setS, sto, stoO, freeAt, free_dv, dv_some, dv_none, free_d, free_n, free_o, plain_dv, plain_dd, plain_n, dropS, seqS, ifS, raiS, nextS, brkS, cntS, unpS, tpG, itsOf, bindAll, optO, nmG, augS, chE, bind_ok, bind_er, bind_ite, out_ok, out_er, out_ite, seq_nx, seq_rt, seq_er, seq_bk, seq_ct, seq_ite, ite_and, ite_or, ite_and2, ite_or2, ite_andB, ite_orB, cE, varE, shE, shr, bi2, un1, opE, unE, rd, List.getElem?_cons_zero, List.getElem?_cons_succ, List.set_cons_zero, List.set_cons_succ, leD, ltD, gtD, geD, cmpD, eqD_str, neD_str, eqD_int, neD_int, inD_sign, isD, isNone, ifB, caE, consA, nilA, ca1, rdAll, dAll, lenD, intF, tupF, lstF, Option.map_some, Option.map_none, Option.bind_some, addD, intD, subI, modI, divI, adI, negD, mulD, revND, revD, tupE, lstE, mtE, okTy, isStr, isLst, stripF, callE, callI, truT, tru1, tru, truD, blT, notT, andT, orT, ifE, notE, andE, orE, if_true, Bool.not_true, Bool.not_false, Bool.true_and, Bool.and_true, Bool.false_and, Bool.or_false, Bool.false_or, Bool.true_or, Bool.or_true, Bool.and_false, Bool.false_xor, Bool.true_xor, slE, noP, someP, sl1, slD, seqI, its1, optI, forS, turn, lcE, wipeS, restS, plainAt, List.getD_cons_zero, List.getD_cons_succ, List.all_cons, List.all_nil, muE, mu1, lstAt, dArgs, appF, popF, rvsF, extF, rng1I, rng2I, enI, zipI, zip2, starA, subS, decide_true, decide_false, Int.reduceLT, Int.reduceLE, Nat.reduceLT, Nat.reduceLeDiff, true_and, and_true, Bool.false_eq_true, if_false, ite_true, ite_false, reduceIte, reduceCtorEq, Option.some.injEq, check_list_c _ _ _ (show Rs.length ≤ 16777216 by omega), steps_c _ _ hs hr hw, steps_lastD, hb, bad, hh0]
      exact ⟨_, rfl⟩
    · skip
      cases hh1 : areRules k Rs
      · refine call_er (ds := [.int k, rulesD Rs, .str w]) rfl ?_
        simp only [b_form_of, Gv, Gio, ins, List.map_cons, List.map_nil, List.length_cons, List.length_nil, Nat.sub_self, List.replicate_zero, List.append_nil, List.nil_append, List.cons_append, List.replicate_succ, Nat.reduceSub, Nat.reduceAdd, retS, retN, ret1, setS, sto, stoO, freeAt, free_dv, dv_some, dv_none, free_d, free_n, free_o, plain_dv, plain_dd, plain_n, dropS, seqS, ifS, raiS, nextS, brkS, cntS, unpS, tpG, itsOf, bindAll, optO, nmG, augS, chE, bind_ok, bind_er, bind_ite, out_ok, out_er, out_ite, seq_nx, seq_rt, seq_er, seq_bk, seq_ct, seq_ite, ite_and, ite_or, ite_and2, ite_or2, ite_andB, ite_orB, cE, varE, shE, shr, bi2, un1, opE, unE, rd, List.getElem?_cons_zero, List.getElem?_cons_succ, List.set_cons_zero, List.set_cons_succ, leD, ltD, gtD, geD, cmpD, eqD_str, neD_str, eqD_int, neD_int, inD_sign, isD, isNone, ifB, caE, consA, nilA, ca1, rdAll, dAll, lenD, intF, tupF, lstF, Option.map_some, Option.map_none, Option.bind_some, addD, intD, subI, modI, divI, adI, negD, mulD, revND, revD, tupE, lstE, mtE, okTy, isStr, isLst, stripF, callE, callI, truT, tru1, tru, truD, blT, notT, andT, orT, ifE, notE, andE, orE, if_true, Bool.not_true, Bool.not_false, Bool.true_and, Bool.and_true, Bool.false_and, Bool.or_false, Bool.false_or, Bool.true_or, Bool.or_true, Bool.and_false, Bool.false_xor, Bool.true_xor, slE, noP, someP, sl1, slD, seqI, its1, optI, forS, turn, lcE, wipeS, restS, plainAt, List.getD_cons_zero, List.getD_cons_succ, List.all_cons, List.all_nil, muE, mu1, lstAt, dArgs, appF, popF, rvsF, extF, rng1I, rng2I, enI, zipI, zip2, starA, subS, decide_true, decide_false, Int.reduceLT, Int.reduceLE, Nat.reduceLT, Nat.reduceLeDiff, true_and, and_true, Bool.false_eq_true, if_false, ite_true, ite_false, reduceIte, reduceCtorEq, Option.some.injEq, check_list_c _ _ _ (show Rs.length ≤ 16777216 by omega), steps_c _ _ hs hr hw, steps_lastD, hb, bad, hh0, hh1]
        exact ⟨_, rfl⟩
      · skip
        cases hh2 : isWord k w
        · refine call_er (ds := [.int k, rulesD Rs, .str w]) rfl ?_
          simp only [b_form_of, Gv, Gio, ins, List.map_cons, List.map_nil, List.length_cons, List.length_nil, Nat.sub_self, List.replicate_zero, List.append_nil, List.nil_append, List.cons_append, List.replicate_succ, Nat.reduceSub, Nat.reduceAdd, retS, retN, ret1, setS, sto, stoO, freeAt, free_dv, dv_some, dv_none, free_d, free_n, free_o, plain_dv, plain_dd, plain_n, dropS, seqS, ifS, raiS, nextS, brkS, cntS, unpS, tpG, itsOf, bindAll, optO, nmG, augS, chE, bind_ok, bind_er, bind_ite, out_ok, out_er, out_ite, seq_nx, seq_rt, seq_er, seq_bk, seq_ct, seq_ite, ite_and, ite_or, ite_and2, ite_or2, ite_andB, ite_orB, cE, varE, shE, shr, bi2, un1, opE, unE, rd, List.getElem?_cons_zero, List.getElem?_cons_succ, List.set_cons_zero, List.set_cons_succ, leD, ltD, gtD, geD, cmpD, eqD_str, neD_str, eqD_int, neD_int, inD_sign, isD, isNone, ifB, caE, consA, nilA, ca1, rdAll, dAll, lenD, intF, tupF, lstF, Option.map_some, Option.map_none, Option.bind_some, addD, intD, subI, modI, divI, adI, negD, mulD, revND, revD, tupE, lstE, mtE, okTy, isStr, isLst, stripF, callE, callI, truT, tru1, tru, truD, blT, notT, andT, orT, ifE, notE, andE, orE, if_true, Bool.not_true, Bool.not_false, Bool.true_and, Bool.and_true, Bool.false_and, Bool.or_false, Bool.false_or, Bool.true_or, Bool.or_true, Bool.and_false, Bool.false_xor, Bool.true_xor, slE, noP, someP, sl1, slD, seqI, its1, optI, forS, turn, lcE, wipeS, restS, plainAt, List.getD_cons_zero, List.getD_cons_succ, List.all_cons, List.all_nil, muE, mu1, lstAt, dArgs, appF, popF, rvsF, extF, rng1I, rng2I, enI, zipI, zip2, starA, subS, decide_true, decide_false, Int.reduceLT, Int.reduceLE, Nat.reduceLT, Nat.reduceLeDiff, true_and, and_true, Bool.false_eq_true, if_false, ite_true, ite_false, reduceIte, reduceCtorEq, Option.some.injEq, check_list_c _ _ _ (show Rs.length ≤ 16777216 by omega), steps_c _ _ hs hr hw, steps_lastD, hb, bad, hh0, hh1, hh2]
          exact ⟨_, rfl⟩
        · skip
          refine call_rt (ds := [.int k, rulesD Rs, .str w]) rfl ?_
          simp only [b_form_of, Gv, Gio, ins, List.map_cons, List.map_nil, List.length_cons, List.length_nil, Nat.sub_self, List.replicate_zero, List.append_nil, List.nil_append, List.cons_append, List.replicate_succ, Nat.reduceSub, Nat.reduceAdd, retS, retN, ret1, setS, sto, stoO, freeAt, free_dv, dv_some, dv_none, free_d, free_n, free_o, plain_dv, plain_dd, plain_n, dropS, seqS, ifS, raiS, nextS, brkS, cntS, unpS, tpG, itsOf, bindAll, optO, nmG, augS, chE, bind_ok, bind_er, bind_ite, out_ok, out_er, out_ite, seq_nx, seq_rt, seq_er, seq_bk, seq_ct, seq_ite, ite_and, ite_or, ite_and2, ite_or2, ite_andB, ite_orB, cE, varE, shE, shr, bi2, un1, opE, unE, rd, List.getElem?_cons_zero, List.getElem?_cons_succ, List.set_cons_zero, List.set_cons_succ, leD, ltD, gtD, geD, cmpD, eqD_str, neD_str, eqD_int, neD_int, inD_sign, isD, isNone, ifB, caE, consA, nilA, ca1, rdAll, dAll, lenD, intF, tupF, lstF, Option.map_some, Option.map_none, Option.bind_some, addD, intD, subI, modI, divI, adI, negD, mulD, revND, revD, tupE, lstE, mtE, okTy, isStr, isLst, stripF, callE, callI, truT, tru1, tru, truD, blT, notT, andT, orT, ifE, notE, andE, orE, if_true, Bool.not_true, Bool.not_false, Bool.true_and, Bool.and_true, Bool.false_and, Bool.or_false, Bool.false_or, Bool.true_or, Bool.or_true, Bool.and_false, Bool.false_xor, Bool.true_xor, slE, noP, someP, sl1, slD, seqI, its1, optI, forS, turn, lcE, wipeS, restS, plainAt, List.getD_cons_zero, List.getD_cons_succ, List.all_cons, List.all_nil, muE, mu1, lstAt, dArgs, appF, popF, rvsF, extF, rng1I, rng2I, enI, zipI, zip2, starA, subS, decide_true, decide_false, Int.reduceLT, Int.reduceLE, Nat.reduceLT, Nat.reduceLeDiff, true_and, and_true, Bool.false_eq_true, if_false, ite_true, ite_false, reduceIte, reduceCtorEq, Option.some.injEq, check_list_c _ _ _ (show Rs.length ≤ 16777216 by omega), steps_c _ _ hs hr hw, steps_lastD, hb, hh0, hh1, hh2]
          exact ⟨_, rfl⟩
  · simp only [if_true]
    cases hh0 : numOk k
    · refine call_er (ds := [.int k, rulesD Rs, .str w]) rfl ?_
      simp only [b_form_of, Gv, Gio, ins, List.map_cons, List.map_nil, List.length_cons, List.length_nil, Nat.sub_self, List.replicate_zero, List.append_nil, List.nil_append, List.cons_append, List.replicate_succ, Nat.reduceSub, Nat.reduceAdd, retS, retN, ret1, setS, sto, stoO, freeAt, free_dv, dv_some, dv_none, free_d, free_n, free_o, plain_dv, plain_dd, plain_n, dropS, seqS, ifS, raiS, nextS, brkS, cntS, unpS, tpG, itsOf, bindAll, optO, nmG, augS, chE, bind_ok, bind_er, bind_ite, out_ok, out_er, out_ite, seq_nx, seq_rt, seq_er, seq_bk, seq_ct, seq_ite, ite_and, ite_or, ite_and2, ite_or2, ite_andB, ite_orB, cE, varE, shE, shr, bi2, un1, opE, unE, rd, List.getElem?_cons_zero, List.getElem?_cons_succ, List.set_cons_zero, List.set_cons_succ, leD, ltD, gtD, geD, cmpD, eqD_str, neD_str, eqD_int, neD_int, inD_sign, isD, isNone, ifB, caE, consA, nilA, ca1, rdAll, dAll, lenD, intF, tupF, lstF, Option.map_some, Option.map_none, Option.bind_some, addD, intD, subI, modI, divI, adI, negD, mulD, revND, revD, tupE, lstE, mtE, okTy, isStr, isLst, stripF, callE, callI, truT, tru1, tru, truD, blT, notT, andT, orT, ifE, notE, andE, orE, if_true, Bool.not_true, Bool.not_false, Bool.true_and, Bool.and_true, Bool.false_and, Bool.or_false, Bool.false_or, Bool.true_or, Bool.or_true, Bool.and_false, Bool.false_xor, Bool.true_xor, slE, noP, someP, sl1, slD, seqI, its1, optI, forS, turn, lcE, wipeS, restS, plainAt, List.getD_cons_zero, List.getD_cons_succ, List.all_cons, List.all_nil, muE, mu1, lstAt, dArgs, appF, popF, rvsF, extF, rng1I, rng2I, enI, zipI, zip2, starA, subS, decide_true, decide_false, Int.reduceLT, Int.reduceLE, Nat.reduceLT, Nat.reduceLeDiff, true_and, and_true, Bool.false_eq_true, if_false, ite_true, ite_false, reduceIte, reduceCtorEq, Option.some.injEq, check_list_c _ _ _ (show Rs.length ≤ 16777216 by omega), steps_c _ _ hs hr hw, bad, hb, bad, hh0]
      exact ⟨_, rfl⟩
    · skip
      cases hh1 : areRules k Rs
      · refine call_er (ds := [.int k, rulesD Rs, .str w]) rfl ?_
        simp only [b_form_of, Gv, Gio, ins, List.map_cons, List.map_nil, List.length_cons, List.length_nil, Nat.sub_self, List.replicate_zero, List.append_nil, List.nil_append, List.cons_append, List.replicate_succ, Nat.reduceSub, Nat.reduceAdd, retS, retN, ret1, setS, sto, stoO, freeAt, free_dv, dv_some, dv_none, free_d, free_n, free_o, plain_dv, plain_dd, plain_n, dropS, seqS, ifS, raiS, nextS, brkS, cntS, unpS, tpG, itsOf, bindAll, optO, nmG, augS, chE, bind_ok, bind_er, bind_ite, out_ok, out_er, out_ite, seq_nx, seq_rt, seq_er, seq_bk, seq_ct, seq_ite, ite_and, ite_or, ite_and2, ite_or2, ite_andB, ite_orB, cE, varE, shE, shr, bi2, un1, opE, unE, rd, List.getElem?_cons_zero, List.getElem?_cons_succ, List.set_cons_zero, List.set_cons_succ, leD, ltD, gtD, geD, cmpD, eqD_str, neD_str, eqD_int, neD_int, inD_sign, isD, isNone, ifB, caE, consA, nilA, ca1, rdAll, dAll, lenD, intF, tupF, lstF, Option.map_some, Option.map_none, Option.bind_some, addD, intD, subI, modI, divI, adI, negD, mulD, revND, revD, tupE, lstE, mtE, okTy, isStr, isLst, stripF, callE, callI, truT, tru1, tru, truD, blT, notT, andT, orT, ifE, notE, andE, orE, if_true, Bool.not_true, Bool.not_false, Bool.true_and, Bool.and_true, Bool.false_and, Bool.or_false, Bool.false_or, Bool.true_or, Bool.or_true, Bool.and_false, Bool.false_xor, Bool.true_xor, slE, noP, someP, sl1, slD, seqI, its1, optI, forS, turn, lcE, wipeS, restS, plainAt, List.getD_cons_zero, List.getD_cons_succ, List.all_cons, List.all_nil, muE, mu1, lstAt, dArgs, appF, popF, rvsF, extF, rng1I, rng2I, enI, zipI, zip2, starA, subS, decide_true, decide_false, Int.reduceLT, Int.reduceLE, Nat.reduceLT, Nat.reduceLeDiff, true_and, and_true, Bool.false_eq_true, if_false, ite_true, ite_false, reduceIte, reduceCtorEq, Option.some.injEq, check_list_c _ _ _ (show Rs.length ≤ 16777216 by omega), steps_c _ _ hs hr hw, bad, hb, bad, hh0, hh1]
        exact ⟨_, rfl⟩
      · skip
        cases hh2 : isWord k w
        · refine call_er (ds := [.int k, rulesD Rs, .str w]) rfl ?_
          simp only [b_form_of, Gv, Gio, ins, List.map_cons, List.map_nil, List.length_cons, List.length_nil, Nat.sub_self, List.replicate_zero, List.append_nil, List.nil_append, List.cons_append, List.replicate_succ, Nat.reduceSub, Nat.reduceAdd, retS, retN, ret1, setS, sto, stoO, freeAt, free_dv, dv_some, dv_none, free_d, free_n, free_o, plain_dv, plain_dd, plain_n, dropS, seqS, ifS, raiS, nextS, brkS, cntS, unpS, tpG, itsOf, bindAll, optO, nmG, augS, chE, bind_ok, bind_er, bind_ite, out_ok, out_er, out_ite, seq_nx, seq_rt, seq_er, seq_bk, seq_ct, seq_ite, ite_and, ite_or, ite_and2, ite_or2, ite_andB, ite_orB, cE, varE, shE, shr, bi2, un1, opE, unE, rd, List.getElem?_cons_zero, List.getElem?_cons_succ, List.set_cons_zero, List.set_cons_succ, leD, ltD, gtD, geD, cmpD, eqD_str, neD_str, eqD_int, neD_int, inD_sign, isD, isNone, ifB, caE, consA, nilA, ca1, rdAll, dAll, lenD, intF, tupF, lstF, Option.map_some, Option.map_none, Option.bind_some, addD, intD, subI, modI, divI, adI, negD, mulD, revND, revD, tupE, lstE, mtE, okTy, isStr, isLst, stripF, callE, callI, truT, tru1, tru, truD, blT, notT, andT, orT, ifE, notE, andE, orE, if_true, Bool.not_true, Bool.not_false, Bool.true_and, Bool.and_true, Bool.false_and, Bool.or_false, Bool.false_or, Bool.true_or, Bool.or_true, Bool.and_false, Bool.false_xor, Bool.true_xor, slE, noP, someP, sl1, slD, seqI, its1, optI, forS, turn, lcE, wipeS, restS, plainAt, List.getD_cons_zero, List.getD_cons_succ, List.all_cons, List.all_nil, muE, mu1, lstAt, dArgs, appF, popF, rvsF, extF, rng1I, rng2I, enI, zipI, zip2, starA, subS, decide_true, decide_false, Int.reduceLT, Int.reduceLE, Nat.reduceLT, Nat.reduceLeDiff, true_and, and_true, Bool.false_eq_true, if_false, ite_true, ite_false, reduceIte, reduceCtorEq, Option.some.injEq, check_list_c _ _ _ (show Rs.length ≤ 16777216 by omega), steps_c _ _ hs hr hw, bad, hb, bad, hh0, hh1, hh2]
          exact ⟨_, rfl⟩
        · skip
          refine call_er (ds := [.int k, rulesD Rs, .str w]) rfl ?_
          simp only [b_form_of, Gv, Gio, ins, List.map_cons, List.map_nil, List.length_cons, List.length_nil, Nat.sub_self, List.replicate_zero, List.append_nil, List.nil_append, List.cons_append, List.replicate_succ, Nat.reduceSub, Nat.reduceAdd, retS, retN, ret1, setS, sto, stoO, freeAt, free_dv, dv_some, dv_none, free_d, free_n, free_o, plain_dv, plain_dd, plain_n, dropS, seqS, ifS, raiS, nextS, brkS, cntS, unpS, tpG, itsOf, bindAll, optO, nmG, augS, chE, bind_ok, bind_er, bind_ite, out_ok, out_er, out_ite, seq_nx, seq_rt, seq_er, seq_bk, seq_ct, seq_ite, ite_and, ite_or, ite_and2, ite_or2, ite_andB, ite_orB, cE, varE, shE, shr, bi2, un1, opE, unE, rd, List.getElem?_cons_zero, List.getElem?_cons_succ, List.set_cons_zero, List.set_cons_succ, leD, ltD, gtD, geD, cmpD, eqD_str, neD_str, eqD_int, neD_int, inD_sign, isD, isNone, ifB, caE, consA, nilA, ca1, rdAll, dAll, lenD, intF, tupF, lstF, Option.map_some, Option.map_none, Option.bind_some, addD, intD, subI, modI, divI, adI, negD, mulD, revND, revD, tupE, lstE, mtE, okTy, isStr, isLst, stripF, callE, callI, truT, tru1, tru, truD, blT, notT, andT, orT, ifE, notE, andE, orE, if_true, Bool.not_true, Bool.not_false, Bool.true_and, Bool.and_true, Bool.false_and, Bool.or_false, Bool.false_or, Bool.true_or, Bool.or_true, Bool.and_false, Bool.false_xor, Bool.true_xor, slE, noP, someP, sl1, slD, seqI, its1, optI, forS, turn, lcE, wipeS, restS, plainAt, List.getD_cons_zero, List.getD_cons_succ, List.all_cons, List.all_nil, muE, mu1, lstAt, dArgs, appF, popF, rvsF, extF, rng1I, rng2I, enI, zipI, zip2, starA, subS, decide_true, decide_false, Int.reduceLT, Int.reduceLE, Nat.reduceLT, Nat.reduceLeDiff, true_and, and_true, Bool.false_eq_true, if_false, ite_true, ite_false, reduceIte, reduceCtorEq, Option.some.injEq, check_list_c _ _ _ (show Rs.length ≤ 16777216 by omega), steps_c _ _ hs hr hw, bad, hb, hh0, hh1, hh2]
          exact ⟨_, rfl⟩
theorem steps_of_c (k : Int) (Rs : List Rl) (w : Str) (hs : SmallN Rs) (hr : Rs.length ≤ 1000) (hw : w.length ≤ 10000) (s : S) : call1 3 F_steps_of [.d (.int k), .d (rulesD Rs), .d (.str w)] s =
    if numOk k = true then (if areRules k Rs = true then (if isWord k w = true then (if big Rs w = true then bad "TooLarge" s else .ok (.o true (.L ((stepsOf Rs w).map .str))) s) else bad "NotWord" s) else bad "NotRule" s) else bad "BadNumber" s := by
  cases hb : big Rs w
  · simp only [Bool.false_eq_true, if_false]
    cases hh0 : numOk k
    · refine call_er (ds := [.int k, rulesD Rs, .str w]) rfl ?_
      simp only [b_steps_of, Gv, Gio, ins, List.map_cons, List.map_nil, List.length_cons, List.length_nil, Nat.sub_self, List.replicate_zero, List.append_nil, List.nil_append, List.cons_append, List.replicate_succ, Nat.reduceSub, Nat.reduceAdd, retS, retN, ret1, setS, sto, stoO, freeAt, free_dv, dv_some, dv_none, free_d, free_n, free_o, plain_dv, plain_dd, plain_n, dropS, seqS, ifS, raiS, nextS, brkS, cntS, unpS, tpG, itsOf, bindAll, optO, nmG, augS, chE, bind_ok, bind_er, bind_ite, out_ok, out_er, out_ite, seq_nx, seq_rt, seq_er, seq_bk, seq_ct, seq_ite, ite_and, ite_or, ite_and2, ite_or2, ite_andB, ite_orB, cE, varE, shE, shr, bi2, un1, opE, unE, rd, List.getElem?_cons_zero, List.getElem?_cons_succ, List.set_cons_zero, List.set_cons_succ, leD, ltD, gtD, geD, cmpD, eqD_str, neD_str, eqD_int, neD_int, inD_sign, isD, isNone, ifB, caE, consA, nilA, ca1, rdAll, dAll, lenD, intF, tupF, lstF, Option.map_some, Option.map_none, Option.bind_some, addD, intD, subI, modI, divI, adI, negD, mulD, revND, revD, tupE, lstE, mtE, okTy, isStr, isLst, stripF, callE, callI, truT, tru1, tru, truD, blT, notT, andT, orT, ifE, notE, andE, orE, if_true, Bool.not_true, Bool.not_false, Bool.true_and, Bool.and_true, Bool.false_and, Bool.or_false, Bool.false_or, Bool.true_or, Bool.or_true, Bool.and_false, Bool.false_xor, Bool.true_xor, slE, noP, someP, sl1, slD, seqI, its1, optI, forS, turn, lcE, wipeS, restS, plainAt, List.getD_cons_zero, List.getD_cons_succ, List.all_cons, List.all_nil, muE, mu1, lstAt, dArgs, appF, popF, rvsF, extF, rng1I, rng2I, enI, zipI, zip2, starA, subS, decide_true, decide_false, Int.reduceLT, Int.reduceLE, Nat.reduceLT, Nat.reduceLeDiff, true_and, and_true, Bool.false_eq_true, if_false, ite_true, ite_false, reduceIte, reduceCtorEq, Option.some.injEq, check_list_c _ _ _ (show Rs.length ≤ 16777216 by omega), steps_c _ _ hs hr hw, hb, bad, hh0]
      exact ⟨_, rfl⟩
    · skip
      cases hh1 : areRules k Rs
      · refine call_er (ds := [.int k, rulesD Rs, .str w]) rfl ?_
        simp only [b_steps_of, Gv, Gio, ins, List.map_cons, List.map_nil, List.length_cons, List.length_nil, Nat.sub_self, List.replicate_zero, List.append_nil, List.nil_append, List.cons_append, List.replicate_succ, Nat.reduceSub, Nat.reduceAdd, retS, retN, ret1, setS, sto, stoO, freeAt, free_dv, dv_some, dv_none, free_d, free_n, free_o, plain_dv, plain_dd, plain_n, dropS, seqS, ifS, raiS, nextS, brkS, cntS, unpS, tpG, itsOf, bindAll, optO, nmG, augS, chE, bind_ok, bind_er, bind_ite, out_ok, out_er, out_ite, seq_nx, seq_rt, seq_er, seq_bk, seq_ct, seq_ite, ite_and, ite_or, ite_and2, ite_or2, ite_andB, ite_orB, cE, varE, shE, shr, bi2, un1, opE, unE, rd, List.getElem?_cons_zero, List.getElem?_cons_succ, List.set_cons_zero, List.set_cons_succ, leD, ltD, gtD, geD, cmpD, eqD_str, neD_str, eqD_int, neD_int, inD_sign, isD, isNone, ifB, caE, consA, nilA, ca1, rdAll, dAll, lenD, intF, tupF, lstF, Option.map_some, Option.map_none, Option.bind_some, addD, intD, subI, modI, divI, adI, negD, mulD, revND, revD, tupE, lstE, mtE, okTy, isStr, isLst, stripF, callE, callI, truT, tru1, tru, truD, blT, notT, andT, orT, ifE, notE, andE, orE, if_true, Bool.not_true, Bool.not_false, Bool.true_and, Bool.and_true, Bool.false_and, Bool.or_false, Bool.false_or, Bool.true_or, Bool.or_true, Bool.and_false, Bool.false_xor, Bool.true_xor, slE, noP, someP, sl1, slD, seqI, its1, optI, forS, turn, lcE, wipeS, restS, plainAt, List.getD_cons_zero, List.getD_cons_succ, List.all_cons, List.all_nil, muE, mu1, lstAt, dArgs, appF, popF, rvsF, extF, rng1I, rng2I, enI, zipI, zip2, starA, subS, decide_true, decide_false, Int.reduceLT, Int.reduceLE, Nat.reduceLT, Nat.reduceLeDiff, true_and, and_true, Bool.false_eq_true, if_false, ite_true, ite_false, reduceIte, reduceCtorEq, Option.some.injEq, check_list_c _ _ _ (show Rs.length ≤ 16777216 by omega), steps_c _ _ hs hr hw, hb, bad, hh0, hh1]
        exact ⟨_, rfl⟩
      · skip
        cases hh2 : isWord k w
        · refine call_er (ds := [.int k, rulesD Rs, .str w]) rfl ?_
          simp only [b_steps_of, Gv, Gio, ins, List.map_cons, List.map_nil, List.length_cons, List.length_nil, Nat.sub_self, List.replicate_zero, List.append_nil, List.nil_append, List.cons_append, List.replicate_succ, Nat.reduceSub, Nat.reduceAdd, retS, retN, ret1, setS, sto, stoO, freeAt, free_dv, dv_some, dv_none, free_d, free_n, free_o, plain_dv, plain_dd, plain_n, dropS, seqS, ifS, raiS, nextS, brkS, cntS, unpS, tpG, itsOf, bindAll, optO, nmG, augS, chE, bind_ok, bind_er, bind_ite, out_ok, out_er, out_ite, seq_nx, seq_rt, seq_er, seq_bk, seq_ct, seq_ite, ite_and, ite_or, ite_and2, ite_or2, ite_andB, ite_orB, cE, varE, shE, shr, bi2, un1, opE, unE, rd, List.getElem?_cons_zero, List.getElem?_cons_succ, List.set_cons_zero, List.set_cons_succ, leD, ltD, gtD, geD, cmpD, eqD_str, neD_str, eqD_int, neD_int, inD_sign, isD, isNone, ifB, caE, consA, nilA, ca1, rdAll, dAll, lenD, intF, tupF, lstF, Option.map_some, Option.map_none, Option.bind_some, addD, intD, subI, modI, divI, adI, negD, mulD, revND, revD, tupE, lstE, mtE, okTy, isStr, isLst, stripF, callE, callI, truT, tru1, tru, truD, blT, notT, andT, orT, ifE, notE, andE, orE, if_true, Bool.not_true, Bool.not_false, Bool.true_and, Bool.and_true, Bool.false_and, Bool.or_false, Bool.false_or, Bool.true_or, Bool.or_true, Bool.and_false, Bool.false_xor, Bool.true_xor, slE, noP, someP, sl1, slD, seqI, its1, optI, forS, turn, lcE, wipeS, restS, plainAt, List.getD_cons_zero, List.getD_cons_succ, List.all_cons, List.all_nil, muE, mu1, lstAt, dArgs, appF, popF, rvsF, extF, rng1I, rng2I, enI, zipI, zip2, starA, subS, decide_true, decide_false, Int.reduceLT, Int.reduceLE, Nat.reduceLT, Nat.reduceLeDiff, true_and, and_true, Bool.false_eq_true, if_false, ite_true, ite_false, reduceIte, reduceCtorEq, Option.some.injEq, check_list_c _ _ _ (show Rs.length ≤ 16777216 by omega), steps_c _ _ hs hr hw, hb, bad, hh0, hh1, hh2]
          exact ⟨_, rfl⟩
        · skip
          refine call_ob (ds := [.int k, rulesD Rs, .str w]) rfl ?_
          simp only [b_steps_of, Gv, Gio, ins, List.map_cons, List.map_nil, List.length_cons, List.length_nil, Nat.sub_self, List.replicate_zero, List.append_nil, List.nil_append, List.cons_append, List.replicate_succ, Nat.reduceSub, Nat.reduceAdd, retS, retN, ret1, setS, sto, stoO, freeAt, free_dv, dv_some, dv_none, free_d, free_n, free_o, plain_dv, plain_dd, plain_n, dropS, seqS, ifS, raiS, nextS, brkS, cntS, unpS, tpG, itsOf, bindAll, optO, nmG, augS, chE, bind_ok, bind_er, bind_ite, out_ok, out_er, out_ite, seq_nx, seq_rt, seq_er, seq_bk, seq_ct, seq_ite, ite_and, ite_or, ite_and2, ite_or2, ite_andB, ite_orB, cE, varE, shE, shr, bi2, un1, opE, unE, rd, List.getElem?_cons_zero, List.getElem?_cons_succ, List.set_cons_zero, List.set_cons_succ, leD, ltD, gtD, geD, cmpD, eqD_str, neD_str, eqD_int, neD_int, inD_sign, isD, isNone, ifB, caE, consA, nilA, ca1, rdAll, dAll, lenD, intF, tupF, lstF, Option.map_some, Option.map_none, Option.bind_some, addD, intD, subI, modI, divI, adI, negD, mulD, revND, revD, tupE, lstE, mtE, okTy, isStr, isLst, stripF, callE, callI, truT, tru1, tru, truD, blT, notT, andT, orT, ifE, notE, andE, orE, if_true, Bool.not_true, Bool.not_false, Bool.true_and, Bool.and_true, Bool.false_and, Bool.or_false, Bool.false_or, Bool.true_or, Bool.or_true, Bool.and_false, Bool.false_xor, Bool.true_xor, slE, noP, someP, sl1, slD, seqI, its1, optI, forS, turn, lcE, wipeS, restS, plainAt, List.getD_cons_zero, List.getD_cons_succ, List.all_cons, List.all_nil, muE, mu1, lstAt, dArgs, appF, popF, rvsF, extF, rng1I, rng2I, enI, zipI, zip2, starA, subS, decide_true, decide_false, Int.reduceLT, Int.reduceLE, Nat.reduceLT, Nat.reduceLeDiff, true_and, and_true, Bool.false_eq_true, if_false, ite_true, ite_false, reduceIte, reduceCtorEq, Option.some.injEq, check_list_c _ _ _ (show Rs.length ≤ 16777216 by omega), steps_c _ _ hs hr hw, hb, hh0, hh1, hh2]
          exact ⟨_, rfl⟩
  · simp only [if_true]
    cases hh0 : numOk k
    · refine call_er (ds := [.int k, rulesD Rs, .str w]) rfl ?_
      simp only [b_steps_of, Gv, Gio, ins, List.map_cons, List.map_nil, List.length_cons, List.length_nil, Nat.sub_self, List.replicate_zero, List.append_nil, List.nil_append, List.cons_append, List.replicate_succ, Nat.reduceSub, Nat.reduceAdd, retS, retN, ret1, setS, sto, stoO, freeAt, free_dv, dv_some, dv_none, free_d, free_n, free_o, plain_dv, plain_dd, plain_n, dropS, seqS, ifS, raiS, nextS, brkS, cntS, unpS, tpG, itsOf, bindAll, optO, nmG, augS, chE, bind_ok, bind_er, bind_ite, out_ok, out_er, out_ite, seq_nx, seq_rt, seq_er, seq_bk, seq_ct, seq_ite, ite_and, ite_or, ite_and2, ite_or2, ite_andB, ite_orB, cE, varE, shE, shr, bi2, un1, opE, unE, rd, List.getElem?_cons_zero, List.getElem?_cons_succ, List.set_cons_zero, List.set_cons_succ, leD, ltD, gtD, geD, cmpD, eqD_str, neD_str, eqD_int, neD_int, inD_sign, isD, isNone, ifB, caE, consA, nilA, ca1, rdAll, dAll, lenD, intF, tupF, lstF, Option.map_some, Option.map_none, Option.bind_some, addD, intD, subI, modI, divI, adI, negD, mulD, revND, revD, tupE, lstE, mtE, okTy, isStr, isLst, stripF, callE, callI, truT, tru1, tru, truD, blT, notT, andT, orT, ifE, notE, andE, orE, if_true, Bool.not_true, Bool.not_false, Bool.true_and, Bool.and_true, Bool.false_and, Bool.or_false, Bool.false_or, Bool.true_or, Bool.or_true, Bool.and_false, Bool.false_xor, Bool.true_xor, slE, noP, someP, sl1, slD, seqI, its1, optI, forS, turn, lcE, wipeS, restS, plainAt, List.getD_cons_zero, List.getD_cons_succ, List.all_cons, List.all_nil, muE, mu1, lstAt, dArgs, appF, popF, rvsF, extF, rng1I, rng2I, enI, zipI, zip2, starA, subS, decide_true, decide_false, Int.reduceLT, Int.reduceLE, Nat.reduceLT, Nat.reduceLeDiff, true_and, and_true, Bool.false_eq_true, if_false, ite_true, ite_false, reduceIte, reduceCtorEq, Option.some.injEq, check_list_c _ _ _ (show Rs.length ≤ 16777216 by omega), steps_c _ _ hs hr hw, bad, hb, bad, hh0]
      exact ⟨_, rfl⟩
    · skip
      cases hh1 : areRules k Rs
      · refine call_er (ds := [.int k, rulesD Rs, .str w]) rfl ?_
        simp only [b_steps_of, Gv, Gio, ins, List.map_cons, List.map_nil, List.length_cons, List.length_nil, Nat.sub_self, List.replicate_zero, List.append_nil, List.nil_append, List.cons_append, List.replicate_succ, Nat.reduceSub, Nat.reduceAdd, retS, retN, ret1, setS, sto, stoO, freeAt, free_dv, dv_some, dv_none, free_d, free_n, free_o, plain_dv, plain_dd, plain_n, dropS, seqS, ifS, raiS, nextS, brkS, cntS, unpS, tpG, itsOf, bindAll, optO, nmG, augS, chE, bind_ok, bind_er, bind_ite, out_ok, out_er, out_ite, seq_nx, seq_rt, seq_er, seq_bk, seq_ct, seq_ite, ite_and, ite_or, ite_and2, ite_or2, ite_andB, ite_orB, cE, varE, shE, shr, bi2, un1, opE, unE, rd, List.getElem?_cons_zero, List.getElem?_cons_succ, List.set_cons_zero, List.set_cons_succ, leD, ltD, gtD, geD, cmpD, eqD_str, neD_str, eqD_int, neD_int, inD_sign, isD, isNone, ifB, caE, consA, nilA, ca1, rdAll, dAll, lenD, intF, tupF, lstF, Option.map_some, Option.map_none, Option.bind_some, addD, intD, subI, modI, divI, adI, negD, mulD, revND, revD, tupE, lstE, mtE, okTy, isStr, isLst, stripF, callE, callI, truT, tru1, tru, truD, blT, notT, andT, orT, ifE, notE, andE, orE, if_true, Bool.not_true, Bool.not_false, Bool.true_and, Bool.and_true, Bool.false_and, Bool.or_false, Bool.false_or, Bool.true_or, Bool.or_true, Bool.and_false, Bool.false_xor, Bool.true_xor, slE, noP, someP, sl1, slD, seqI, its1, optI, forS, turn, lcE, wipeS, restS, plainAt, List.getD_cons_zero, List.getD_cons_succ, List.all_cons, List.all_nil, muE, mu1, lstAt, dArgs, appF, popF, rvsF, extF, rng1I, rng2I, enI, zipI, zip2, starA, subS, decide_true, decide_false, Int.reduceLT, Int.reduceLE, Nat.reduceLT, Nat.reduceLeDiff, true_and, and_true, Bool.false_eq_true, if_false, ite_true, ite_false, reduceIte, reduceCtorEq, Option.some.injEq, check_list_c _ _ _ (show Rs.length ≤ 16777216 by omega), steps_c _ _ hs hr hw, bad, hb, bad, hh0, hh1]
        exact ⟨_, rfl⟩
      · skip
        cases hh2 : isWord k w
        · refine call_er (ds := [.int k, rulesD Rs, .str w]) rfl ?_
          simp only [b_steps_of, Gv, Gio, ins, List.map_cons, List.map_nil, List.length_cons, List.length_nil, Nat.sub_self, List.replicate_zero, List.append_nil, List.nil_append, List.cons_append, List.replicate_succ, Nat.reduceSub, Nat.reduceAdd, retS, retN, ret1, setS, sto, stoO, freeAt, free_dv, dv_some, dv_none, free_d, free_n, free_o, plain_dv, plain_dd, plain_n, dropS, seqS, ifS, raiS, nextS, brkS, cntS, unpS, tpG, itsOf, bindAll, optO, nmG, augS, chE, bind_ok, bind_er, bind_ite, out_ok, out_er, out_ite, seq_nx, seq_rt, seq_er, seq_bk, seq_ct, seq_ite, ite_and, ite_or, ite_and2, ite_or2, ite_andB, ite_orB, cE, varE, shE, shr, bi2, un1, opE, unE, rd, List.getElem?_cons_zero, List.getElem?_cons_succ, List.set_cons_zero, List.set_cons_succ, leD, ltD, gtD, geD, cmpD, eqD_str, neD_str, eqD_int, neD_int, inD_sign, isD, isNone, ifB, caE, consA, nilA, ca1, rdAll, dAll, lenD, intF, tupF, lstF, Option.map_some, Option.map_none, Option.bind_some, addD, intD, subI, modI, divI, adI, negD, mulD, revND, revD, tupE, lstE, mtE, okTy, isStr, isLst, stripF, callE, callI, truT, tru1, tru, truD, blT, notT, andT, orT, ifE, notE, andE, orE, if_true, Bool.not_true, Bool.not_false, Bool.true_and, Bool.and_true, Bool.false_and, Bool.or_false, Bool.false_or, Bool.true_or, Bool.or_true, Bool.and_false, Bool.false_xor, Bool.true_xor, slE, noP, someP, sl1, slD, seqI, its1, optI, forS, turn, lcE, wipeS, restS, plainAt, List.getD_cons_zero, List.getD_cons_succ, List.all_cons, List.all_nil, muE, mu1, lstAt, dArgs, appF, popF, rvsF, extF, rng1I, rng2I, enI, zipI, zip2, starA, subS, decide_true, decide_false, Int.reduceLT, Int.reduceLE, Nat.reduceLT, Nat.reduceLeDiff, true_and, and_true, Bool.false_eq_true, if_false, ite_true, ite_false, reduceIte, reduceCtorEq, Option.some.injEq, check_list_c _ _ _ (show Rs.length ≤ 16777216 by omega), steps_c _ _ hs hr hw, bad, hb, bad, hh0, hh1, hh2]
          exact ⟨_, rfl⟩
        · skip
          refine call_er (ds := [.int k, rulesD Rs, .str w]) rfl ?_
          simp only [b_steps_of, Gv, Gio, ins, List.map_cons, List.map_nil, List.length_cons, List.length_nil, Nat.sub_self, List.replicate_zero, List.append_nil, List.nil_append, List.cons_append, List.replicate_succ, Nat.reduceSub, Nat.reduceAdd, retS, retN, ret1, setS, sto, stoO, freeAt, free_dv, dv_some, dv_none, free_d, free_n, free_o, plain_dv, plain_dd, plain_n, dropS, seqS, ifS, raiS, nextS, brkS, cntS, unpS, tpG, itsOf, bindAll, optO, nmG, augS, chE, bind_ok, bind_er, bind_ite, out_ok, out_er, out_ite, seq_nx, seq_rt, seq_er, seq_bk, seq_ct, seq_ite, ite_and, ite_or, ite_and2, ite_or2, ite_andB, ite_orB, cE, varE, shE, shr, bi2, un1, opE, unE, rd, List.getElem?_cons_zero, List.getElem?_cons_succ, List.set_cons_zero, List.set_cons_succ, leD, ltD, gtD, geD, cmpD, eqD_str, neD_str, eqD_int, neD_int, inD_sign, isD, isNone, ifB, caE, consA, nilA, ca1, rdAll, dAll, lenD, intF, tupF, lstF, Option.map_some, Option.map_none, Option.bind_some, addD, intD, subI, modI, divI, adI, negD, mulD, revND, revD, tupE, lstE, mtE, okTy, isStr, isLst, stripF, callE, callI, truT, tru1, tru, truD, blT, notT, andT, orT, ifE, notE, andE, orE, if_true, Bool.not_true, Bool.not_false, Bool.true_and, Bool.and_true, Bool.false_and, Bool.or_false, Bool.false_or, Bool.true_or, Bool.or_true, Bool.and_false, Bool.false_xor, Bool.true_xor, slE, noP, someP, sl1, slD, seqI, its1, optI, forS, turn, lcE, wipeS, restS, plainAt, List.getD_cons_zero, List.getD_cons_succ, List.all_cons, List.all_nil, muE, mu1, lstAt, dArgs, appF, popF, rvsF, extF, rng1I, rng2I, enI, zipI, zip2, starA, subS, decide_true, decide_false, Int.reduceLT, Int.reduceLE, Nat.reduceLT, Nat.reduceLeDiff, true_and, and_true, Bool.false_eq_true, if_false, ite_true, ite_false, reduceIte, reduceCtorEq, Option.some.injEq, check_list_c _ _ _ (show Rs.length ≤ 16777216 by omega), steps_c _ _ hs hr hw, bad, hb, hh0, hh1, hh2]
          exact ⟨_, rfl⟩
theorem is_kept_c (k : Int) (Rs : List Rl) (w : Str) (hs : SmallN Rs) (hr : Rs.length ≤ 1000) (hw : w.length ≤ 10000) (s : S) : call1 3 F_is_kept [.d (.int k), .d (rulesD Rs), .d (.str w)] s =
    if numOk k = true then (if areRules k Rs = true then (if isWord k w = true then (if big Rs w = true then bad "TooLarge" s else .ok (.d (.bool (decide (formOf Rs w = w)))) s) else bad "NotWord" s) else bad "NotRule" s) else bad "BadNumber" s := by
  cases hb : big Rs w
  · simp only [Bool.false_eq_true, if_false]
    cases hh0 : numOk k
    · refine call_er (ds := [.int k, rulesD Rs, .str w]) rfl ?_
      simp only [b_is_kept, Gv, Gio, ins, List.map_cons, List.map_nil, List.length_cons, List.length_nil, Nat.sub_self, List.replicate_zero, List.append_nil, List.nil_append, List.cons_append, List.replicate_succ, Nat.reduceSub, Nat.reduceAdd, retS, retN, ret1, setS, sto, stoO, freeAt, free_dv, dv_some, dv_none, free_d, free_n, free_o, plain_dv, plain_dd, plain_n, dropS, seqS, ifS, raiS, nextS, brkS, cntS, unpS, tpG, itsOf, bindAll, optO, nmG, augS, chE, bind_ok, bind_er, bind_ite, out_ok, out_er, out_ite, seq_nx, seq_rt, seq_er, seq_bk, seq_ct, seq_ite, ite_and, ite_or, ite_and2, ite_or2, ite_andB, ite_orB, cE, varE, shE, shr, bi2, un1, opE, unE, rd, List.getElem?_cons_zero, List.getElem?_cons_succ, List.set_cons_zero, List.set_cons_succ, leD, ltD, gtD, geD, cmpD, eqD_str, neD_str, eqD_int, neD_int, inD_sign, isD, isNone, ifB, caE, consA, nilA, ca1, rdAll, dAll, lenD, intF, tupF, lstF, Option.map_some, Option.map_none, Option.bind_some, addD, intD, subI, modI, divI, adI, negD, mulD, revND, revD, tupE, lstE, mtE, okTy, isStr, isLst, stripF, callE, callI, truT, tru1, tru, truD, blT, notT, andT, orT, ifE, notE, andE, orE, if_true, Bool.not_true, Bool.not_false, Bool.true_and, Bool.and_true, Bool.false_and, Bool.or_false, Bool.false_or, Bool.true_or, Bool.or_true, Bool.and_false, Bool.false_xor, Bool.true_xor, slE, noP, someP, sl1, slD, seqI, its1, optI, forS, turn, lcE, wipeS, restS, plainAt, List.getD_cons_zero, List.getD_cons_succ, List.all_cons, List.all_nil, muE, mu1, lstAt, dArgs, appF, popF, rvsF, extF, rng1I, rng2I, enI, zipI, zip2, starA, subS, decide_true, decide_false, Int.reduceLT, Int.reduceLE, Nat.reduceLT, Nat.reduceLeDiff, true_and, and_true, Bool.false_eq_true, if_false, ite_true, ite_false, reduceIte, reduceCtorEq, Option.some.injEq, form_of_c _ _ _ hs hr hw, hb, bad, hh0]
      exact ⟨_, rfl⟩
    · skip
      cases hh1 : areRules k Rs
      · refine call_er (ds := [.int k, rulesD Rs, .str w]) rfl ?_
        simp only [b_is_kept, Gv, Gio, ins, List.map_cons, List.map_nil, List.length_cons, List.length_nil, Nat.sub_self, List.replicate_zero, List.append_nil, List.nil_append, List.cons_append, List.replicate_succ, Nat.reduceSub, Nat.reduceAdd, retS, retN, ret1, setS, sto, stoO, freeAt, free_dv, dv_some, dv_none, free_d, free_n, free_o, plain_dv, plain_dd, plain_n, dropS, seqS, ifS, raiS, nextS, brkS, cntS, unpS, tpG, itsOf, bindAll, optO, nmG, augS, chE, bind_ok, bind_er, bind_ite, out_ok, out_er, out_ite, seq_nx, seq_rt, seq_er, seq_bk, seq_ct, seq_ite, ite_and, ite_or, ite_and2, ite_or2, ite_andB, ite_orB, cE, varE, shE, shr, bi2, un1, opE, unE, rd, List.getElem?_cons_zero, List.getElem?_cons_succ, List.set_cons_zero, List.set_cons_succ, leD, ltD, gtD, geD, cmpD, eqD_str, neD_str, eqD_int, neD_int, inD_sign, isD, isNone, ifB, caE, consA, nilA, ca1, rdAll, dAll, lenD, intF, tupF, lstF, Option.map_some, Option.map_none, Option.bind_some, addD, intD, subI, modI, divI, adI, negD, mulD, revND, revD, tupE, lstE, mtE, okTy, isStr, isLst, stripF, callE, callI, truT, tru1, tru, truD, blT, notT, andT, orT, ifE, notE, andE, orE, if_true, Bool.not_true, Bool.not_false, Bool.true_and, Bool.and_true, Bool.false_and, Bool.or_false, Bool.false_or, Bool.true_or, Bool.or_true, Bool.and_false, Bool.false_xor, Bool.true_xor, slE, noP, someP, sl1, slD, seqI, its1, optI, forS, turn, lcE, wipeS, restS, plainAt, List.getD_cons_zero, List.getD_cons_succ, List.all_cons, List.all_nil, muE, mu1, lstAt, dArgs, appF, popF, rvsF, extF, rng1I, rng2I, enI, zipI, zip2, starA, subS, decide_true, decide_false, Int.reduceLT, Int.reduceLE, Nat.reduceLT, Nat.reduceLeDiff, true_and, and_true, Bool.false_eq_true, if_false, ite_true, ite_false, reduceIte, reduceCtorEq, Option.some.injEq, form_of_c _ _ _ hs hr hw, hb, bad, hh0, hh1]
        exact ⟨_, rfl⟩
      · skip
        cases hh2 : isWord k w
        · refine call_er (ds := [.int k, rulesD Rs, .str w]) rfl ?_
          simp only [b_is_kept, Gv, Gio, ins, List.map_cons, List.map_nil, List.length_cons, List.length_nil, Nat.sub_self, List.replicate_zero, List.append_nil, List.nil_append, List.cons_append, List.replicate_succ, Nat.reduceSub, Nat.reduceAdd, retS, retN, ret1, setS, sto, stoO, freeAt, free_dv, dv_some, dv_none, free_d, free_n, free_o, plain_dv, plain_dd, plain_n, dropS, seqS, ifS, raiS, nextS, brkS, cntS, unpS, tpG, itsOf, bindAll, optO, nmG, augS, chE, bind_ok, bind_er, bind_ite, out_ok, out_er, out_ite, seq_nx, seq_rt, seq_er, seq_bk, seq_ct, seq_ite, ite_and, ite_or, ite_and2, ite_or2, ite_andB, ite_orB, cE, varE, shE, shr, bi2, un1, opE, unE, rd, List.getElem?_cons_zero, List.getElem?_cons_succ, List.set_cons_zero, List.set_cons_succ, leD, ltD, gtD, geD, cmpD, eqD_str, neD_str, eqD_int, neD_int, inD_sign, isD, isNone, ifB, caE, consA, nilA, ca1, rdAll, dAll, lenD, intF, tupF, lstF, Option.map_some, Option.map_none, Option.bind_some, addD, intD, subI, modI, divI, adI, negD, mulD, revND, revD, tupE, lstE, mtE, okTy, isStr, isLst, stripF, callE, callI, truT, tru1, tru, truD, blT, notT, andT, orT, ifE, notE, andE, orE, if_true, Bool.not_true, Bool.not_false, Bool.true_and, Bool.and_true, Bool.false_and, Bool.or_false, Bool.false_or, Bool.true_or, Bool.or_true, Bool.and_false, Bool.false_xor, Bool.true_xor, slE, noP, someP, sl1, slD, seqI, its1, optI, forS, turn, lcE, wipeS, restS, plainAt, List.getD_cons_zero, List.getD_cons_succ, List.all_cons, List.all_nil, muE, mu1, lstAt, dArgs, appF, popF, rvsF, extF, rng1I, rng2I, enI, zipI, zip2, starA, subS, decide_true, decide_false, Int.reduceLT, Int.reduceLE, Nat.reduceLT, Nat.reduceLeDiff, true_and, and_true, Bool.false_eq_true, if_false, ite_true, ite_false, reduceIte, reduceCtorEq, Option.some.injEq, form_of_c _ _ _ hs hr hw, hb, bad, hh0, hh1, hh2]
          exact ⟨_, rfl⟩
        · skip
          refine call_rt (ds := [.int k, rulesD Rs, .str w]) rfl ?_
          simp only [b_is_kept, Gv, Gio, ins, List.map_cons, List.map_nil, List.length_cons, List.length_nil, Nat.sub_self, List.replicate_zero, List.append_nil, List.nil_append, List.cons_append, List.replicate_succ, Nat.reduceSub, Nat.reduceAdd, retS, retN, ret1, setS, sto, stoO, freeAt, free_dv, dv_some, dv_none, free_d, free_n, free_o, plain_dv, plain_dd, plain_n, dropS, seqS, ifS, raiS, nextS, brkS, cntS, unpS, tpG, itsOf, bindAll, optO, nmG, augS, chE, bind_ok, bind_er, bind_ite, out_ok, out_er, out_ite, seq_nx, seq_rt, seq_er, seq_bk, seq_ct, seq_ite, ite_and, ite_or, ite_and2, ite_or2, ite_andB, ite_orB, cE, varE, shE, shr, bi2, un1, opE, unE, rd, List.getElem?_cons_zero, List.getElem?_cons_succ, List.set_cons_zero, List.set_cons_succ, leD, ltD, gtD, geD, cmpD, eqD_str, neD_str, eqD_int, neD_int, inD_sign, isD, isNone, ifB, caE, consA, nilA, ca1, rdAll, dAll, lenD, intF, tupF, lstF, Option.map_some, Option.map_none, Option.bind_some, addD, intD, subI, modI, divI, adI, negD, mulD, revND, revD, tupE, lstE, mtE, okTy, isStr, isLst, stripF, callE, callI, truT, tru1, tru, truD, blT, notT, andT, orT, ifE, notE, andE, orE, if_true, Bool.not_true, Bool.not_false, Bool.true_and, Bool.and_true, Bool.false_and, Bool.or_false, Bool.false_or, Bool.true_or, Bool.or_true, Bool.and_false, Bool.false_xor, Bool.true_xor, slE, noP, someP, sl1, slD, seqI, its1, optI, forS, turn, lcE, wipeS, restS, plainAt, List.getD_cons_zero, List.getD_cons_succ, List.all_cons, List.all_nil, muE, mu1, lstAt, dArgs, appF, popF, rvsF, extF, rng1I, rng2I, enI, zipI, zip2, starA, subS, decide_true, decide_false, Int.reduceLT, Int.reduceLE, Nat.reduceLT, Nat.reduceLeDiff, true_and, and_true, Bool.false_eq_true, if_false, ite_true, ite_false, reduceIte, reduceCtorEq, Option.some.injEq, form_of_c _ _ _ hs hr hw, hb, hh0, hh1, hh2]
          exact ⟨_, rfl⟩
  · simp only [if_true]
    cases hh0 : numOk k
    · refine call_er (ds := [.int k, rulesD Rs, .str w]) rfl ?_
      simp only [b_is_kept, Gv, Gio, ins, List.map_cons, List.map_nil, List.length_cons, List.length_nil, Nat.sub_self, List.replicate_zero, List.append_nil, List.nil_append, List.cons_append, List.replicate_succ, Nat.reduceSub, Nat.reduceAdd, retS, retN, ret1, setS, sto, stoO, freeAt, free_dv, dv_some, dv_none, free_d, free_n, free_o, plain_dv, plain_dd, plain_n, dropS, seqS, ifS, raiS, nextS, brkS, cntS, unpS, tpG, itsOf, bindAll, optO, nmG, augS, chE, bind_ok, bind_er, bind_ite, out_ok, out_er, out_ite, seq_nx, seq_rt, seq_er, seq_bk, seq_ct, seq_ite, ite_and, ite_or, ite_and2, ite_or2, ite_andB, ite_orB, cE, varE, shE, shr, bi2, un1, opE, unE, rd, List.getElem?_cons_zero, List.getElem?_cons_succ, List.set_cons_zero, List.set_cons_succ, leD, ltD, gtD, geD, cmpD, eqD_str, neD_str, eqD_int, neD_int, inD_sign, isD, isNone, ifB, caE, consA, nilA, ca1, rdAll, dAll, lenD, intF, tupF, lstF, Option.map_some, Option.map_none, Option.bind_some, addD, intD, subI, modI, divI, adI, negD, mulD, revND, revD, tupE, lstE, mtE, okTy, isStr, isLst, stripF, callE, callI, truT, tru1, tru, truD, blT, notT, andT, orT, ifE, notE, andE, orE, if_true, Bool.not_true, Bool.not_false, Bool.true_and, Bool.and_true, Bool.false_and, Bool.or_false, Bool.false_or, Bool.true_or, Bool.or_true, Bool.and_false, Bool.false_xor, Bool.true_xor, slE, noP, someP, sl1, slD, seqI, its1, optI, forS, turn, lcE, wipeS, restS, plainAt, List.getD_cons_zero, List.getD_cons_succ, List.all_cons, List.all_nil, muE, mu1, lstAt, dArgs, appF, popF, rvsF, extF, rng1I, rng2I, enI, zipI, zip2, starA, subS, decide_true, decide_false, Int.reduceLT, Int.reduceLE, Nat.reduceLT, Nat.reduceLeDiff, true_and, and_true, Bool.false_eq_true, if_false, ite_true, ite_false, reduceIte, reduceCtorEq, Option.some.injEq, form_of_c _ _ _ hs hr hw, bad, hb, bad, hh0]
      exact ⟨_, rfl⟩
    · skip
      cases hh1 : areRules k Rs
      · refine call_er (ds := [.int k, rulesD Rs, .str w]) rfl ?_
        simp only [b_is_kept, Gv, Gio, ins, List.map_cons, List.map_nil, List.length_cons, List.length_nil, Nat.sub_self, List.replicate_zero, List.append_nil, List.nil_append, List.cons_append, List.replicate_succ, Nat.reduceSub, Nat.reduceAdd, retS, retN, ret1, setS, sto, stoO, freeAt, free_dv, dv_some, dv_none, free_d, free_n, free_o, plain_dv, plain_dd, plain_n, dropS, seqS, ifS, raiS, nextS, brkS, cntS, unpS, tpG, itsOf, bindAll, optO, nmG, augS, chE, bind_ok, bind_er, bind_ite, out_ok, out_er, out_ite, seq_nx, seq_rt, seq_er, seq_bk, seq_ct, seq_ite, ite_and, ite_or, ite_and2, ite_or2, ite_andB, ite_orB, cE, varE, shE, shr, bi2, un1, opE, unE, rd, List.getElem?_cons_zero, List.getElem?_cons_succ, List.set_cons_zero, List.set_cons_succ, leD, ltD, gtD, geD, cmpD, eqD_str, neD_str, eqD_int, neD_int, inD_sign, isD, isNone, ifB, caE, consA, nilA, ca1, rdAll, dAll, lenD, intF, tupF, lstF, Option.map_some, Option.map_none, Option.bind_some, addD, intD, subI, modI, divI, adI, negD, mulD, revND, revD, tupE, lstE, mtE, okTy, isStr, isLst, stripF, callE, callI, truT, tru1, tru, truD, blT, notT, andT, orT, ifE, notE, andE, orE, if_true, Bool.not_true, Bool.not_false, Bool.true_and, Bool.and_true, Bool.false_and, Bool.or_false, Bool.false_or, Bool.true_or, Bool.or_true, Bool.and_false, Bool.false_xor, Bool.true_xor, slE, noP, someP, sl1, slD, seqI, its1, optI, forS, turn, lcE, wipeS, restS, plainAt, List.getD_cons_zero, List.getD_cons_succ, List.all_cons, List.all_nil, muE, mu1, lstAt, dArgs, appF, popF, rvsF, extF, rng1I, rng2I, enI, zipI, zip2, starA, subS, decide_true, decide_false, Int.reduceLT, Int.reduceLE, Nat.reduceLT, Nat.reduceLeDiff, true_and, and_true, Bool.false_eq_true, if_false, ite_true, ite_false, reduceIte, reduceCtorEq, Option.some.injEq, form_of_c _ _ _ hs hr hw, bad, hb, bad, hh0, hh1]
        exact ⟨_, rfl⟩
      · skip
        cases hh2 : isWord k w
        · refine call_er (ds := [.int k, rulesD Rs, .str w]) rfl ?_
          simp only [b_is_kept, Gv, Gio, ins, List.map_cons, List.map_nil, List.length_cons, List.length_nil, Nat.sub_self, List.replicate_zero, List.append_nil, List.nil_append, List.cons_append, List.replicate_succ, Nat.reduceSub, Nat.reduceAdd, retS, retN, ret1, setS, sto, stoO, freeAt, free_dv, dv_some, dv_none, free_d, free_n, free_o, plain_dv, plain_dd, plain_n, dropS, seqS, ifS, raiS, nextS, brkS, cntS, unpS, tpG, itsOf, bindAll, optO, nmG, augS, chE, bind_ok, bind_er, bind_ite, out_ok, out_er, out_ite, seq_nx, seq_rt, seq_er, seq_bk, seq_ct, seq_ite, ite_and, ite_or, ite_and2, ite_or2, ite_andB, ite_orB, cE, varE, shE, shr, bi2, un1, opE, unE, rd, List.getElem?_cons_zero, List.getElem?_cons_succ, List.set_cons_zero, List.set_cons_succ, leD, ltD, gtD, geD, cmpD, eqD_str, neD_str, eqD_int, neD_int, inD_sign, isD, isNone, ifB, caE, consA, nilA, ca1, rdAll, dAll, lenD, intF, tupF, lstF, Option.map_some, Option.map_none, Option.bind_some, addD, intD, subI, modI, divI, adI, negD, mulD, revND, revD, tupE, lstE, mtE, okTy, isStr, isLst, stripF, callE, callI, truT, tru1, tru, truD, blT, notT, andT, orT, ifE, notE, andE, orE, if_true, Bool.not_true, Bool.not_false, Bool.true_and, Bool.and_true, Bool.false_and, Bool.or_false, Bool.false_or, Bool.true_or, Bool.or_true, Bool.and_false, Bool.false_xor, Bool.true_xor, slE, noP, someP, sl1, slD, seqI, its1, optI, forS, turn, lcE, wipeS, restS, plainAt, List.getD_cons_zero, List.getD_cons_succ, List.all_cons, List.all_nil, muE, mu1, lstAt, dArgs, appF, popF, rvsF, extF, rng1I, rng2I, enI, zipI, zip2, starA, subS, decide_true, decide_false, Int.reduceLT, Int.reduceLE, Nat.reduceLT, Nat.reduceLeDiff, true_and, and_true, Bool.false_eq_true, if_false, ite_true, ite_false, reduceIte, reduceCtorEq, Option.some.injEq, form_of_c _ _ _ hs hr hw, bad, hb, bad, hh0, hh1, hh2]
          exact ⟨_, rfl⟩
        · skip
          refine call_er (ds := [.int k, rulesD Rs, .str w]) rfl ?_
          simp only [b_is_kept, Gv, Gio, ins, List.map_cons, List.map_nil, List.length_cons, List.length_nil, Nat.sub_self, List.replicate_zero, List.append_nil, List.nil_append, List.cons_append, List.replicate_succ, Nat.reduceSub, Nat.reduceAdd, retS, retN, ret1, setS, sto, stoO, freeAt, free_dv, dv_some, dv_none, free_d, free_n, free_o, plain_dv, plain_dd, plain_n, dropS, seqS, ifS, raiS, nextS, brkS, cntS, unpS, tpG, itsOf, bindAll, optO, nmG, augS, chE, bind_ok, bind_er, bind_ite, out_ok, out_er, out_ite, seq_nx, seq_rt, seq_er, seq_bk, seq_ct, seq_ite, ite_and, ite_or, ite_and2, ite_or2, ite_andB, ite_orB, cE, varE, shE, shr, bi2, un1, opE, unE, rd, List.getElem?_cons_zero, List.getElem?_cons_succ, List.set_cons_zero, List.set_cons_succ, leD, ltD, gtD, geD, cmpD, eqD_str, neD_str, eqD_int, neD_int, inD_sign, isD, isNone, ifB, caE, consA, nilA, ca1, rdAll, dAll, lenD, intF, tupF, lstF, Option.map_some, Option.map_none, Option.bind_some, addD, intD, subI, modI, divI, adI, negD, mulD, revND, revD, tupE, lstE, mtE, okTy, isStr, isLst, stripF, callE, callI, truT, tru1, tru, truD, blT, notT, andT, orT, ifE, notE, andE, orE, if_true, Bool.not_true, Bool.not_false, Bool.true_and, Bool.and_true, Bool.false_and, Bool.or_false, Bool.false_or, Bool.true_or, Bool.or_true, Bool.and_false, Bool.false_xor, Bool.true_xor, slE, noP, someP, sl1, slD, seqI, its1, optI, forS, turn, lcE, wipeS, restS, plainAt, List.getD_cons_zero, List.getD_cons_succ, List.all_cons, List.all_nil, muE, mu1, lstAt, dArgs, appF, popF, rvsF, extF, rng1I, rng2I, enI, zipI, zip2, starA, subS, decide_true, decide_false, Int.reduceLT, Int.reduceLE, Nat.reduceLT, Nat.reduceLeDiff, true_and, and_true, Bool.false_eq_true, if_false, ite_true, ite_false, reduceIte, reduceCtorEq, Option.some.injEq, form_of_c _ _ _ hs hr hw, bad, hb, hh0, hh1, hh2]
          exact ⟨_, rfl⟩
theorem all_made {k : Int} {Rs : List Rl} (h : areRules k Rs = true) : Rs.length ≤ 8 ∧ ∀ R ∈ Rs, isRule k R = true := by
  unfold areRules at h
  rw [Bool.and_eq_true, decide_eq_true_eq, List.all_eq_true] at h
  exact ⟨by omega, h.2⟩
theorem turned_rules_c (k : Int) (Rs : List Rl) (hr : Rs.length ≤ 1000) (s : S) : call1 2 F_turned_rules [.d (.int k), .d (rulesD Rs)] s =
    if numOk k = true then (if areRules k Rs = true then .ok (.d (rulesD (Rs.map Rl.turn))) s else bad "NotRule" s) else bad "BadNumber" s := by
  have hi : itemsD (rulesD Rs) = some (Rs.map Rl.data) := rfl
  cases hh0 : numOk k
  · refine call_er (ds := [.int k, rulesD Rs]) rfl ?_
    simp only [b_turned_rules, Gv, Gio, ins, List.map_cons, List.map_nil, List.length_cons, List.length_nil, Nat.sub_self, List.replicate_zero, List.append_nil, List.nil_append, List.cons_append, List.replicate_succ, Nat.reduceSub, Nat.reduceAdd, retS, retN, ret1, setS, sto, stoO, freeAt, free_dv, dv_some, dv_none, free_d, free_n, free_o, plain_dv, plain_dd, plain_n, dropS, seqS, ifS, raiS, nextS, brkS, cntS, unpS, tpG, itsOf, bindAll, optO, nmG, augS, chE, bind_ok, bind_er, bind_ite, out_ok, out_er, out_ite, seq_nx, seq_rt, seq_er, seq_bk, seq_ct, seq_ite, ite_and, ite_or, ite_and2, ite_or2, ite_andB, ite_orB, cE, varE, shE, shr, bi2, un1, opE, unE, rd, List.getElem?_cons_zero, List.getElem?_cons_succ, List.set_cons_zero, List.set_cons_succ, leD, ltD, gtD, geD, cmpD, eqD_str, neD_str, eqD_int, neD_int, inD_sign, isD, isNone, ifB, caE, consA, nilA, ca1, rdAll, dAll, lenD, intF, tupF, lstF, Option.map_some, Option.map_none, Option.bind_some, addD, intD, subI, modI, divI, adI, negD, mulD, revND, revD, tupE, lstE, mtE, okTy, isStr, isLst, stripF, callE, callI, truT, tru1, tru, truD, blT, notT, andT, orT, ifE, notE, andE, orE, if_true, Bool.not_true, Bool.not_false, Bool.true_and, Bool.and_true, Bool.false_and, Bool.or_false, Bool.false_or, Bool.true_or, Bool.or_true, Bool.and_false, Bool.false_xor, Bool.true_xor, slE, noP, someP, sl1, slD, seqI, its1, optI, forS, turn, lcE, wipeS, restS, plainAt, List.getD_cons_zero, List.getD_cons_succ, List.all_cons, List.all_nil, muE, mu1, lstAt, dArgs, appF, popF, rvsF, extF, rng1I, rng2I, enI, zipI, zip2, starA, subS, decide_true, decide_false, Int.reduceLT, Int.reduceLE, Nat.reduceLT, Nat.reduceLeDiff, true_and, and_true, Bool.false_eq_true, if_false, ite_true, ite_false, reduceIte, reduceCtorEq, Option.some.injEq, check_rules_c _ _ (show Rs.length ≤ 16777216 by omega), bad, hh0]
    exact ⟨_, rfl⟩
  cases hh1 : areRules k Rs
  · refine call_er (ds := [.int k, rulesD Rs]) rfl ?_
    simp only [b_turned_rules, Gv, Gio, ins, List.map_cons, List.map_nil, List.length_cons, List.length_nil, Nat.sub_self, List.replicate_zero, List.append_nil, List.nil_append, List.cons_append, List.replicate_succ, Nat.reduceSub, Nat.reduceAdd, retS, retN, ret1, setS, sto, stoO, freeAt, free_dv, dv_some, dv_none, free_d, free_n, free_o, plain_dv, plain_dd, plain_n, dropS, seqS, ifS, raiS, nextS, brkS, cntS, unpS, tpG, itsOf, bindAll, optO, nmG, augS, chE, bind_ok, bind_er, bind_ite, out_ok, out_er, out_ite, seq_nx, seq_rt, seq_er, seq_bk, seq_ct, seq_ite, ite_and, ite_or, ite_and2, ite_or2, ite_andB, ite_orB, cE, varE, shE, shr, bi2, un1, opE, unE, rd, List.getElem?_cons_zero, List.getElem?_cons_succ, List.set_cons_zero, List.set_cons_succ, leD, ltD, gtD, geD, cmpD, eqD_str, neD_str, eqD_int, neD_int, inD_sign, isD, isNone, ifB, caE, consA, nilA, ca1, rdAll, dAll, lenD, intF, tupF, lstF, Option.map_some, Option.map_none, Option.bind_some, addD, intD, subI, modI, divI, adI, negD, mulD, revND, revD, tupE, lstE, mtE, okTy, isStr, isLst, stripF, callE, callI, truT, tru1, tru, truD, blT, notT, andT, orT, ifE, notE, andE, orE, if_true, Bool.not_true, Bool.not_false, Bool.true_and, Bool.and_true, Bool.false_and, Bool.or_false, Bool.false_or, Bool.true_or, Bool.or_true, Bool.and_false, Bool.false_xor, Bool.true_xor, slE, noP, someP, sl1, slD, seqI, its1, optI, forS, turn, lcE, wipeS, restS, plainAt, List.getD_cons_zero, List.getD_cons_succ, List.all_cons, List.all_nil, muE, mu1, lstAt, dArgs, appF, popF, rvsF, extF, rng1I, rng2I, enI, zipI, zip2, starA, subS, decide_true, decide_false, Int.reduceLT, Int.reduceLE, Nat.reduceLT, Nat.reduceLeDiff, true_and, and_true, Bool.false_eq_true, if_false, ite_true, ite_false, reduceIte, reduceCtorEq, Option.some.injEq, check_rules_c _ _ (show Rs.length ≤ 16777216 by omega), bad, hh0, hh1]
    exact ⟨_, rfl⟩
  refine call_rt (ds := [.int k, rulesD Rs]) rfl ?_
  simp only [b_turned_rules, Gv, Gio, ins, List.map_cons, List.map_nil, List.length_cons, List.length_nil, Nat.sub_self, List.replicate_zero, List.append_nil, List.nil_append, List.cons_append, List.replicate_succ, Nat.reduceSub, Nat.reduceAdd, retS, retN, ret1, setS, sto, stoO, freeAt, free_dv, dv_some, dv_none, free_d, free_n, free_o, plain_dv, plain_dd, plain_n, dropS, seqS, ifS, raiS, nextS, brkS, cntS, unpS, tpG, itsOf, bindAll, optO, nmG, augS, chE, bind_ok, bind_er, out_ok, out_er, seq_nx, seq_rt, seq_er, seq_bk, seq_ct, ite_and, ite_or, ite_and2, ite_or2, ite_andB, ite_orB, cE, varE, shE, shr, bi2, un1, opE, unE, rd, List.getElem?_cons_zero, List.getElem?_cons_succ, List.set_cons_zero, List.set_cons_succ, leD, ltD, gtD, geD, cmpD, eqD_str, neD_str, eqD_int, neD_int, inD_sign, isD, isNone, ifB, caE, consA, nilA, ca1, rdAll, dAll, lenD, intF, tupF, lstF, Option.map_some, Option.map_none, Option.bind_some, addD, intD, subI, modI, divI, adI, negD, mulD, revND, revD, tupE, lstE, mtE, okTy, isStr, isLst, stripF, callE, callI, truT, tru1, tru, truD, blT, notT, andT, orT, ifE, notE, andE, orE, if_true, Bool.not_true, Bool.not_false, Bool.true_and, Bool.and_true, Bool.false_and, Bool.or_false, Bool.false_or, Bool.true_or, Bool.or_true, Bool.and_false, Bool.false_xor, Bool.true_xor, slE, noP, someP, sl1, slD, seqI, its1, optI, forS, turn, lcE, wipeS, restS, plainAt, List.getD_cons_zero, List.getD_cons_succ, List.all_cons, List.all_nil, muE, mu1, lstAt, dArgs, appF, popF, rvsF, extF, rng1I, rng2I, enI, zipI, zip2, starA, subS, decide_true, decide_false, Int.reduceLT, Int.reduceLE, Nat.reduceLT, Nat.reduceLeDiff, true_and, and_true, Bool.false_eq_true, if_false, ite_true, ite_false, reduceIte, reduceCtorEq, Option.some.injEq, check_rules_c _ _ (show Rs.length ≤ 16777216 by omega), hh0, hh1, hi]
  rw [lcL_m (f := fun R => R.turn.data) (by rw [List.length_nil]; omega) fun R m => ⟨_, rfl, rfl, ?_⟩]
  · simp only [Gv, Gio, ins, List.map_cons, List.map_nil, List.length_cons, List.length_nil, Nat.sub_self, List.replicate_zero, List.append_nil, List.nil_append, List.cons_append, List.replicate_succ, Nat.reduceSub, Nat.reduceAdd, retS, retN, ret1, setS, sto, stoO, freeAt, free_dv, dv_some, dv_none, free_d, free_n, free_o, plain_dv, plain_dd, plain_n, dropS, seqS, ifS, raiS, nextS, brkS, cntS, unpS, tpG, itsOf, bindAll, optO, nmG, augS, chE, bind_ok, bind_er, out_ok, out_er, seq_nx, seq_rt, seq_er, seq_bk, seq_ct, ite_and, ite_or, ite_and2, ite_or2, ite_andB, ite_orB, cE, varE, shE, shr, bi2, un1, opE, unE, rd, List.getElem?_cons_zero, List.getElem?_cons_succ, List.set_cons_zero, List.set_cons_succ, leD, ltD, gtD, geD, cmpD, eqD_str, neD_str, eqD_int, neD_int, inD_sign, isD, isNone, ifB, caE, consA, nilA, ca1, rdAll, dAll, lenD, intF, tupF, lstF, Option.map_some, Option.map_none, Option.bind_some, addD, intD, subI, modI, divI, adI, negD, mulD, revND, revD, tupE, lstE, mtE, okTy, isStr, isLst, stripF, callE, callI, truT, tru1, tru, truD, blT, notT, andT, orT, ifE, notE, andE, orE, if_true, Bool.not_true, Bool.not_false, Bool.true_and, Bool.and_true, Bool.false_and, Bool.or_false, Bool.false_or, Bool.true_or, Bool.or_true, Bool.and_false, Bool.false_xor, Bool.true_xor, slE, noP, someP, sl1, slD, seqI, its1, optI, forS, turn, lcE, wipeS, restS, plainAt, List.getD_cons_zero, List.getD_cons_succ, List.all_cons, List.all_nil, muE, mu1, lstAt, dArgs, appF, popF, rvsF, extF, rng1I, rng2I, enI, zipI, zip2, starA, subS, decide_true, decide_false, Int.reduceLT, Int.reduceLE, Nat.reduceLT, Nat.reduceLeDiff, true_and, and_true, Bool.false_eq_true, if_false, ite_true, ite_false, reduceIte, reduceCtorEq, Option.some.injEq]
    rw [show (Rs.map fun R => R.turn.data) = (Rs.map Rl.turn).map Rl.data by rw [List.map_map]; rfl]
    exact ⟨_, rfl⟩
  · simp only [Gv, Gio, ins, List.map_cons, List.map_nil, List.length_cons, List.length_nil, Nat.sub_self, List.replicate_zero, List.append_nil, List.nil_append, List.cons_append, List.replicate_succ, Nat.reduceSub, Nat.reduceAdd, retS, retN, ret1, setS, sto, stoO, freeAt, free_dv, dv_some, dv_none, free_d, free_n, free_o, plain_dv, plain_dd, plain_n, dropS, seqS, ifS, raiS, nextS, brkS, cntS, unpS, tpG, itsOf, bindAll, optO, nmG, augS, chE, bind_ok, bind_er, out_ok, out_er, seq_nx, seq_rt, seq_er, seq_bk, seq_ct, ite_and, ite_or, ite_and2, ite_or2, ite_andB, ite_orB, cE, varE, shE, shr, bi2, un1, opE, unE, rd, List.getElem?_cons_zero, List.getElem?_cons_succ, List.set_cons_zero, List.set_cons_succ, leD, ltD, gtD, geD, cmpD, eqD_str, neD_str, eqD_int, neD_int, inD_sign, isD, isNone, ifB, caE, consA, nilA, ca1, rdAll, dAll, lenD, intF, tupF, lstF, Option.map_some, Option.map_none, Option.bind_some, addD, intD, subI, modI, divI, adI, negD, mulD, revND, revD, tupE, lstE, mtE, okTy, isStr, isLst, stripF, callE, callI, truT, tru1, tru, truD, blT, notT, andT, orT, ifE, notE, andE, orE, if_true, Bool.not_true, Bool.not_false, Bool.true_and, Bool.and_true, Bool.false_and, Bool.or_false, Bool.false_or, Bool.true_or, Bool.or_true, Bool.and_false, Bool.false_xor, Bool.true_xor, slE, noP, someP, sl1, slD, seqI, its1, optI, forS, turn, lcE, wipeS, restS, plainAt, List.getD_cons_zero, List.getD_cons_succ, List.all_cons, List.all_nil, muE, mu1, lstAt, dArgs, appF, popF, rvsF, extF, rng1I, rng2I, enI, zipI, zip2, starA, subS, decide_true, decide_false, Int.reduceLT, Int.reduceLE, Nat.reduceLT, Nat.reduceLeDiff, true_and, and_true, Bool.false_eq_true, if_false, ite_true, ite_false, reduceIte, reduceCtorEq, Option.some.injEq, turned_c, hh0, (all_made hh1).2 R m]
theorem renamed_rules_c (k : Int) (Rs : List Rl) (n : Str) (hr : Rs.length ≤ 1000) (hn : n.length < 64) (h : ∀ R ∈ Rs, isRule k R = true → namesOk k n = true → RenR k R n) (s : S) : call1 3 F_renamed_rules [.d (.int k), .d (rulesD Rs), .d (.str n)] s =
    if numOk k = true then (if areRules k Rs = true then (if namesOk k n = true then .ok (.d (rulesD (Rs.map (Rl.ren n)))) s else bad "NotWord" s) else bad "NotRule" s) else bad "BadNumber" s := by
  have hi : itemsD (rulesD Rs) = some (Rs.map Rl.data) := rfl
  cases hh0 : numOk k
  · refine call_er (ds := [.int k, rulesD Rs, .str n]) rfl ?_
    simp only [b_renamed_rules, Gv, Gio, ins, List.map_cons, List.map_nil, List.length_cons, List.length_nil, Nat.sub_self, List.replicate_zero, List.append_nil, List.nil_append, List.cons_append, List.replicate_succ, Nat.reduceSub, Nat.reduceAdd, retS, retN, ret1, setS, sto, stoO, freeAt, free_dv, dv_some, dv_none, free_d, free_n, free_o, plain_dv, plain_dd, plain_n, dropS, seqS, ifS, raiS, nextS, brkS, cntS, unpS, tpG, itsOf, bindAll, optO, nmG, augS, chE, bind_ok, bind_er, bind_ite, out_ok, out_er, out_ite, seq_nx, seq_rt, seq_er, seq_bk, seq_ct, seq_ite, ite_and, ite_or, ite_and2, ite_or2, ite_andB, ite_orB, cE, varE, shE, shr, bi2, un1, opE, unE, rd, List.getElem?_cons_zero, List.getElem?_cons_succ, List.set_cons_zero, List.set_cons_succ, leD, ltD, gtD, geD, cmpD, eqD_str, neD_str, eqD_int, neD_int, inD_sign, isD, isNone, ifB, caE, consA, nilA, ca1, rdAll, dAll, lenD, intF, tupF, lstF, Option.map_some, Option.map_none, Option.bind_some, addD, intD, subI, modI, divI, adI, negD, mulD, revND, revD, tupE, lstE, mtE, okTy, isStr, isLst, stripF, callE, callI, truT, tru1, tru, truD, blT, notT, andT, orT, ifE, notE, andE, orE, if_true, Bool.not_true, Bool.not_false, Bool.true_and, Bool.and_true, Bool.false_and, Bool.or_false, Bool.false_or, Bool.true_or, Bool.or_true, Bool.and_false, Bool.false_xor, Bool.true_xor, slE, noP, someP, sl1, slD, seqI, its1, optI, forS, turn, lcE, wipeS, restS, plainAt, List.getD_cons_zero, List.getD_cons_succ, List.all_cons, List.all_nil, muE, mu1, lstAt, dArgs, appF, popF, rvsF, extF, rng1I, rng2I, enI, zipI, zip2, starA, subS, decide_true, decide_false, Int.reduceLT, Int.reduceLE, Nat.reduceLT, Nat.reduceLeDiff, true_and, and_true, Bool.false_eq_true, if_false, ite_true, ite_false, reduceIte, reduceCtorEq, Option.some.injEq, check_rules_c _ _ (show Rs.length ≤ 16777216 by omega), bad, hh0]
    exact ⟨_, rfl⟩
  cases hh1 : areRules k Rs
  · refine call_er (ds := [.int k, rulesD Rs, .str n]) rfl ?_
    simp only [b_renamed_rules, Gv, Gio, ins, List.map_cons, List.map_nil, List.length_cons, List.length_nil, Nat.sub_self, List.replicate_zero, List.append_nil, List.nil_append, List.cons_append, List.replicate_succ, Nat.reduceSub, Nat.reduceAdd, retS, retN, ret1, setS, sto, stoO, freeAt, free_dv, dv_some, dv_none, free_d, free_n, free_o, plain_dv, plain_dd, plain_n, dropS, seqS, ifS, raiS, nextS, brkS, cntS, unpS, tpG, itsOf, bindAll, optO, nmG, augS, chE, bind_ok, bind_er, bind_ite, out_ok, out_er, out_ite, seq_nx, seq_rt, seq_er, seq_bk, seq_ct, seq_ite, ite_and, ite_or, ite_and2, ite_or2, ite_andB, ite_orB, cE, varE, shE, shr, bi2, un1, opE, unE, rd, List.getElem?_cons_zero, List.getElem?_cons_succ, List.set_cons_zero, List.set_cons_succ, leD, ltD, gtD, geD, cmpD, eqD_str, neD_str, eqD_int, neD_int, inD_sign, isD, isNone, ifB, caE, consA, nilA, ca1, rdAll, dAll, lenD, intF, tupF, lstF, Option.map_some, Option.map_none, Option.bind_some, addD, intD, subI, modI, divI, adI, negD, mulD, revND, revD, tupE, lstE, mtE, okTy, isStr, isLst, stripF, callE, callI, truT, tru1, tru, truD, blT, notT, andT, orT, ifE, notE, andE, orE, if_true, Bool.not_true, Bool.not_false, Bool.true_and, Bool.and_true, Bool.false_and, Bool.or_false, Bool.false_or, Bool.true_or, Bool.or_true, Bool.and_false, Bool.false_xor, Bool.true_xor, slE, noP, someP, sl1, slD, seqI, its1, optI, forS, turn, lcE, wipeS, restS, plainAt, List.getD_cons_zero, List.getD_cons_succ, List.all_cons, List.all_nil, muE, mu1, lstAt, dArgs, appF, popF, rvsF, extF, rng1I, rng2I, enI, zipI, zip2, starA, subS, decide_true, decide_false, Int.reduceLT, Int.reduceLE, Nat.reduceLT, Nat.reduceLeDiff, true_and, and_true, Bool.false_eq_true, if_false, ite_true, ite_false, reduceIte, reduceCtorEq, Option.some.injEq, check_rules_c _ _ (show Rs.length ≤ 16777216 by omega), bad, hh0, hh1]
    exact ⟨_, rfl⟩
  cases hh2 : namesOk k n
  · refine call_er (ds := [.int k, rulesD Rs, .str n]) rfl ?_
    simp only [b_renamed_rules, Gv, Gio, ins, List.map_cons, List.map_nil, List.length_cons, List.length_nil, Nat.sub_self, List.replicate_zero, List.append_nil, List.nil_append, List.cons_append, List.replicate_succ, Nat.reduceSub, Nat.reduceAdd, retS, retN, ret1, setS, sto, stoO, freeAt, free_dv, dv_some, dv_none, free_d, free_n, free_o, plain_dv, plain_dd, plain_n, dropS, seqS, ifS, raiS, nextS, brkS, cntS, unpS, tpG, itsOf, bindAll, optO, nmG, augS, chE, bind_ok, bind_er, bind_ite, out_ok, out_er, out_ite, seq_nx, seq_rt, seq_er, seq_bk, seq_ct, seq_ite, ite_and, ite_or, ite_and2, ite_or2, ite_andB, ite_orB, cE, varE, shE, shr, bi2, un1, opE, unE, rd, List.getElem?_cons_zero, List.getElem?_cons_succ, List.set_cons_zero, List.set_cons_succ, leD, ltD, gtD, geD, cmpD, eqD_str, neD_str, eqD_int, neD_int, inD_sign, isD, isNone, ifB, caE, consA, nilA, ca1, rdAll, dAll, lenD, intF, tupF, lstF, Option.map_some, Option.map_none, Option.bind_some, addD, intD, subI, modI, divI, adI, negD, mulD, revND, revD, tupE, lstE, mtE, okTy, isStr, isLst, stripF, callE, callI, truT, tru1, tru, truD, blT, notT, andT, orT, ifE, notE, andE, orE, if_true, Bool.not_true, Bool.not_false, Bool.true_and, Bool.and_true, Bool.false_and, Bool.or_false, Bool.false_or, Bool.true_or, Bool.or_true, Bool.and_false, Bool.false_xor, Bool.true_xor, slE, noP, someP, sl1, slD, seqI, its1, optI, forS, turn, lcE, wipeS, restS, plainAt, List.getD_cons_zero, List.getD_cons_succ, List.all_cons, List.all_nil, muE, mu1, lstAt, dArgs, appF, popF, rvsF, extF, rng1I, rng2I, enI, zipI, zip2, starA, subS, decide_true, decide_false, Int.reduceLT, Int.reduceLE, Nat.reduceLT, Nat.reduceLeDiff, true_and, and_true, Bool.false_eq_true, if_false, ite_true, ite_false, reduceIte, reduceCtorEq, Option.some.injEq, check_rules_c _ _ (show Rs.length ≤ 16777216 by omega), check_names_c _ _ hn, bad, hh0, hh1, hh2]
    exact ⟨_, rfl⟩
  refine call_rt (ds := [.int k, rulesD Rs, .str n]) rfl ?_
  simp only [b_renamed_rules, Gv, Gio, ins, List.map_cons, List.map_nil, List.length_cons, List.length_nil, Nat.sub_self, List.replicate_zero, List.append_nil, List.nil_append, List.cons_append, List.replicate_succ, Nat.reduceSub, Nat.reduceAdd, retS, retN, ret1, setS, sto, stoO, freeAt, free_dv, dv_some, dv_none, free_d, free_n, free_o, plain_dv, plain_dd, plain_n, dropS, seqS, ifS, raiS, nextS, brkS, cntS, unpS, tpG, itsOf, bindAll, optO, nmG, augS, chE, bind_ok, bind_er, out_ok, out_er, seq_nx, seq_rt, seq_er, seq_bk, seq_ct, ite_and, ite_or, ite_and2, ite_or2, ite_andB, ite_orB, cE, varE, shE, shr, bi2, un1, opE, unE, rd, List.getElem?_cons_zero, List.getElem?_cons_succ, List.set_cons_zero, List.set_cons_succ, leD, ltD, gtD, geD, cmpD, eqD_str, neD_str, eqD_int, neD_int, inD_sign, isD, isNone, ifB, caE, consA, nilA, ca1, rdAll, dAll, lenD, intF, tupF, lstF, Option.map_some, Option.map_none, Option.bind_some, addD, intD, subI, modI, divI, adI, negD, mulD, revND, revD, tupE, lstE, mtE, okTy, isStr, isLst, stripF, callE, callI, truT, tru1, tru, truD, blT, notT, andT, orT, ifE, notE, andE, orE, if_true, Bool.not_true, Bool.not_false, Bool.true_and, Bool.and_true, Bool.false_and, Bool.or_false, Bool.false_or, Bool.true_or, Bool.or_true, Bool.and_false, Bool.false_xor, Bool.true_xor, slE, noP, someP, sl1, slD, seqI, its1, optI, forS, turn, lcE, wipeS, restS, plainAt, List.getD_cons_zero, List.getD_cons_succ, List.all_cons, List.all_nil, muE, mu1, lstAt, dArgs, appF, popF, rvsF, extF, rng1I, rng2I, enI, zipI, zip2, starA, subS, decide_true, decide_false, Int.reduceLT, Int.reduceLE, Nat.reduceLT, Nat.reduceLeDiff, true_and, and_true, Bool.false_eq_true, if_false, ite_true, ite_false, reduceIte, reduceCtorEq, Option.some.injEq, check_rules_c _ _ (show Rs.length ≤ 16777216 by omega), check_names_c _ _ hn, hh0, hh1, hh2, hi]
  rw [lcL_m (f := fun R => (R.ren n).data) (by rw [List.length_nil]; omega) fun R m => ⟨_, rfl, rfl, ?_⟩]
  · simp only [Gv, Gio, ins, List.map_cons, List.map_nil, List.length_cons, List.length_nil, Nat.sub_self, List.replicate_zero, List.append_nil, List.nil_append, List.cons_append, List.replicate_succ, Nat.reduceSub, Nat.reduceAdd, retS, retN, ret1, setS, sto, stoO, freeAt, free_dv, dv_some, dv_none, free_d, free_n, free_o, plain_dv, plain_dd, plain_n, dropS, seqS, ifS, raiS, nextS, brkS, cntS, unpS, tpG, itsOf, bindAll, optO, nmG, augS, chE, bind_ok, bind_er, out_ok, out_er, seq_nx, seq_rt, seq_er, seq_bk, seq_ct, ite_and, ite_or, ite_and2, ite_or2, ite_andB, ite_orB, cE, varE, shE, shr, bi2, un1, opE, unE, rd, List.getElem?_cons_zero, List.getElem?_cons_succ, List.set_cons_zero, List.set_cons_succ, leD, ltD, gtD, geD, cmpD, eqD_str, neD_str, eqD_int, neD_int, inD_sign, isD, isNone, ifB, caE, consA, nilA, ca1, rdAll, dAll, lenD, intF, tupF, lstF, Option.map_some, Option.map_none, Option.bind_some, addD, intD, subI, modI, divI, adI, negD, mulD, revND, revD, tupE, lstE, mtE, okTy, isStr, isLst, stripF, callE, callI, truT, tru1, tru, truD, blT, notT, andT, orT, ifE, notE, andE, orE, if_true, Bool.not_true, Bool.not_false, Bool.true_and, Bool.and_true, Bool.false_and, Bool.or_false, Bool.false_or, Bool.true_or, Bool.or_true, Bool.and_false, Bool.false_xor, Bool.true_xor, slE, noP, someP, sl1, slD, seqI, its1, optI, forS, turn, lcE, wipeS, restS, plainAt, List.getD_cons_zero, List.getD_cons_succ, List.all_cons, List.all_nil, muE, mu1, lstAt, dArgs, appF, popF, rvsF, extF, rng1I, rng2I, enI, zipI, zip2, starA, subS, decide_true, decide_false, Int.reduceLT, Int.reduceLE, Nat.reduceLT, Nat.reduceLeDiff, true_and, and_true, Bool.false_eq_true, if_false, ite_true, ite_false, reduceIte, reduceCtorEq, Option.some.injEq]
    rw [show (Rs.map fun R => (R.ren n).data) = (Rs.map (Rl.ren n)).map Rl.data by rw [List.map_map]; rfl]
    exact ⟨_, rfl⟩
  · have hm := (all_made hh1).2 R m
    simp only [Gv, Gio, ins, List.map_cons, List.map_nil, List.length_cons, List.length_nil, Nat.sub_self, List.replicate_zero, List.append_nil, List.nil_append, List.cons_append, List.replicate_succ, Nat.reduceSub, Nat.reduceAdd, retS, retN, ret1, setS, sto, stoO, freeAt, free_dv, dv_some, dv_none, free_d, free_n, free_o, plain_dv, plain_dd, plain_n, dropS, seqS, ifS, raiS, nextS, brkS, cntS, unpS, tpG, itsOf, bindAll, optO, nmG, augS, chE, bind_ok, bind_er, out_ok, out_er, seq_nx, seq_rt, seq_er, seq_bk, seq_ct, ite_and, ite_or, ite_and2, ite_or2, ite_andB, ite_orB, cE, varE, shE, shr, bi2, un1, opE, unE, rd, List.getElem?_cons_zero, List.getElem?_cons_succ, List.set_cons_zero, List.set_cons_succ, leD, ltD, gtD, geD, cmpD, eqD_str, neD_str, eqD_int, neD_int, inD_sign, isD, isNone, ifB, caE, consA, nilA, ca1, rdAll, dAll, lenD, intF, tupF, lstF, Option.map_some, Option.map_none, Option.bind_some, addD, intD, subI, modI, divI, adI, negD, mulD, revND, revD, tupE, lstE, mtE, okTy, isStr, isLst, stripF, callE, callI, truT, tru1, tru, truD, blT, notT, andT, orT, ifE, notE, andE, orE, if_true, Bool.not_true, Bool.not_false, Bool.true_and, Bool.and_true, Bool.false_and, Bool.or_false, Bool.false_or, Bool.true_or, Bool.or_true, Bool.and_false, Bool.false_xor, Bool.true_xor, slE, noP, someP, sl1, slD, seqI, its1, optI, forS, turn, lcE, wipeS, restS, plainAt, List.getD_cons_zero, List.getD_cons_succ, List.all_cons, List.all_nil, muE, mu1, lstAt, dArgs, appF, popF, rvsF, extF, rng1I, rng2I, enI, zipI, zip2, starA, subS, decide_true, decide_false, Int.reduceLT, Int.reduceLE, Nat.reduceLT, Nat.reduceLeDiff, true_and, and_true, Bool.false_eq_true, if_false, ite_true, ite_false, reduceIte, reduceCtorEq, Option.some.injEq, renamed_c k R n hn (h R m), hh0, hm, hh2]
end M

set_option Elab.async false
set_option linter.all false
set_option maxRecDepth 100000
set_option maxHeartbeats 4000000
/-! What a law draws: from the script's numbers, words, rules, names. -/
namespace M
open PySem PySem.Spec L2 Sv

/-- numbers that are left to draw -/
def Dr (ds : List D) : Prop := ∀ d ∈ ds, ∃ n : Int, d = .int n ∧ 0 ≤ n ∧ n < 1000
theorem Dr.nil : Dr [] := fun _ m => nomatch m
theorem Dr.app {a b : List D} (h : Dr a) (g : Dr b) : Dr (a ++ b) := fun d m => (List.mem_append.mp m).elim (h d) (g d)
theorem Dr.rev {a : List D} (h : Dr a) : Dr a.reverse := fun d m => h d (List.mem_reverse.mp m)
theorem Dr.one {n : Int} : Dr [.int (n % 1000)] := fun d m => by
  rw [List.mem_singleton.mp m]
  exact ⟨_, rfl, Int.emod_nonneg _ (by decide), Int.emod_lt_of_pos _ (by decide)⟩
theorem Dr.three {a b c : Int} : Dr [.int (a % 1000), .int (b % 1000), .int (c % 1000)] := by
  have := (Dr.one (n := a)).app ((Dr.one (n := b)).app (Dr.one (n := c)))
  exact this
section
variable {n N : Nat} {b : S → Out} {s : S} {o : Ob} {ns : List Int}
theorem call_s (h : ∃ s1, b (some (.s ns) :: List.replicate (N - 1) none) = .rt (.o true o) s1) : call1 1 (fin N b) [.s ns] s = .ok (.o true o) s := by
  obtain ⟨s1, e⟩ := h
  have e2 : fin N b [some (.s ns)] = .ok (.o true o) (outs [some (.s ns)] s1) := by
    show fin1 [some (.s ns)] (b (some (.s ns) :: List.replicate (N - 1) none)) = _
    rw [e]
    rfl
  show (if (refs [.s ns]).Nodup ∧ 1 = 1 ∧ plainA [.s ns] = true then callR [.s ns] s (fin N b [some (.s ns)]) else .no) = _
  rw [if_pos ⟨List.nodup_nil, rfl, rfl⟩, e2]
  cases s1 <;> rfl
end
/-- a def that draws: from these numbers, it leaves those -/
def At (n : Nat) (F : S → ER Vl) (as : List Vl) (ds ds' : List D) (v : Vl) : Prop := ∀ (s : S) (i : Nat) (f : Bool), s[i]? = some (some (.o f (.L ds))) → call1 n F (.r i :: as) s = .ok v (s.set i (some (.o f (.L ds'))))
section
variable {n N : Nat} {F : S → ER Vl} {b : S → Out} {as : List Vl} {ds ds' o o' : List D} {v : Vl} {x : D} {q : Ob}
theorem At.z (h : At n F as ds ds' v) (f : Bool) (r : S) : call1 n F (.r 0 :: as) (some (.o f (.L ds)) :: r) = .ok v (some (.o f (.L ds')) :: r) := h _ 0 f rfl
theorem At.p (h : At n F as ds ds' v) (f : Bool) (x : Option Vl) (r : S) : call1 n F (.r 1 :: as) (x :: some (.o f (.L ds)) :: r) = .ok v (x :: some (.o f (.L ds')) :: r) := h _ 1 f rfl
theorem at_rt (hn : ds.length + 1 = n) (h : ∃ s1, Gio (.L o) ds N b = .rt (.d x) s1 ∧ s1[0]? = some (some (.o false (.L o')))) : At n (fin N b) (ds.map .d) o o' (.d x) := fun _ _ _ hs => io_rt hs hn h
theorem at_ob (hn : ds.length + 1 = n) (h : ∃ s1, Gio (.L o) ds N b = .rt (.o true q) s1 ∧ s1[0]? = some (some (.o false (.L o')))) : At n (fin N b) (ds.map .d) o o' (.o true q) := fun _ _ _ hs => io_ob hs hn h
theorem at_nx (hn : ds.length + 1 = n) (h : ∃ s1, Gio (.L o) ds N b = .nx s1 ∧ s1[0]? = some (some (.o false (.L o')))) : At n (fin N b) (ds.map .d) o o' (.d .none) := fun _ _ _ hs => io_nx hs hn h
end
section
variable {α : Type} {i : α → D} {g : Tg} {b : S → Out}
/-- a walk that may be broken off -/
theorem forL_b {St : Nat → S → Prop} {s : S} {xs : List α} (h0 : St 0 s) (h : ∀ n a, xs[n]? = some a → ∀ s, St n s → ∃ s2, (turn g b (i a) s = .nx s2 ∨ turn g b (i a) s = .ct s2 ∨ turn g b (i a) s = .bk s2) ∧ St (n + 1) s2) : ∃ m s', m ≤ xs.length ∧ forL g b (xs.map i) s = .nx s' ∧ St m s' := by
  suffices hh : ∀ (ys : List α) (k : Nat) (s : S), (∀ n a, ys[n]? = some a → ∀ s, St (k + n) s → ∃ s2, (turn g b (i a) s = .nx s2 ∨ turn g b (i a) s = .ct s2 ∨ turn g b (i a) s = .bk s2) ∧ St (k + n + 1) s2) → St k s → ∃ m s', m ≤ k + ys.length ∧ forL g b (ys.map i) s = .nx s' ∧ St m s' by
    have := hh xs 0 s (fun n a e s hs => by rw [Nat.zero_add] at hs ⊢; exact h n a e s hs) h0
    rw [Nat.zero_add] at this
    exact this
  intro ys
  induction ys with
  | nil => exact fun k s _ hs => ⟨k, s, Nat.le_refl _, rfl, hs⟩
  | cons a ys ih =>
    intro k s h hs
    obtain ⟨s2, h2, h3⟩ := h 0 a rfl s hs
    have on : (turn g b (i a) s = .nx s2 ∨ turn g b (i a) s = .ct s2) → ∃ m s', m ≤ k + (a :: ys).length ∧ forL g b ((a :: ys).map i) s = .nx s' ∧ St m s' := fun h2 => by
      obtain ⟨m, s', e0, e1, e2⟩ := ih (k + 1) s2 (fun n b e s q => by
        have := h (n + 1) b (by simpa using e) s (by rw [show k + (n + 1) = k + 1 + n by omega]; exact q)
        rw [show k + (n + 1) + 1 = k + 1 + n + 1 by omega] at this
        exact this) h3
      refine ⟨m, s', by rw [List.length_cons]; omega, ?_, e2⟩
      rw [List.map_cons, forL_cons]
      rcases h2 with h2 | h2 <;> rw [h2] <;> exact e1
    rcases h2 with h2 | h2 | h2
    · exact on (.inl h2)
    · exact on (.inr h2)
    · refine ⟨k + 0 + 1, s2, by rw [List.length_cons]; omega, ?_, h3⟩
      rw [List.map_cons, forL_cons, h2]
      rfl
end
theorem law_number_c (i : Int) (s : S) : call1 1 F_law_number [.d (.int i)] s = .ok (.d (.int ((i.natAbs : Nat) : Int))) s := by
  refine call_rt (ds := [.int i]) rfl ?_
  by_cases h : i < 0
  · simp only [b_law_number, Gv, Gio, ins, List.map_cons, List.map_nil, List.length_cons, List.length_nil, Nat.sub_self, List.replicate_zero, List.append_nil, List.nil_append, List.cons_append, List.replicate_succ, Nat.reduceSub, Nat.reduceAdd, retS, retN, ret1, setS, sto, stoO, freeAt, free_dv, dv_some, dv_none, free_d, free_n, free_o, plain_dv, plain_dd, plain_n, dropS, seqS, ifS, raiS, nextS, brkS, cntS, unpS, tpG, itsOf, bindAll, optO, nmG, augS, chE, bind_ok, bind_er, bind_ite, out_ok, out_er, out_ite, seq_nx, seq_rt, seq_er, seq_bk, seq_ct, seq_ite, ite_and, ite_or, ite_and2, ite_or2, ite_andB, ite_orB, cE, varE, shE, shr, bi2, un1, opE, unE, rd, List.getElem?_cons_zero, List.getElem?_cons_succ, List.set_cons_zero, List.set_cons_succ, leD, ltD, gtD, geD, cmpD, eqD_str, neD_str, eqD_int, neD_int, inD_sign, isD, isNone, ifB, caE, consA, nilA, ca1, rdAll, dAll, lenD, intF, tupF, lstF, Option.map_some, Option.map_none, Option.bind_some, addD, intD, subI, modI, divI, adI, negD, mulD, revND, revD, tupE, lstE, mtE, okTy, isStr, isLst, stripF, callE, callI, truT, tru1, tru, truD, blT, notT, andT, orT, ifE, notE, andE, orE, if_true, Bool.not_true, Bool.not_false, Bool.true_and, Bool.and_true, Bool.false_and, Bool.or_false, Bool.false_or, Bool.true_or, Bool.or_true, Bool.and_false, Bool.false_xor, Bool.true_xor, slE, noP, someP, sl1, slD, seqI, its1, optI, forS, turn, lcE, wipeS, restS, plainAt, List.getD_cons_zero, List.getD_cons_succ, List.all_cons, List.all_nil, muE, mu1, lstAt, dArgs, appF, popF, rvsF, extF, rng1I, rng2I, enI, zipI, zip2, starA, subS, decide_true, decide_false, Int.reduceLT, Int.reduceLE, Nat.reduceLT, Nat.reduceLeDiff, true_and, and_true, Bool.false_eq_true, if_false, ite_true, ite_false, reduceIte, reduceCtorEq, Option.some.injEq, h, decide_true]
    rw [show ((i.natAbs : Nat) : Int) = 0 - i by omega]
    exact ⟨_, rfl⟩
  · simp only [b_law_number, Gv, Gio, ins, List.map_cons, List.map_nil, List.length_cons, List.length_nil, Nat.sub_self, List.replicate_zero, List.append_nil, List.nil_append, List.cons_append, List.replicate_succ, Nat.reduceSub, Nat.reduceAdd, retS, retN, ret1, setS, sto, stoO, freeAt, free_dv, dv_some, dv_none, free_d, free_n, free_o, plain_dv, plain_dd, plain_n, dropS, seqS, ifS, raiS, nextS, brkS, cntS, unpS, tpG, itsOf, bindAll, optO, nmG, augS, chE, bind_ok, bind_er, bind_ite, out_ok, out_er, out_ite, seq_nx, seq_rt, seq_er, seq_bk, seq_ct, seq_ite, ite_and, ite_or, ite_and2, ite_or2, ite_andB, ite_orB, cE, varE, shE, shr, bi2, un1, opE, unE, rd, List.getElem?_cons_zero, List.getElem?_cons_succ, List.set_cons_zero, List.set_cons_succ, leD, ltD, gtD, geD, cmpD, eqD_str, neD_str, eqD_int, neD_int, inD_sign, isD, isNone, ifB, caE, consA, nilA, ca1, rdAll, dAll, lenD, intF, tupF, lstF, Option.map_some, Option.map_none, Option.bind_some, addD, intD, subI, modI, divI, adI, negD, mulD, revND, revD, tupE, lstE, mtE, okTy, isStr, isLst, stripF, callE, callI, truT, tru1, tru, truD, blT, notT, andT, orT, ifE, notE, andE, orE, if_true, Bool.not_true, Bool.not_false, Bool.true_and, Bool.and_true, Bool.false_and, Bool.or_false, Bool.false_or, Bool.true_or, Bool.or_true, Bool.and_false, Bool.false_xor, Bool.true_xor, slE, noP, someP, sl1, slD, seqI, its1, optI, forS, turn, lcE, wipeS, restS, plainAt, List.getD_cons_zero, List.getD_cons_succ, List.all_cons, List.all_nil, muE, mu1, lstAt, dArgs, appF, popF, rvsF, extF, rng1I, rng2I, enI, zipI, zip2, starA, subS, decide_true, decide_false, Int.reduceLT, Int.reduceLE, Nat.reduceLT, Nat.reduceLeDiff, true_and, and_true, Bool.false_eq_true, if_false, ite_true, ite_false, reduceIte, reduceCtorEq, Option.some.injEq, h, decide_false]
    rw [show ((i.natAbs : Nat) : Int) = i by omega]
    exact ⟨_, rfl⟩
theorem law_draws_c (ns : List Int) (hn : ns.length ≤ 63) (s : S) : ∃ ds, call1 1 F_law_draws [.s ns] s = .ok (.o true (.L ds)) s ∧ Dr ds := by
  have hb1 : bits64 48271 = true := by decide +kernel
  have hb2 : bits64 69621 = true := by decide +kernel
  have hsm : smI 60 = true := by decide +kernel
  have inner : ∀ (m : Nat) (c : D) (r : Int) (ds : List D) (k o t : Option D), Dr ds → ds.length ≤ 10000 → ∃ s', forL (nmG 4) b_law_draws_1 (rngL 0 (Int.toNat 60)) [some (.s ns), some (.o true (.L ds)), some (.d c), some (.d (.int r)), dv k, dv o, dv t] = .nx s' ∧
      ∃ ds' r' k', s' = [some (.s ns), some (.o true (.L ds')), some (.d c), some (.d (.int r')), dv k', dv o, dv t] ∧ Dr ds' ∧ ds'.length ≤ ds.length + 60 := fun _ c r ds k o t hd hl => by
    rw [rng_zero]
    obtain ⟨m, s', e0, e1, ds', r', k', e2, e3, e4⟩ := forL_b (g := nmG 4) (b := b_law_draws_1) (i := fun j : Nat => .int ((j : Nat) : Int)) (xs := List.range (Int.toNat 60)) (s := [some (.s ns), some (.o true (.L ds)), some (.d c), some (.d (.int r)), dv k, dv o, dv t])
      (St := fun m s => ∃ ds' r' k', s = [some (.s ns), some (.o true (.L ds')), some (.d c), some (.d (.int r')), dv k', dv o, dv t] ∧ Dr ds' ∧ ds'.length ≤ ds.length + m) ⟨ds, r, k, rfl, hd, Nat.le_refl _⟩ (by
        rintro m a em s ⟨ds', r', k', rfl, hd', hl'⟩
        have hm : m < 60 := by
          have := (List.getElem?_eq_some_iff.mp em).1
          rw [List.length_range] at this
          exact this
        cases hz : decide (r' = 0)
        · have hlt : ds'.length < 16777216 := by omega
          refine ⟨_, .inl ?_, ds' ++ [.int (r' % 1000)], r' / 1000, some (.int ((a : Nat) : Int)), rfl, hd'.app Dr.one, by rw [List.length_append]; show _ + 1 ≤ _; omega⟩
          simp only [b_law_draws_1, Gv, Gio, ins, List.map_cons, List.map_nil, List.length_cons, List.length_nil, Nat.sub_self, List.replicate_zero, List.append_nil, List.nil_append, List.cons_append, List.replicate_succ, Nat.reduceSub, Nat.reduceAdd, retS, retN, ret1, setS, sto, stoO, freeAt, free_dv, dv_some, dv_none, free_d, free_n, free_o, plain_dv, plain_dd, plain_n, dropS, seqS, ifS, raiS, nextS, brkS, cntS, unpS, tpG, itsOf, bindAll, optO, nmG, augS, chE, bind_ok, bind_er, bind_ite, out_ok, out_er, out_ite, seq_nx, seq_rt, seq_er, seq_bk, seq_ct, seq_ite, ite_and, ite_or, ite_and2, ite_or2, ite_andB, ite_orB, cE, varE, shE, shr, bi2, un1, opE, unE, rd, List.getElem?_cons_zero, List.getElem?_cons_succ, List.set_cons_zero, List.set_cons_succ, leD, ltD, gtD, geD, cmpD, eqD_str, neD_str, eqD_int, neD_int, inD_sign, isD, isNone, ifB, caE, consA, nilA, ca1, rdAll, dAll, lenD, intF, tupF, lstF, Option.map_some, Option.map_none, Option.bind_some, addD, intD, subI, modI, divI, adI, negD, mulD, revND, revD, tupE, lstE, mtE, okTy, isStr, isLst, stripF, callE, callI, truT, tru1, tru, truD, blT, notT, andT, orT, ifE, notE, andE, orE, if_true, Bool.not_true, Bool.not_false, Bool.true_and, Bool.and_true, Bool.false_and, Bool.or_false, Bool.false_or, Bool.true_or, Bool.or_true, Bool.and_false, Bool.false_xor, Bool.true_xor, slE, noP, someP, sl1, slD, seqI, its1, optI, forS, turn, lcE, wipeS, restS, plainAt, List.getD_cons_zero, List.getD_cons_succ, List.all_cons, List.all_nil, muE, mu1, lstAt, dArgs, appF, popF, rvsF, extF, rng1I, rng2I, enI, zipI, zip2, starA, subS, decide_true, decide_false, Int.reduceLT, Int.reduceLE, Nat.reduceLT, Nat.reduceLeDiff, true_and, and_true, Bool.false_eq_true, if_false, ite_true, ite_false, reduceIte, reduceCtorEq, Option.some.injEq, hz, hlt]
        · refine ⟨_, .inr (.inr ?_), ds', r', some (.int ((a : Nat) : Int)), rfl, hd', by omega⟩
          simp only [b_law_draws_1, Gv, Gio, ins, List.map_cons, List.map_nil, List.length_cons, List.length_nil, Nat.sub_self, List.replicate_zero, List.append_nil, List.nil_append, List.cons_append, List.replicate_succ, Nat.reduceSub, Nat.reduceAdd, retS, retN, ret1, setS, sto, stoO, freeAt, free_dv, dv_some, dv_none, free_d, free_n, free_o, plain_dv, plain_dd, plain_n, dropS, seqS, ifS, raiS, nextS, brkS, cntS, unpS, tpG, itsOf, bindAll, optO, nmG, augS, chE, bind_ok, bind_er, bind_ite, out_ok, out_er, out_ite, seq_nx, seq_rt, seq_er, seq_bk, seq_ct, seq_ite, ite_and, ite_or, ite_and2, ite_or2, ite_andB, ite_orB, cE, varE, shE, shr, bi2, un1, opE, unE, rd, List.getElem?_cons_zero, List.getElem?_cons_succ, List.set_cons_zero, List.set_cons_succ, leD, ltD, gtD, geD, cmpD, eqD_str, neD_str, eqD_int, neD_int, inD_sign, isD, isNone, ifB, caE, consA, nilA, ca1, rdAll, dAll, lenD, intF, tupF, lstF, Option.map_some, Option.map_none, Option.bind_some, addD, intD, subI, modI, divI, adI, negD, mulD, revND, revD, tupE, lstE, mtE, okTy, isStr, isLst, stripF, callE, callI, truT, tru1, tru, truD, blT, notT, andT, orT, ifE, notE, andE, orE, if_true, Bool.not_true, Bool.not_false, Bool.true_and, Bool.and_true, Bool.false_and, Bool.or_false, Bool.false_or, Bool.true_or, Bool.or_true, Bool.and_false, Bool.false_xor, Bool.true_xor, slE, noP, someP, sl1, slD, seqI, its1, optI, forS, turn, lcE, wipeS, restS, plainAt, List.getD_cons_zero, List.getD_cons_succ, List.all_cons, List.all_nil, muE, mu1, lstAt, dArgs, appF, popF, rvsF, extF, rng1I, rng2I, enI, zipI, zip2, starA, subS, decide_true, decide_false, Int.reduceLT, Int.reduceLE, Nat.reduceLT, Nat.reduceLeDiff, true_and, and_true, Bool.false_eq_true, if_false, ite_true, ite_false, reduceIte, reduceCtorEq, Option.some.injEq, hz])
    have h60 : (List.range (Int.toNat 60)).length = 60 := by decide +kernel
    exact ⟨s', e1, ds', r', k', e2, e3, by omega⟩
  obtain ⟨s', e1, ds, c, r, k, o, t, e2, e3, e4⟩ := forL_n (g := nmG 2) (b := b_law_draws_2) (i := PyData.int) (xs := ns) (s := [some (.s ns), some (.o true (.L [])), none, none, none, none, none])
    (St := fun m s => ∃ ds c r k o t, s = [some (.s ns), some (.o true (.L ds)), dv c, dv r, dv k, dv o, dv t] ∧ Dr ds ∧ ds.length ≤ 60 * m) ⟨[], none, none, none, none, none, rfl, Dr.nil, Nat.le_refl _⟩ (by
      rintro m a em s ⟨ds, c, r, k, o, t, rfl, hd, hl⟩
      have hm : m < 63 := by
        have := (List.getElem?_eq_some_iff.mp em).1
        omega
      cases hz : decide (1000000000000000000 ≤ ((a.natAbs : Nat) : Int))
      · have hlt : ds.length + 3 ≤ 16777216 := by omega
        refine ⟨_, .inl ?_, ds ++ [.int (((a.natAbs : Nat) : Int) % 1000), .int (((((a.natAbs : Nat) : Int) * 48271 + 11) % 2147483647) % 1000), .int ((((((a.natAbs : Nat) : Int) * 48271 + 11) % 2147483647 * 69621 + ((a.natAbs : Nat) : Int)) % 2147483629) % 1000)], some (.int a), some (.int ((a.natAbs : Nat) : Int)), k, some (.int ((((a.natAbs : Nat) : Int) * 48271 + 11) % 2147483647)), some (.int (((((a.natAbs : Nat) : Int) * 48271 + 11) % 2147483647 * 69621 + ((a.natAbs : Nat) : Int)) % 2147483629)), rfl, hd.app Dr.three, by rw [List.length_append]; show _ + 3 ≤ _; omega⟩
        simp only [b_law_draws_2, Gv, Gio, ins, List.map_cons, List.map_nil, List.length_cons, List.length_nil, Nat.sub_self, List.replicate_zero, List.append_nil, List.nil_append, List.cons_append, List.replicate_succ, Nat.reduceSub, Nat.reduceAdd, retS, retN, ret1, setS, sto, stoO, freeAt, free_dv, dv_some, dv_none, free_d, free_n, free_o, plain_dv, plain_dd, plain_n, dropS, seqS, ifS, raiS, nextS, brkS, cntS, unpS, tpG, itsOf, bindAll, optO, nmG, augS, chE, bind_ok, bind_er, bind_ite, out_ok, out_er, out_ite, seq_nx, seq_rt, seq_er, seq_bk, seq_ct, seq_ite, ite_and, ite_or, ite_and2, ite_or2, ite_andB, ite_orB, cE, varE, shE, shr, bi2, un1, opE, unE, rd, List.getElem?_cons_zero, List.getElem?_cons_succ, List.set_cons_zero, List.set_cons_succ, leD, ltD, gtD, geD, cmpD, eqD_str, neD_str, eqD_int, neD_int, inD_sign, isD, isNone, ifB, caE, consA, nilA, ca1, rdAll, dAll, lenD, intF, tupF, lstF, Option.map_some, Option.map_none, Option.bind_some, addD, intD, subI, modI, divI, adI, negD, mulD, revND, revD, tupE, lstE, mtE, okTy, isStr, isLst, stripF, callE, callI, truT, tru1, tru, truD, blT, notT, andT, orT, ifE, notE, andE, orE, if_true, Bool.not_true, Bool.not_false, Bool.true_and, Bool.and_true, Bool.false_and, Bool.or_false, Bool.false_or, Bool.true_or, Bool.or_true, Bool.and_false, Bool.false_xor, Bool.true_xor, slE, noP, someP, sl1, slD, seqI, its1, optI, forS, turn, lcE, wipeS, restS, plainAt, List.getD_cons_zero, List.getD_cons_succ, List.all_cons, List.all_nil, muE, mu1, lstAt, dArgs, appF, popF, rvsF, extF, rng1I, rng2I, enI, zipI, zip2, starA, subS, decide_true, decide_false, Int.reduceLT, Int.reduceLE, Nat.reduceLT, Nat.reduceLeDiff, true_and, and_true, Bool.false_eq_true, if_false, ite_true, ite_false, reduceIte, reduceCtorEq, Option.some.injEq, law_number_c, geD, hz, hb1, hb2, hlt]
      · obtain ⟨s', i1, ds', r', k', i2, i3, i4⟩ := inner 0 (.int a) ((a.natAbs : Nat) : Int) ds k o t hd (by omega)
        refine ⟨s', .inl ?_, ds', some (.int a), some (.int r'), k', o, t, i2, i3, by omega⟩
        simp only [b_law_draws_2, Gv, Gio, ins, List.map_cons, List.map_nil, List.length_cons, List.length_nil, Nat.sub_self, List.replicate_zero, List.append_nil, List.nil_append, List.cons_append, List.replicate_succ, Nat.reduceSub, Nat.reduceAdd, retS, retN, ret1, setS, sto, stoO, freeAt, free_dv, dv_some, dv_none, free_d, free_n, free_o, plain_dv, plain_dd, plain_n, dropS, seqS, ifS, raiS, nextS, brkS, cntS, unpS, tpG, itsOf, bindAll, optO, nmG, augS, chE, bind_ok, bind_er, bind_ite, out_ok, out_er, out_ite, seq_nx, seq_rt, seq_er, seq_bk, seq_ct, seq_ite, ite_and, ite_or, ite_and2, ite_or2, ite_andB, ite_orB, cE, varE, shE, shr, bi2, un1, opE, unE, rd, List.getElem?_cons_zero, List.getElem?_cons_succ, List.set_cons_zero, List.set_cons_succ, leD, ltD, gtD, geD, cmpD, eqD_str, neD_str, eqD_int, neD_int, inD_sign, isD, isNone, ifB, caE, consA, nilA, ca1, rdAll, dAll, lenD, intF, tupF, lstF, Option.map_some, Option.map_none, Option.bind_some, addD, intD, subI, modI, divI, adI, negD, mulD, revND, revD, tupE, lstE, mtE, okTy, isStr, isLst, stripF, callE, callI, truT, tru1, tru, truD, blT, notT, andT, orT, ifE, notE, andE, orE, if_true, Bool.not_true, Bool.not_false, Bool.true_and, Bool.and_true, Bool.false_and, Bool.or_false, Bool.false_or, Bool.true_or, Bool.or_true, Bool.and_false, Bool.false_xor, Bool.true_xor, slE, noP, someP, sl1, slD, seqI, its1, optI, forS, turn, lcE, wipeS, restS, plainAt, List.getD_cons_zero, List.getD_cons_succ, List.all_cons, List.all_nil, muE, mu1, lstAt, dArgs, appF, popF, rvsF, extF, rng1I, rng2I, enI, zipI, zip2, starA, subS, decide_true, decide_false, Int.reduceLT, Int.reduceLE, Nat.reduceLT, Nat.reduceLeDiff, true_and, and_true, Bool.false_eq_true, if_false, ite_true, ite_false, reduceIte, reduceCtorEq, Option.some.injEq, law_number_c, geD, hz, hsm, i1])
  refine ⟨ds, call_s ?_, e3⟩
  have h0 : (0 : Nat) ≤ 16777216 := by decide
  simp only [b_law_draws, Gv, Gio, ins, List.map_cons, List.map_nil, List.length_cons, List.length_nil, Nat.sub_self, List.replicate_zero, List.append_nil, List.nil_append, List.cons_append, List.replicate_succ, Nat.reduceSub, Nat.reduceAdd, retS, retN, ret1, setS, sto, stoO, freeAt, free_dv, dv_some, dv_none, free_d, free_n, free_o, plain_dv, plain_dd, plain_n, dropS, seqS, ifS, raiS, nextS, brkS, cntS, unpS, tpG, itsOf, bindAll, optO, nmG, augS, chE, bind_ok, bind_er, bind_ite, out_ok, out_er, out_ite, seq_nx, seq_rt, seq_er, seq_bk, seq_ct, seq_ite, ite_and, ite_or, ite_and2, ite_or2, ite_andB, ite_orB, cE, varE, shE, shr, bi2, un1, opE, unE, rd, List.getElem?_cons_zero, List.getElem?_cons_succ, List.set_cons_zero, List.set_cons_succ, leD, ltD, gtD, geD, cmpD, eqD_str, neD_str, eqD_int, neD_int, inD_sign, isD, isNone, ifB, caE, consA, nilA, ca1, rdAll, dAll, lenD, intF, tupF, lstF, Option.map_some, Option.map_none, Option.bind_some, addD, intD, subI, modI, divI, adI, negD, mulD, revND, revD, tupE, lstE, mtE, okTy, isStr, isLst, stripF, callE, callI, truT, tru1, tru, truD, blT, notT, andT, orT, ifE, notE, andE, orE, if_true, Bool.not_true, Bool.not_false, Bool.true_and, Bool.and_true, Bool.false_and, Bool.or_false, Bool.false_or, Bool.true_or, Bool.or_true, Bool.and_false, Bool.false_xor, Bool.true_xor, slE, noP, someP, sl1, slD, seqI, its1, optI, forS, turn, lcE, wipeS, restS, plainAt, List.getD_cons_zero, List.getD_cons_succ, List.all_cons, List.all_nil, muE, mu1, lstAt, dArgs, appF, popF, rvsF, extF, rng1I, rng2I, enI, zipI, zip2, starA, subS, decide_true, decide_false, Int.reduceLT, Int.reduceLE, Nat.reduceLT, Nat.reduceLeDiff, true_and, and_true, Bool.false_eq_true, if_false, ite_true, ite_false, reduceIte, reduceCtorEq, Option.some.injEq, h0, e1, e2]
  exact ⟨_, rfl⟩
theorem law_next_a {ds : List D} (hd : Dr ds)  :
    ∃ n ds', At 1 F_law_next [] ds ds' (.d (.int n)) ∧ 0 ≤ n ∧ n < 1000 ∧ Dr ds' := by
  cases e : ds.getLast? with
  | none =>
    have en : ds = [] := List.getLast?_eq_none_iff.mp e
    subst en
    refine ⟨0, [], at_rt (ds := []) rfl ?_, by decide, by decide, Dr.nil⟩
    simp only [b_law_next, Gv, Gio, ins, List.map_cons, List.map_nil, List.length_cons, List.length_nil, Nat.sub_self, List.replicate_zero, List.append_nil, List.nil_append, List.cons_append, List.replicate_succ, Nat.reduceSub, Nat.reduceAdd, retS, retN, ret1, setS, sto, stoO, freeAt, free_dv, dv_some, dv_none, free_d, free_n, free_o, plain_dv, plain_dd, plain_n, dropS, seqS, ifS, raiS, nextS, brkS, cntS, unpS, tpG, itsOf, bindAll, optO, nmG, augS, chE, bind_ok, bind_er, bind_ite, out_ok, out_er, out_ite, seq_nx, seq_rt, seq_er, seq_bk, seq_ct, seq_ite, ite_and, ite_or, ite_and2, ite_or2, ite_andB, ite_orB, cE, varE, shE, shr, bi2, un1, opE, unE, rd, List.getElem?_cons_zero, List.getElem?_cons_succ, List.set_cons_zero, List.set_cons_succ, leD, ltD, gtD, geD, cmpD, eqD_str, neD_str, eqD_int, neD_int, inD_sign, isD, isNone, ifB, caE, consA, nilA, ca1, rdAll, dAll, lenD, intF, tupF, lstF, Option.map_some, Option.map_none, Option.bind_some, addD, intD, subI, modI, divI, adI, negD, mulD, revND, revD, tupE, lstE, mtE, okTy, isStr, isLst, stripF, callE, callI, truT, tru1, tru, truD, blT, notT, andT, orT, ifE, notE, andE, orE, if_true, Bool.not_true, Bool.not_false, Bool.true_and, Bool.and_true, Bool.false_and, Bool.or_false, Bool.false_or, Bool.true_or, Bool.or_true, Bool.and_false, Bool.false_xor, Bool.true_xor, slE, noP, someP, sl1, slD, seqI, its1, optI, forS, turn, lcE, wipeS, restS, plainAt, List.getD_cons_zero, List.getD_cons_succ, List.all_cons, List.all_nil, muE, mu1, lstAt, dArgs, appF, popF, rvsF, extF, rng1I, rng2I, enI, zipI, zip2, starA, subS, decide_true, decide_false, Int.reduceLT, Int.reduceLE, Nat.reduceLT, Nat.reduceLeDiff, true_and, and_true, Bool.false_eq_true, if_false, ite_true, ite_false, reduceIte, reduceCtorEq, Option.some.injEq, List.isEmpty_nil]
    exact ⟨_, rfl, rfl⟩
  | some d =>
    have hne : ds ≠ [] := fun z => by rw [z] at e; cases e
    have hm : d ∈ ds := List.mem_of_getLast? e
    obtain ⟨n, rfl, h0, h1⟩ := hd d hm
    refine ⟨n, ds.dropLast, at_rt (ds := []) rfl ?_, h0, h1, fun x m => hd x (List.dropLast_subset _ m)⟩
    have he : ds.isEmpty = false := by cases ds <;> first | rfl | exact absurd rfl hne
    simp only [b_law_next, Gv, Gio, ins, List.map_cons, List.map_nil, List.length_cons, List.length_nil, Nat.sub_self, List.replicate_zero, List.append_nil, List.nil_append, List.cons_append, List.replicate_succ, Nat.reduceSub, Nat.reduceAdd, retS, retN, ret1, setS, sto, stoO, freeAt, free_dv, dv_some, dv_none, free_d, free_n, free_o, plain_dv, plain_dd, plain_n, dropS, seqS, ifS, raiS, nextS, brkS, cntS, unpS, tpG, itsOf, bindAll, optO, nmG, augS, chE, bind_ok, bind_er, bind_ite, out_ok, out_er, out_ite, seq_nx, seq_rt, seq_er, seq_bk, seq_ct, seq_ite, ite_and, ite_or, ite_and2, ite_or2, ite_andB, ite_orB, cE, varE, shE, shr, bi2, un1, opE, unE, rd, List.getElem?_cons_zero, List.getElem?_cons_succ, List.set_cons_zero, List.set_cons_succ, leD, ltD, gtD, geD, cmpD, eqD_str, neD_str, eqD_int, neD_int, inD_sign, isD, isNone, ifB, caE, consA, nilA, ca1, rdAll, dAll, lenD, intF, tupF, lstF, Option.map_some, Option.map_none, Option.bind_some, addD, intD, subI, modI, divI, adI, negD, mulD, revND, revD, tupE, lstE, mtE, okTy, isStr, isLst, stripF, callE, callI, truT, tru1, tru, truD, blT, notT, andT, orT, ifE, notE, andE, orE, if_true, Bool.not_true, Bool.not_false, Bool.true_and, Bool.and_true, Bool.false_and, Bool.or_false, Bool.false_or, Bool.true_or, Bool.or_true, Bool.and_false, Bool.false_xor, Bool.true_xor, slE, noP, someP, sl1, slD, seqI, its1, optI, forS, turn, lcE, wipeS, restS, plainAt, List.getD_cons_zero, List.getD_cons_succ, List.all_cons, List.all_nil, muE, mu1, lstAt, dArgs, appF, popF, rvsF, extF, rng1I, rng2I, enI, zipI, zip2, starA, subS, decide_true, decide_false, Int.reduceLT, Int.reduceLE, Nat.reduceLT, Nat.reduceLeDiff, true_and, and_true, Bool.false_eq_true, if_false, ite_true, ite_false, reduceIte, reduceCtorEq, Option.some.injEq, he, e]
    exact ⟨_, rfl, rfl⟩
theorem law_next_c {ds : List D} (hd : Dr ds) {s : S} {i : Nat} {f : Bool} (hs : s[i]? = some (some (.o f (.L ds))))  :
    ∃ n ds', call1 1 F_law_next [.r i] s = .ok (.d (.int n)) (s.set i (some (.o f (.L ds')))) ∧ 0 ≤ n ∧ n < 1000 ∧ Dr ds' := by
  obtain ⟨n, ds', e, h⟩ := law_next_a hd
  exact ⟨n, ds', e s i f hs, h⟩
end M

set_option Elab.async false
set_option linter.all false
set_option maxRecDepth 100000
set_option maxHeartbeats 4000000
/-! Drawn words, places, contexts, rules, names. -/
namespace M
open PySem PySem.Spec L2 Sv

theorem signs_all {P : Nat → Prop} : ∀ {ys : List D}, (∀ y ∈ ys, ∃ c, y = .str (tx [c]) ∧ P c) → ∃ cs : List Nat, ys = cs.map (fun c => .str (tx [c])) ∧ ∀ c ∈ cs, P c
  | [], _ => ⟨[], rfl, fun _ m => nomatch m⟩
  | y :: ys, h => by
    obtain ⟨cs, e, hp⟩ := signs_all (ys := ys) fun z m => h z (List.mem_cons_of_mem _ m)
    obtain ⟨c, e1, h1⟩ := h y List.mem_cons_self
    exact ⟨c :: cs, by rw [e, e1]; rfl, fun z m => (List.mem_cons.mp m).elim (fun q => q ▸ h1) (hp z)⟩
theorem strs_of {P : Str → Prop} : ∀ {ys : List D}, (∀ y ∈ ys, ∃ c, y = .str c ∧ P c) → ∃ cs : List Str, ys = cs.map .str ∧ ∀ c ∈ cs, P c
  | [], _ => ⟨[], rfl, fun _ m => nomatch m⟩
  | y :: ys, h => by
    obtain ⟨cs, e, hp⟩ := strs_of (ys := ys) fun z m => h z (List.mem_cons_of_mem _ m)
    obtain ⟨c, e1, h1⟩ := h y List.mem_cons_self
    exact ⟨c :: cs, by rw [e, e1]; rfl, fun z m => (List.mem_cons.mp m).elim (fun q => q ▸ h1) (hp z)⟩
theorem vals_of {α : Type} {f : α → D} {P : α → Prop} : ∀ {ys : List D}, (∀ y ∈ ys, ∃ c, y = f c ∧ P c) → ∃ cs : List α, ys = cs.map f ∧ ∀ c ∈ cs, P c
  | [], _ => ⟨[], rfl, fun _ m => nomatch m⟩
  | y :: ys, h => by
    obtain ⟨cs, e, hp⟩ := vals_of (ys := ys) fun z m => h z (List.mem_cons_of_mem _ m)
    obtain ⟨c, e1, h1⟩ := h y List.mem_cons_self
    exact ⟨c :: cs, by rw [e, e1]; rfl, fun z m => (List.mem_cons.mp m).elim (fun q => q ▸ h1) (hp z)⟩
theorem mod_pos {n m : Int} (h : 0 < m) : (if 0 < m then some (n % m) else none) = some (n % m) := if_pos h
theorem abc_len6 : ("abcdef" : Str).length = 6 := by decide +kernel
theorem abc_ix {j : Int} (h0 : 0 ≤ j) (h1 : j < 6) : ixD (.str "abcdef") (.int j) = some (.d (.str (tx [97 + j.toNat]))) := by
  rw [ixD_str h0 (by rw [abc_len6]; exact h1), abc_at j.toNat (by omega)]
theorem law_string_a {ds : List D} (hd : Dr ds) {k m : Int} (k1 : 1 ≤ k) (k6 : k ≤ 6) (m0 : 0 ≤ m) (m1 : m ≤ 1000) :
    ∃ w ds', At 3 F_law_string [.d (.int k), .d (.int m)] ds ds' (.d (.str w)) ∧ WordIn k m w ∧ Dr ds' := by
  obtain ⟨n0, ds0, e0, a0, b0, d0⟩ := law_next_c hd (s := [some (.o false (.L ds)), some (.d (.int k)), some (.d (.int m)), none]) (i := 0) (f := false) rfl
  have hm : (0 : Int) < m + 1 := by omega
  have c0 := mod_in (n := n0) hm
  obtain ⟨ys, s', e1, ⟨ds1, d1, rfl⟩, l1, p1⟩ := lcL_s (g := nmG 3) (vs := [3]) (i := fun j : Nat => .int ((j : Nat) : Int)) (xs := List.range (n0 % (m + 1)).toNat) (acc := [])
    (e := opE ixD (cE (.str "abcdef")) (opE (intD modI) (caE intF (consA (callE 1 F_law_next (consA (varE 0) nilA)) nilA)) (varE 1)))
    (s := [some (.o false (.L ds0)), some (.d (.int k)), some (.d (.int m)), none]) (St := fun s => ∃ ds, Dr ds ∧ s = [some (.o false (.L ds)), some (.d (.int k)), some (.d (.int m)), none]) (Pr := fun x => ∃ c, x = .str (tx [c]) ∧ LetK k c)
    (by rw [List.length_range]; show 0 + _ ≤ _; omega) ⟨ds0, d0, rfl⟩ (by
      rintro j _ s ⟨ds2, d2, rfl⟩
      obtain ⟨n3, ds3, e3, a3, b3, d3⟩ := law_next_c d2 (s := [some (.o false (.L ds2)), some (.d (.int k)), some (.d (.int m)), some (.d (.int ((j : Nat) : Int)))]) (i := 0) (f := false) rfl
      have c3 := mod_in (n := n3) (show (0 : Int) < k by omega)
      refine ⟨_, .str (tx [97 + (n3 % k).toNat]), [some (.o false (.L ds3)), some (.d (.int k)), some (.d (.int m)), some (.d (.int ((j : Nat) : Int)))], rfl, ?_, ⟨ds3, d3, rfl⟩, _, rfl, by omega, by omega⟩
      simp only [Gv, Gio, ins, List.map_cons, List.map_nil, List.length_cons, List.length_nil, Nat.sub_self, List.replicate_zero, List.append_nil, List.nil_append, List.cons_append, List.replicate_succ, Nat.reduceSub, Nat.reduceAdd, retS, retN, ret1, setS, sto, stoO, freeAt, free_dv, dv_some, dv_none, free_d, free_n, free_o, plain_dv, plain_dd, plain_n, dropS, seqS, ifS, raiS, nextS, brkS, cntS, unpS, tpG, itsOf, bindAll, optO, nmG, augS, chE, bind_ok, bind_er, out_ok, out_er, seq_nx, seq_rt, seq_er, seq_bk, seq_ct, ite_and, ite_or, ite_and2, ite_or2, ite_andB, ite_orB, cE, varE, shE, shr, bi2, un1, opE, unE, rd, List.getElem?_cons_zero, List.getElem?_cons_succ, List.set_cons_zero, List.set_cons_succ, leD, ltD, gtD, geD, cmpD, eqD_str, neD_str, eqD_int, neD_int, inD_sign, isD, isNone, ifB, caE, consA, nilA, ca1, rdAll, dAll, lenD, intF, tupF, lstF, Option.map_some, Option.map_none, Option.bind_some, addD, intD, subI, modI, divI, adI, negD, mulD, revND, revD, tupE, lstE, mtE, okTy, isStr, isLst, stripF, callE, callI, truT, tru1, tru, truD, blT, notT, andT, orT, ifE, notE, andE, orE, if_true, Bool.not_true, Bool.not_false, Bool.true_and, Bool.and_true, Bool.false_and, Bool.or_false, Bool.false_or, Bool.true_or, Bool.or_true, Bool.and_false, Bool.false_xor, Bool.true_xor, slE, noP, someP, sl1, slD, seqI, its1, optI, forS, turn, lcE, wipeS, restS, plainAt, List.getD_cons_zero, List.getD_cons_succ, List.all_cons, List.all_nil, muE, mu1, lstAt, dArgs, appF, popF, rvsF, extF, rng1I, rng2I, enI, zipI, zip2, starA, subS, decide_true, decide_false, Int.reduceLT, Int.reduceLE, Nat.reduceLT, Nat.reduceLeDiff, true_and, and_true, Bool.false_eq_true, if_false, ite_true, ite_false, reduceIte, reduceCtorEq, Option.some.injEq, e3, mod_pos (show (0 : Int) < k by omega), abc_ix c3.1 (by omega)])
  obtain ⟨cs, rfl, hc⟩ := signs_all p1
  rw [List.length_map, List.length_range] at l1
  refine ⟨tx cs, ds1, at_rt (ds := [.int k, .int m]) rfl ?_, ⟨by rw [tx_len]; omega, fun c mc => hc c (by simpa using mc)⟩, d1⟩
  have hsm : smI (n0 % (m + 1)) = true := smI_of (by omega) (by omega)
  simp only [b_law_string, Gv, Gio, ins, List.map_cons, List.map_nil, List.length_cons, List.length_nil, Nat.sub_self, List.replicate_zero, List.append_nil, List.nil_append, List.cons_append, List.replicate_succ, Nat.reduceSub, Nat.reduceAdd, retS, retN, ret1, setS, sto, stoO, freeAt, free_dv, dv_some, dv_none, free_d, free_n, free_o, plain_dv, plain_dd, plain_n, dropS, seqS, ifS, raiS, nextS, brkS, cntS, unpS, tpG, itsOf, bindAll, optO, nmG, augS, chE, bind_ok, bind_er, out_ok, out_er, seq_nx, seq_rt, seq_er, seq_bk, seq_ct, ite_and, ite_or, ite_and2, ite_or2, ite_andB, ite_orB, cE, varE, shE, shr, bi2, un1, opE, unE, rd, List.getElem?_cons_zero, List.getElem?_cons_succ, List.set_cons_zero, List.set_cons_succ, leD, ltD, gtD, geD, cmpD, eqD_str, neD_str, eqD_int, neD_int, inD_sign, isD, isNone, ifB, caE, consA, nilA, ca1, rdAll, dAll, lenD, intF, tupF, lstF, Option.map_some, Option.map_none, Option.bind_some, addD, intD, subI, modI, divI, adI, negD, mulD, revND, revD, tupE, lstE, mtE, okTy, isStr, isLst, stripF, callE, callI, truT, tru1, tru, truD, blT, notT, andT, orT, ifE, notE, andE, orE, if_true, Bool.not_true, Bool.not_false, Bool.true_and, Bool.and_true, Bool.false_and, Bool.or_false, Bool.false_or, Bool.true_or, Bool.or_true, Bool.and_false, Bool.false_xor, Bool.true_xor, slE, noP, someP, sl1, slD, seqI, its1, optI, forS, turn, lcE, wipeS, restS, plainAt, List.getD_cons_zero, List.getD_cons_succ, List.all_cons, List.all_nil, muE, mu1, lstAt, dArgs, appF, popF, rvsF, extF, rng1I, rng2I, enI, zipI, zip2, starA, subS, decide_true, decide_false, Int.reduceLT, Int.reduceLE, Nat.reduceLT, Nat.reduceLeDiff, true_and, and_true, Bool.false_eq_true, if_false, ite_true, ite_false, reduceIte, reduceCtorEq, Option.some.injEq, e0, mod_pos hm, hsm, rng_zero]
  rw [e1]
  simp only [Gv, Gio, ins, List.map_cons, List.map_nil, List.length_cons, List.length_nil, Nat.sub_self, List.replicate_zero, List.append_nil, List.nil_append, List.cons_append, List.replicate_succ, Nat.reduceSub, Nat.reduceAdd, retS, retN, ret1, setS, sto, stoO, freeAt, free_dv, dv_some, dv_none, free_d, free_n, free_o, plain_dv, plain_dd, plain_n, dropS, seqS, ifS, raiS, nextS, brkS, cntS, unpS, tpG, itsOf, bindAll, optO, nmG, augS, chE, bind_ok, bind_er, out_ok, out_er, seq_nx, seq_rt, seq_er, seq_bk, seq_ct, ite_and, ite_or, ite_and2, ite_or2, ite_andB, ite_orB, cE, varE, shE, shr, bi2, un1, opE, unE, rd, List.getElem?_cons_zero, List.getElem?_cons_succ, List.set_cons_zero, List.set_cons_succ, leD, ltD, gtD, geD, cmpD, eqD_str, neD_str, eqD_int, neD_int, inD_sign, isD, isNone, ifB, caE, consA, nilA, ca1, rdAll, dAll, lenD, intF, tupF, lstF, Option.map_some, Option.map_none, Option.bind_some, addD, intD, subI, modI, divI, adI, negD, mulD, revND, revD, tupE, lstE, mtE, okTy, isStr, isLst, stripF, callE, callI, truT, tru1, tru, truD, blT, notT, andT, orT, ifE, notE, andE, orE, if_true, Bool.not_true, Bool.not_false, Bool.true_and, Bool.and_true, Bool.false_and, Bool.or_false, Bool.false_or, Bool.true_or, Bool.or_true, Bool.and_false, Bool.false_xor, Bool.true_xor, slE, noP, someP, sl1, slD, seqI, its1, optI, forS, turn, lcE, wipeS, restS, plainAt, List.getD_cons_zero, List.getD_cons_succ, List.all_cons, List.all_nil, muE, mu1, lstAt, dArgs, appF, popF, rvsF, extF, rng1I, rng2I, enI, zipI, zip2, starA, subS, decide_true, decide_false, Int.reduceLT, Int.reduceLE, Nat.reduceLT, Nat.reduceLeDiff, true_and, and_true, Bool.false_eq_true, if_false, ite_true, ite_false, reduceIte, reduceCtorEq, Option.some.injEq]
  rw [joinF_signs (by omega)]
  simp only [Gv, Gio, ins, List.map_cons, List.map_nil, List.length_cons, List.length_nil, Nat.sub_self, List.replicate_zero, List.append_nil, List.nil_append, List.cons_append, List.replicate_succ, Nat.reduceSub, Nat.reduceAdd, retS, retN, ret1, setS, sto, stoO, freeAt, free_dv, dv_some, dv_none, free_d, free_n, free_o, plain_dv, plain_dd, plain_n, dropS, seqS, ifS, raiS, nextS, brkS, cntS, unpS, tpG, itsOf, bindAll, optO, nmG, augS, chE, bind_ok, bind_er, out_ok, out_er, seq_nx, seq_rt, seq_er, seq_bk, seq_ct, ite_and, ite_or, ite_and2, ite_or2, ite_andB, ite_orB, cE, varE, shE, shr, bi2, un1, opE, unE, rd, List.getElem?_cons_zero, List.getElem?_cons_succ, List.set_cons_zero, List.set_cons_succ, leD, ltD, gtD, geD, cmpD, eqD_str, neD_str, eqD_int, neD_int, inD_sign, isD, isNone, ifB, caE, consA, nilA, ca1, rdAll, dAll, lenD, intF, tupF, lstF, Option.map_some, Option.map_none, Option.bind_some, addD, intD, subI, modI, divI, adI, negD, mulD, revND, revD, tupE, lstE, mtE, okTy, isStr, isLst, stripF, callE, callI, truT, tru1, tru, truD, blT, notT, andT, orT, ifE, notE, andE, orE, if_true, Bool.not_true, Bool.not_false, Bool.true_and, Bool.and_true, Bool.false_and, Bool.or_false, Bool.false_or, Bool.true_or, Bool.or_true, Bool.and_false, Bool.false_xor, Bool.true_xor, slE, noP, someP, sl1, slD, seqI, its1, optI, forS, turn, lcE, wipeS, restS, plainAt, List.getD_cons_zero, List.getD_cons_succ, List.all_cons, List.all_nil, muE, mu1, lstAt, dArgs, appF, popF, rvsF, extF, rng1I, rng2I, enI, zipI, zip2, starA, subS, decide_true, decide_false, Int.reduceLT, Int.reduceLE, Nat.reduceLT, Nat.reduceLeDiff, true_and, and_true, Bool.false_eq_true, if_false, ite_true, ite_false, reduceIte, reduceCtorEq, Option.some.injEq]
  exact ⟨_, rfl, rfl⟩
theorem law_string_c {ds : List D} (hd : Dr ds) {s : S} {i : Nat} {f : Bool} (hs : s[i]? = some (some (.o f (.L ds)))) {k m : Int} (k1 : 1 ≤ k) (k6 : k ≤ 6) (m0 : 0 ≤ m) (m1 : m ≤ 1000) :
    ∃ w ds', call1 3 F_law_string [.r i, .d (.int k), .d (.int m)] s = .ok (.d (.str w)) (s.set i (some (.o f (.L ds')))) ∧ WordIn k m w ∧ Dr ds' := by
  obtain ⟨w, ds', e, h⟩ := law_string_a hd k1 k6 m0 m1
  exact ⟨w, ds', e s i f hs, h⟩
theorem place_join {k b : Nat} : (((List.range k).filter fun j => decide ((b / 2 ^ j) % 2 = 1)).map fun j => PyData.str (tx [97 + j])) = ((((List.range k).filter fun j => decide ((b / 2 ^ j) % 2 = 1)).map fun j => 97 + j).map fun c => .str (tx [c])) := by
  rw [List.map_map]
  rfl
theorem law_place_a {ds : List D} (hd : Dr ds) {k : Int} (k2 : 2 ≤ k) (k6 : k ≤ 6) :
    ∃ p ds', At 2 F_law_place [.d (.int k)] ds ds' (.d (.str p)) ∧ isSet (letters k) p = true ∧ Dr ds' := by
  obtain ⟨kn, rfl⟩ : ∃ kn : Nat, k = (kn : Int) := ⟨k.toNat, by omega⟩
  obtain ⟨n0, ds0, e0, a0, b0, d0⟩ := law_next_c hd (s := [some (.o false (.L ds)), some (.d (.int (kn : Int))), none, none]) (i := 0) (f := false) rfl
  have hp : (1 : Int) * 2 ^ kn - 1 = ((2 ^ kn - 1 : Nat) : Int) ∧ 1 ≤ 2 ^ kn - 1 ∧ 2 ^ kn ≤ 64 := by
    have : kn = 2 ∨ kn = 3 ∨ kn = 4 ∨ kn = 5 ∨ kn = 6 := by omega
    rcases this with e | e | e | e | e <;> rw [e] <;> exact ⟨rfl, by decide, by decide⟩
  obtain ⟨hp1, hp2, hp3⟩ := hp
  have c0 := mod_in (n := n0) (show (0 : Int) < ((2 ^ kn - 1 : Nat) : Int) by omega)
  obtain ⟨b, hb⟩ : ∃ b : Nat, 1 + n0 % ((2 ^ kn - 1 : Nat) : Int) = (b : Int) := ⟨(1 + n0 % ((2 ^ kn - 1 : Nat) : Int)).toNat, by omega⟩
  have hset := place_all kn (by omega) (by omega) b (by omega) (by omega) (by omega)
  refine ⟨placeOf kn b, ds0, at_rt (ds := [.int (kn : Int)]) rfl ?_, hset, d0⟩
  have h64 : bits64 1 = true := by decide +kernel
  have hshl : (if (0 : Int) ≤ (kn : Int) ∧ (kn : Int) ≤ 1000000 ∧ bits64 1 = true then some ((1 : Int) * 2 ^ kn) else none) = some ((1 : Int) * 2 ^ kn) := if_pos ⟨by omega, by omega, h64⟩
  have hsm : smI (kn : Int) = true := smI_of (by omega) (by omega)
  have h6 : (6 : Nat) ≤ 16777216 := by decide
  simp only [b_law_place, Gv, Gio, ins, List.map_cons, List.map_nil, List.length_cons, List.length_nil, Nat.sub_self, List.replicate_zero, List.append_nil, List.nil_append, List.cons_append, List.replicate_succ, Nat.reduceSub, Nat.reduceAdd, retS, retN, ret1, setS, sto, stoO, freeAt, free_dv, dv_some, dv_none, free_d, free_n, free_o, plain_dv, plain_dd, plain_n, dropS, seqS, ifS, raiS, nextS, brkS, cntS, unpS, tpG, itsOf, bindAll, optO, nmG, augS, chE, bind_ok, bind_er, out_ok, out_er, seq_nx, seq_rt, seq_er, seq_bk, seq_ct, ite_and, ite_or, ite_and2, ite_or2, ite_andB, ite_orB, cE, varE, shE, shr, bi2, un1, opE, unE, rd, List.getElem?_cons_zero, List.getElem?_cons_succ, List.set_cons_zero, List.set_cons_succ, leD, ltD, gtD, geD, cmpD, eqD_str, neD_str, eqD_int, neD_int, inD_sign, isD, isNone, ifB, caE, consA, nilA, ca1, rdAll, dAll, lenD, intF, tupF, lstF, Option.map_some, Option.map_none, Option.bind_some, addD, intD, subI, modI, divI, adI, negD, mulD, revND, revD, tupE, lstE, mtE, okTy, isStr, isLst, stripF, callE, callI, truT, tru1, tru, truD, blT, notT, andT, orT, ifE, notE, andE, orE, if_true, Bool.not_true, Bool.not_false, Bool.true_and, Bool.and_true, Bool.false_and, Bool.or_false, Bool.false_or, Bool.true_or, Bool.or_true, Bool.and_false, Bool.false_xor, Bool.true_xor, slE, noP, someP, sl1, slD, seqI, its1, optI, forS, turn, lcE, wipeS, restS, plainAt, List.getD_cons_zero, List.getD_cons_succ, List.all_cons, List.all_nil, muE, mu1, lstAt, dArgs, appF, popF, rvsF, extF, rng1I, rng2I, enI, zipI, zip2, starA, subS, decide_true, decide_false, Int.reduceLT, Int.reduceLE, Nat.reduceLT, Nat.reduceLeDiff, true_and, and_true, Bool.false_eq_true, if_false, ite_true, ite_false, reduceIte, reduceCtorEq, Option.some.injEq, shlI, e0, hshl, hp1, mod_pos (show (0 : Int) < ((2 ^ kn - 1 : Nat) : Int) by omega), hb, hsm, rng_zero, Int.toNat_natCast]
  rw [lcL_p (i := fun j : Nat => .int ((j : Nat) : Int)) (P := fun j => decide ((b / 2 ^ j) % 2 = 1)) (f := fun j => .str (tx [97 + j])) (by rw [List.length_nil, List.length_range]; omega) fun j m => ⟨_, rfl, rfl, ?_, fun _ => ?_⟩]
  · simp only [Gv, Gio, ins, List.map_cons, List.map_nil, List.length_cons, List.length_nil, Nat.sub_self, List.replicate_zero, List.append_nil, List.nil_append, List.cons_append, List.replicate_succ, Nat.reduceSub, Nat.reduceAdd, retS, retN, ret1, setS, sto, stoO, freeAt, free_dv, dv_some, dv_none, free_d, free_n, free_o, plain_dv, plain_dd, plain_n, dropS, seqS, ifS, raiS, nextS, brkS, cntS, unpS, tpG, itsOf, bindAll, optO, nmG, augS, chE, bind_ok, bind_er, out_ok, out_er, seq_nx, seq_rt, seq_er, seq_bk, seq_ct, ite_and, ite_or, ite_and2, ite_or2, ite_andB, ite_orB, cE, varE, shE, shr, bi2, un1, opE, unE, rd, List.getElem?_cons_zero, List.getElem?_cons_succ, List.set_cons_zero, List.set_cons_succ, leD, ltD, gtD, geD, cmpD, eqD_str, neD_str, eqD_int, neD_int, inD_sign, isD, isNone, ifB, caE, consA, nilA, ca1, rdAll, dAll, lenD, intF, tupF, lstF, Option.map_some, Option.map_none, Option.bind_some, addD, intD, subI, modI, divI, adI, negD, mulD, revND, revD, tupE, lstE, mtE, okTy, isStr, isLst, stripF, callE, callI, truT, tru1, tru, truD, blT, notT, andT, orT, ifE, notE, andE, orE, if_true, Bool.not_true, Bool.not_false, Bool.true_and, Bool.and_true, Bool.false_and, Bool.or_false, Bool.false_or, Bool.true_or, Bool.or_true, Bool.and_false, Bool.false_xor, Bool.true_xor, slE, noP, someP, sl1, slD, seqI, its1, optI, forS, turn, lcE, wipeS, restS, plainAt, List.getD_cons_zero, List.getD_cons_succ, List.all_cons, List.all_nil, muE, mu1, lstAt, dArgs, appF, popF, rvsF, extF, rng1I, rng2I, enI, zipI, zip2, starA, subS, decide_true, decide_false, Int.reduceLT, Int.reduceLE, Nat.reduceLT, Nat.reduceLeDiff, true_and, and_true, Bool.false_eq_true, if_false, ite_true, ite_false, reduceIte, reduceCtorEq, Option.some.injEq, place_join]
    rw [joinF_signs (by rw [List.length_map]; exact Nat.le_trans (List.length_filter_le _ _) (by rw [List.length_range]; omega))]
    simp only [Gv, Gio, ins, List.map_cons, List.map_nil, List.length_cons, List.length_nil, Nat.sub_self, List.replicate_zero, List.append_nil, List.nil_append, List.cons_append, List.replicate_succ, Nat.reduceSub, Nat.reduceAdd, retS, retN, ret1, setS, sto, stoO, freeAt, free_dv, dv_some, dv_none, free_d, free_n, free_o, plain_dv, plain_dd, plain_n, dropS, seqS, ifS, raiS, nextS, brkS, cntS, unpS, tpG, itsOf, bindAll, optO, nmG, augS, chE, bind_ok, bind_er, out_ok, out_er, seq_nx, seq_rt, seq_er, seq_bk, seq_ct, ite_and, ite_or, ite_and2, ite_or2, ite_andB, ite_orB, cE, varE, shE, shr, bi2, un1, opE, unE, rd, List.getElem?_cons_zero, List.getElem?_cons_succ, List.set_cons_zero, List.set_cons_succ, leD, ltD, gtD, geD, cmpD, eqD_str, neD_str, eqD_int, neD_int, inD_sign, isD, isNone, ifB, caE, consA, nilA, ca1, rdAll, dAll, lenD, intF, tupF, lstF, Option.map_some, Option.map_none, Option.bind_some, addD, intD, subI, modI, divI, adI, negD, mulD, revND, revD, tupE, lstE, mtE, okTy, isStr, isLst, stripF, callE, callI, truT, tru1, tru, truD, blT, notT, andT, orT, ifE, notE, andE, orE, if_true, Bool.not_true, Bool.not_false, Bool.true_and, Bool.and_true, Bool.false_and, Bool.or_false, Bool.false_or, Bool.true_or, Bool.or_true, Bool.and_false, Bool.false_xor, Bool.true_xor, slE, noP, someP, sl1, slD, seqI, its1, optI, forS, turn, lcE, wipeS, restS, plainAt, List.getD_cons_zero, List.getD_cons_succ, List.all_cons, List.all_nil, muE, mu1, lstAt, dArgs, appF, popF, rvsF, extF, rng1I, rng2I, enI, zipI, zip2, starA, subS, decide_true, decide_false, Int.reduceLT, Int.reduceLE, Nat.reduceLT, Nat.reduceLeDiff, true_and, and_true, Bool.false_eq_true, if_false, ite_true, ite_false, reduceIte, reduceCtorEq, Option.some.injEq]
    exact ⟨_, rfl, rfl⟩
  · have hj := List.mem_range.mp m
    have e1 : ixD (.list [.int 1, .int 2, .int 4, .int 8, .int 16, .int 32]) (.int (j : Int)) = some (.d (.int ((2 ^ j : Nat) : Int))) := by
      rw [ixD_list (by omega) (by show (j : Int) < 6; omega), Int.toNat_natCast, pow_at j (by omega)]
    have e2 : (if (0 : Int) < ((2 ^ j : Nat) : Int) ∧ ((2 ^ j : Nat) : Int) < 1073741824 then some ((b : Int) / ((2 ^ j : Nat) : Int)) else none) = some ((b : Int) / ((2 ^ j : Nat) : Int)) := by
      have h1 : 0 < 2 ^ j := Nat.two_pow_pos j
      have h2 : 2 ^ j ≤ 2 ^ 6 := Nat.pow_le_pow_right (by decide) (by omega)
      exact if_pos ⟨by omega, by omega⟩
    simp only [Gv, Gio, ins, List.map_cons, List.map_nil, List.length_cons, List.length_nil, Nat.sub_self, List.replicate_zero, List.append_nil, List.nil_append, List.cons_append, List.replicate_succ, Nat.reduceSub, Nat.reduceAdd, retS, retN, ret1, setS, sto, stoO, freeAt, free_dv, dv_some, dv_none, free_d, free_n, free_o, plain_dv, plain_dd, plain_n, dropS, seqS, ifS, raiS, nextS, brkS, cntS, unpS, tpG, itsOf, bindAll, optO, nmG, augS, chE, bind_ok, bind_er, out_ok, out_er, seq_nx, seq_rt, seq_er, seq_bk, seq_ct, ite_and, ite_or, ite_and2, ite_or2, ite_andB, ite_orB, cE, varE, shE, shr, bi2, un1, opE, unE, rd, List.getElem?_cons_zero, List.getElem?_cons_succ, List.set_cons_zero, List.set_cons_succ, leD, ltD, gtD, geD, cmpD, eqD_str, neD_str, eqD_int, neD_int, inD_sign, isD, isNone, ifB, caE, consA, nilA, ca1, rdAll, dAll, lenD, intF, tupF, lstF, Option.map_some, Option.map_none, Option.bind_some, addD, intD, subI, modI, divI, adI, negD, mulD, revND, revD, tupE, lstE, mtE, okTy, isStr, isLst, stripF, callE, callI, truT, tru1, tru, truD, blT, notT, andT, orT, ifE, notE, andE, orE, if_true, Bool.not_true, Bool.not_false, Bool.true_and, Bool.and_true, Bool.false_and, Bool.or_false, Bool.false_or, Bool.true_or, Bool.or_true, Bool.and_false, Bool.false_xor, Bool.true_xor, slE, noP, someP, sl1, slD, seqI, its1, optI, forS, turn, lcE, wipeS, restS, plainAt, List.getD_cons_zero, List.getD_cons_succ, List.all_cons, List.all_nil, muE, mu1, lstAt, dArgs, appF, popF, rvsF, extF, rng1I, rng2I, enI, zipI, zip2, starA, subS, decide_true, decide_false, Int.reduceLT, Int.reduceLE, Nat.reduceLT, Nat.reduceLeDiff, true_and, and_true, Bool.false_eq_true, if_false, ite_true, ite_false, reduceIte, reduceCtorEq, Option.some.injEq, e1, e2, h6, divI]
    congr 1
    rw [decide_eq_decide]
    omega
  · have hj := List.mem_range.mp m
    simp only [Gv, Gio, ins, List.map_cons, List.map_nil, List.length_cons, List.length_nil, Nat.sub_self, List.replicate_zero, List.append_nil, List.nil_append, List.cons_append, List.replicate_succ, Nat.reduceSub, Nat.reduceAdd, retS, retN, ret1, setS, sto, stoO, freeAt, free_dv, dv_some, dv_none, free_d, free_n, free_o, plain_dv, plain_dd, plain_n, dropS, seqS, ifS, raiS, nextS, brkS, cntS, unpS, tpG, itsOf, bindAll, optO, nmG, augS, chE, bind_ok, bind_er, out_ok, out_er, seq_nx, seq_rt, seq_er, seq_bk, seq_ct, ite_and, ite_or, ite_and2, ite_or2, ite_andB, ite_orB, cE, varE, shE, shr, bi2, un1, opE, unE, rd, List.getElem?_cons_zero, List.getElem?_cons_succ, List.set_cons_zero, List.set_cons_succ, leD, ltD, gtD, geD, cmpD, eqD_str, neD_str, eqD_int, neD_int, inD_sign, isD, isNone, ifB, caE, consA, nilA, ca1, rdAll, dAll, lenD, intF, tupF, lstF, Option.map_some, Option.map_none, Option.bind_some, addD, intD, subI, modI, divI, adI, negD, mulD, revND, revD, tupE, lstE, mtE, okTy, isStr, isLst, stripF, callE, callI, truT, tru1, tru, truD, blT, notT, andT, orT, ifE, notE, andE, orE, if_true, Bool.not_true, Bool.not_false, Bool.true_and, Bool.and_true, Bool.false_and, Bool.or_false, Bool.false_or, Bool.true_or, Bool.or_true, Bool.and_false, Bool.false_xor, Bool.true_xor, slE, noP, someP, sl1, slD, seqI, its1, optI, forS, turn, lcE, wipeS, restS, plainAt, List.getD_cons_zero, List.getD_cons_succ, List.all_cons, List.all_nil, muE, mu1, lstAt, dArgs, appF, popF, rvsF, extF, rng1I, rng2I, enI, zipI, zip2, starA, subS, decide_true, decide_false, Int.reduceLT, Int.reduceLE, Nat.reduceLT, Nat.reduceLeDiff, true_and, and_true, Bool.false_eq_true, if_false, ite_true, ite_false, reduceIte, reduceCtorEq, Option.some.injEq, abc_ix (show (0 : Int) ≤ (j : Int) by omega) (by omega), Int.toNat_natCast]
theorem law_place_c {ds : List D} (hd : Dr ds) {s : S} {i : Nat} {f : Bool} (hs : s[i]? = some (some (.o f (.L ds)))) {k : Int} (k2 : 2 ≤ k) (k6 : k ≤ 6) :
    ∃ p ds', call1 2 F_law_place [.r i, .d (.int k)] s = .ok (.d (.str p)) (s.set i (some (.o f (.L ds')))) ∧ isSet (letters k) p = true ∧ Dr ds' := by
  obtain ⟨p, ds', e, h⟩ := law_place_a hd k2 k6
  exact ⟨p, ds', e s i f hs, h⟩
theorem law_context_a {ds : List D} (hd : Dr ds) {k : Int} (k2 : 2 ≤ k) (k6 : k ≤ 6) :
    ∃ (ps : List Str) (ds' : List D), At 2 F_law_context [.d (.int k)] ds ds' (.o true (.L (ps.map .str))) ∧ ps.length ≤ 2 ∧ (∀ p ∈ ps, isSet (letters k) p = true) ∧ Dr ds' := by
  obtain ⟨n0, ds0, e0, a0, b0, d0⟩ := law_next_c hd (s := [some (.o false (.L ds)), some (.d (.int k)), none]) (i := 0) (f := false) rfl
  have c0 := mod_in (n := n0) (show (0 : Int) < 5 by decide)
  obtain ⟨m, em, m0, m2⟩ : ∃ m : Int, ixD (.list [.int 0, .int 0, .int 1, .int 1, .int 2]) (.int (n0 % 5)) = some (.d (.int m)) ∧ 0 ≤ m ∧ m ≤ 2 := by
    have : n0 % 5 = 0 ∨ n0 % 5 = 1 ∨ n0 % 5 = 2 ∨ n0 % 5 = 3 ∨ n0 % 5 = 4 := by omega
    rcases this with e | e | e | e | e <;> rw [e]
    · exact ⟨0, rfl, by decide, by decide⟩
    · exact ⟨0, rfl, by decide, by decide⟩
    · exact ⟨1, rfl, by decide, by decide⟩
    · exact ⟨1, rfl, by decide, by decide⟩
    · exact ⟨2, rfl, by decide, by decide⟩
  obtain ⟨ys, s', e1, ⟨ds1, d1, rfl⟩, l1, p1⟩ := lcL_s (g := nmG 2) (vs := [2]) (i := fun j : Nat => .int ((j : Nat) : Int)) (xs := List.range m.toNat) (acc := [])
    (e := shE (callE 2 F_law_place (consA (varE 0) (consA (shE (varE 1)) nilA))))
    (s := [some (.o false (.L ds0)), some (.d (.int k)), none]) (St := fun s => ∃ ds, Dr ds ∧ s = [some (.o false (.L ds)), some (.d (.int k)), none]) (Pr := fun x => ∃ c, x = .str c ∧ isSet (letters k) c = true)
    (by rw [List.length_range]; show 0 + _ ≤ _; omega) ⟨ds0, d0, rfl⟩ (by
      rintro j _ s ⟨ds2, d2, rfl⟩
      obtain ⟨p3, ds3, e3, h3, d3⟩ := law_place_c d2 (s := [some (.o false (.L ds2)), some (.d (.int k)), some (.d (.int ((j : Nat) : Int)))]) (i := 0) (f := false) rfl k2 k6
      refine ⟨_, .str p3, [some (.o false (.L ds3)), some (.d (.int k)), some (.d (.int ((j : Nat) : Int)))], rfl, ?_, ⟨ds3, d3, rfl⟩, _, rfl, h3⟩
      simp only [Gv, Gio, ins, List.map_cons, List.map_nil, List.length_cons, List.length_nil, Nat.sub_self, List.replicate_zero, List.append_nil, List.nil_append, List.cons_append, List.replicate_succ, Nat.reduceSub, Nat.reduceAdd, retS, retN, ret1, setS, sto, stoO, freeAt, free_dv, dv_some, dv_none, free_d, free_n, free_o, plain_dv, plain_dd, plain_n, dropS, seqS, ifS, raiS, nextS, brkS, cntS, unpS, tpG, itsOf, bindAll, optO, nmG, augS, chE, bind_ok, bind_er, out_ok, out_er, seq_nx, seq_rt, seq_er, seq_bk, seq_ct, ite_and, ite_or, ite_and2, ite_or2, ite_andB, ite_orB, cE, varE, shE, shr, bi2, un1, opE, unE, rd, List.getElem?_cons_zero, List.getElem?_cons_succ, List.set_cons_zero, List.set_cons_succ, leD, ltD, gtD, geD, cmpD, eqD_str, neD_str, eqD_int, neD_int, inD_sign, isD, isNone, ifB, caE, consA, nilA, ca1, rdAll, dAll, lenD, intF, tupF, lstF, Option.map_some, Option.map_none, Option.bind_some, addD, intD, subI, modI, divI, adI, negD, mulD, revND, revD, tupE, lstE, mtE, okTy, isStr, isLst, stripF, callE, callI, truT, tru1, tru, truD, blT, notT, andT, orT, ifE, notE, andE, orE, if_true, Bool.not_true, Bool.not_false, Bool.true_and, Bool.and_true, Bool.false_and, Bool.or_false, Bool.false_or, Bool.true_or, Bool.or_true, Bool.and_false, Bool.false_xor, Bool.true_xor, slE, noP, someP, sl1, slD, seqI, its1, optI, forS, turn, lcE, wipeS, restS, plainAt, List.getD_cons_zero, List.getD_cons_succ, List.all_cons, List.all_nil, muE, mu1, lstAt, dArgs, appF, popF, rvsF, extF, rng1I, rng2I, enI, zipI, zip2, starA, subS, decide_true, decide_false, Int.reduceLT, Int.reduceLE, Nat.reduceLT, Nat.reduceLeDiff, true_and, and_true, Bool.false_eq_true, if_false, ite_true, ite_false, reduceIte, reduceCtorEq, Option.some.injEq, e3])
  obtain ⟨ps, rfl, hc⟩ := strs_of p1
  rw [List.length_map, List.length_range] at l1
  refine ⟨ps, ds1, at_ob (ds := [.int k]) rfl ?_, by omega, hc, d1⟩
  have hsm : smI m = true := smI_of (by omega) (by omega)
  have h5 : (5 : Nat) ≤ 16777216 := by decide
  simp only [b_law_context, Gv, Gio, ins, List.map_cons, List.map_nil, List.length_cons, List.length_nil, Nat.sub_self, List.replicate_zero, List.append_nil, List.nil_append, List.cons_append, List.replicate_succ, Nat.reduceSub, Nat.reduceAdd, retS, retN, ret1, setS, sto, stoO, freeAt, free_dv, dv_some, dv_none, free_d, free_n, free_o, plain_dv, plain_dd, plain_n, dropS, seqS, ifS, raiS, nextS, brkS, cntS, unpS, tpG, itsOf, bindAll, optO, nmG, augS, chE, bind_ok, bind_er, out_ok, out_er, seq_nx, seq_rt, seq_er, seq_bk, seq_ct, ite_and, ite_or, ite_and2, ite_or2, ite_andB, ite_orB, cE, varE, shE, shr, bi2, un1, opE, unE, rd, List.getElem?_cons_zero, List.getElem?_cons_succ, List.set_cons_zero, List.set_cons_succ, leD, ltD, gtD, geD, cmpD, eqD_str, neD_str, eqD_int, neD_int, inD_sign, isD, isNone, ifB, caE, consA, nilA, ca1, rdAll, dAll, lenD, intF, tupF, lstF, Option.map_some, Option.map_none, Option.bind_some, addD, intD, subI, modI, divI, adI, negD, mulD, revND, revD, tupE, lstE, mtE, okTy, isStr, isLst, stripF, callE, callI, truT, tru1, tru, truD, blT, notT, andT, orT, ifE, notE, andE, orE, if_true, Bool.not_true, Bool.not_false, Bool.true_and, Bool.and_true, Bool.false_and, Bool.or_false, Bool.false_or, Bool.true_or, Bool.or_true, Bool.and_false, Bool.false_xor, Bool.true_xor, slE, noP, someP, sl1, slD, seqI, its1, optI, forS, turn, lcE, wipeS, restS, plainAt, List.getD_cons_zero, List.getD_cons_succ, List.all_cons, List.all_nil, muE, mu1, lstAt, dArgs, appF, popF, rvsF, extF, rng1I, rng2I, enI, zipI, zip2, starA, subS, decide_true, decide_false, Int.reduceLT, Int.reduceLE, Nat.reduceLT, Nat.reduceLeDiff, true_and, and_true, Bool.false_eq_true, if_false, ite_true, ite_false, reduceIte, reduceCtorEq, Option.some.injEq, e0, em, h5, hsm, rng_zero]
  rw [e1]
  simp only [Gv, Gio, ins, List.map_cons, List.map_nil, List.length_cons, List.length_nil, Nat.sub_self, List.replicate_zero, List.append_nil, List.nil_append, List.cons_append, List.replicate_succ, Nat.reduceSub, Nat.reduceAdd, retS, retN, ret1, setS, sto, stoO, freeAt, free_dv, dv_some, dv_none, free_d, free_n, free_o, plain_dv, plain_dd, plain_n, dropS, seqS, ifS, raiS, nextS, brkS, cntS, unpS, tpG, itsOf, bindAll, optO, nmG, augS, chE, bind_ok, bind_er, out_ok, out_er, seq_nx, seq_rt, seq_er, seq_bk, seq_ct, ite_and, ite_or, ite_and2, ite_or2, ite_andB, ite_orB, cE, varE, shE, shr, bi2, un1, opE, unE, rd, List.getElem?_cons_zero, List.getElem?_cons_succ, List.set_cons_zero, List.set_cons_succ, leD, ltD, gtD, geD, cmpD, eqD_str, neD_str, eqD_int, neD_int, inD_sign, isD, isNone, ifB, caE, consA, nilA, ca1, rdAll, dAll, lenD, intF, tupF, lstF, Option.map_some, Option.map_none, Option.bind_some, addD, intD, subI, modI, divI, adI, negD, mulD, revND, revD, tupE, lstE, mtE, okTy, isStr, isLst, stripF, callE, callI, truT, tru1, tru, truD, blT, notT, andT, orT, ifE, notE, andE, orE, if_true, Bool.not_true, Bool.not_false, Bool.true_and, Bool.and_true, Bool.false_and, Bool.or_false, Bool.false_or, Bool.true_or, Bool.or_true, Bool.and_false, Bool.false_xor, Bool.true_xor, slE, noP, someP, sl1, slD, seqI, its1, optI, forS, turn, lcE, wipeS, restS, plainAt, List.getD_cons_zero, List.getD_cons_succ, List.all_cons, List.all_nil, muE, mu1, lstAt, dArgs, appF, popF, rvsF, extF, rng1I, rng2I, enI, zipI, zip2, starA, subS, decide_true, decide_false, Int.reduceLT, Int.reduceLE, Nat.reduceLT, Nat.reduceLeDiff, true_and, and_true, Bool.false_eq_true, if_false, ite_true, ite_false, reduceIte, reduceCtorEq, Option.some.injEq]
  exact ⟨_, rfl, rfl⟩
theorem law_context_c {ds : List D} (hd : Dr ds) {s : S} {i : Nat} {f : Bool} (hs : s[i]? = some (some (.o f (.L ds)))) {k : Int} (k2 : 2 ≤ k) (k6 : k ≤ 6) :
    ∃ (ps : List Str) (ds' : List D), call1 2 F_law_context [.r i, .d (.int k)] s = .ok (.o true (.L (ps.map .str))) (s.set i (some (.o f (.L ds')))) ∧ ps.length ≤ 2 ∧ (∀ p ∈ ps, isSet (letters k) p = true) ∧ Dr ds' := by
  obtain ⟨ps, ds', e, h⟩ := law_context_a hd k2 k6
  exact ⟨ps, ds', e s i f hs, h⟩
theorem inD2 (e a b : Int) : inD false (.int e) (.list [.int a, .int b]) = some (.d (.bool (decide (e = a) || decide (e = b)))) := by
  have := inD_ints false e [a, b]
  rw [show ([a, b].map PyData.int) = [.int a, .int b] from rfl] at this
  rw [this, Bool.false_xor]
  congr 3
  rw [Bool.eq_iff_iff, Bool.or_eq_true, decide_eq_true_eq, decide_eq_true_eq, decide_eq_true_eq, List.mem_cons, List.mem_singleton]
theorem isRule_of {k : Int} {x : Nat} {n : Str} {l r : List Str} (h1 : x ∈ (letters k).cps.toList) (h2 : isNew (letters k) n = true) (h3 : isCtx (letters k) l 0 = true) (h4 : isCtx (letters k) r (((r.length : Nat) : Int) - 1) = true) : isRule k ⟨tx [x], n, l, r⟩ = true := by
  unfold isRule
  have e : decide ((((tx [x]).length : Nat) : Int) = 1) = true := decide_eq_true (by rw [tx_len]; rfl)
  have e2 : decide ((tx [x]).cps.getD 0 0 ∈ (letters k).cps.toList) = true := decide_eq_true h1
  show (decide ((((tx [x]).length : Nat) : Int) = 1) && decide ((tx [x]).cps.getD 0 0 ∈ (letters k).cps.toList) && isNew (letters k) n && isCtx (letters k) l 0 && isCtx (letters k) r (((r.length : Nat) : Int) - 1)) = true
  rw [e, e2, h2, h3, h4]
  rfl
theorem isNew_of {k : Int} (a : 2 ≤ k) (b : k ≤ 6) {w : Str} (h : WordIn k 3 w) : isNew (letters k) w = true := by
  unfold isNew
  rw [decide_eq_true h.1, decide_eq_true (strip_all fun c m => (mem_letters a b c).mpr (h.2 c m))]
  rfl
theorem law_rule_a {ds : List D} (hd : Dr ds) {k : Int} (k2 : 2 ≤ k) (k6 : k ≤ 6) :
    ∃ (R : Rl) (ds' : List D), At 2 F_law_rule [.d (.int k)] ds ds' (.d R.data) ∧ isRule k R = true ∧ Dr ds' := by
  obtain ⟨n0, ds0, e0, a0, b0, d0⟩ := law_next_c hd (s := [some (.o false (.L ds)), some (.d (.int k)), none, none, none, none, none]) (i := 0) (f := false) rfl
  have hk : (0 : Int) < k := by omega
  have c0 := mod_in (n := n0) hk
  obtain ⟨n1, ds1, e1, a1, b1, d1⟩ := law_next_c d0 (s := [some (.o false (.L ds0)), some (.d (.int k)), some (.d (.str (tx [97 + (n0 % k).toNat]))), none, none, none, none]) (i := 0) (f := false) rfl
  have c1 := mod_in (n := n1) (show (0 : Int) < 3 by decide)
  obtain ⟨m, em, m1, m3⟩ : ∃ m : Int, ixD (.list [.int 1, .int 2, .int 3]) (.int (n1 % 3)) = some (.d (.int m)) ∧ 1 ≤ m ∧ m ≤ 3 := by
    have : n1 % 3 = 0 ∨ n1 % 3 = 1 ∨ n1 % 3 = 2 := by omega
    rcases this with e | e | e <;> rw [e]
    · exact ⟨1, rfl, by decide, by decide⟩
    · exact ⟨2, rfl, by decide, by decide⟩
    · exact ⟨3, rfl, by decide, by decide⟩
  obtain ⟨w, ds2, e2, hw, d2⟩ := law_string_c d1 (s := [some (.o false (.L ds1)), some (.d (.int k)), some (.d (.str (tx [97 + (n0 % k).toNat]))), none, none, none, none]) (i := 0) (f := false) rfl (k := k) (m := m) (by omega) k6 (by omega) (by omega)
  obtain ⟨ls, ds3, e3, l2, hl, d3⟩ := law_context_c d2 (s := [some (.o false (.L ds2)), some (.d (.int k)), some (.d (.str (tx [97 + (n0 % k).toNat]))), some (.d (.str w)), none, none, none]) (i := 0) (f := false) rfl k2 k6
  obtain ⟨rs, ds4, e4, r2, hr, d4⟩ := law_context_c d3 (s := [some (.o false (.L ds3)), some (.d (.int k)), some (.d (.str (tx [97 + (n0 % k).toNat]))), some (.d (.str w)), some (.o true (.L (ls.map .str))), none, none]) (i := 0) (f := false) rfl k2 k6
  obtain ⟨n5, ds5, e5, a5, b5, d5⟩ := law_next_c d4 (s := [some (.o false (.L ds4)), some (.d (.int k)), some (.d (.str (tx [97 + (n0 % k).toNat]))), some (.d (.str w)), some (.o true (.L (ls.map .str))), some (.o true (.L (rs.map .str))), none]) (i := 0) (f := false) rfl
  have c5 := mod_in (n := n5) (show (0 : Int) < 6 by decide)
  have hn := isNew_of k2 k6 (w := w) ⟨by have := hw.1; omega, hw.2⟩
  have hx : 97 + (n0 % k).toNat ∈ (letters k).cps.toList := (mem_letters k2 k6 _).mpr ⟨by omega, by omega⟩
  have q1 : (1 : Nat) ≤ 16777216 := by decide
  have q3 : (3 : Nat) ≤ 16777216 := by decide
  have q2 : (2 : Nat) ≤ 16777216 := by decide
  have q4 : (4 : Nat) ≤ 16777216 := by decide
  have hcl : cutL (ls.map PyData.str) (some (-1)) none = (ls.drop (ls.length - 1)).map .str := by rw [cutL_last, List.length_map, List.map_drop]
  have hcr : cutL (rs.map PyData.str) none (some 1) = (rs.take 1).map .str := by
    have := cutL_take (xs := rs.map PyData.str) (j := 1)
    rw [show ((1 : Nat) : Int) = 1 from rfl] at this
    rw [this, List.map_take]
  have ll : 1 + ((ls.drop (ls.length - 1)).map PyData.str).length ≤ 16777216 := by rw [List.length_map, List.length_drop]; omega
  have lr : ((rs.take 1).map PyData.str).length + 1 ≤ 16777216 := by rw [List.length_map, List.length_take]; omega
  have xl := isCtx_left (l := letters k) (ps := ls.drop (ls.length - 1)) (by rw [List.length_drop]; omega) fun p m => hl p (List.mem_of_mem_drop m)
  have xr := isCtx_right (l := letters k) (ps := rs.take 1) (by rw [List.length_take]; omega) fun p m => hr p (List.mem_of_mem_take m)
  have yl := isCtx_sets (e := 0) l2 hl
  have yr := isCtx_sets (e := ((rs.length : Nat) : Int) - 1) r2 hr
  have key : ∀ R : Rl, isRule k R = true → (∃ s1, Gio (.L ds) [.int k] 7 b_law_rule = .rt (.d R.data) s1 ∧ s1[0]? = some (some (.o false (.L ds5)))) → ∃ (R : Rl) (ds' : List D), At 2 F_law_rule [.d (.int k)] ds ds' (.d R.data) ∧ isRule k R = true ∧ Dr ds' :=
    fun R h1 h2 => ⟨R, ds5, at_rt (ds := [.int k]) rfl h2, h1, d5⟩
  cases h13 : (decide (n5 % 6 = 1) || decide (n5 % 6 = 3)) <;> cases h23 : (decide (n5 % 6 = 2) || decide (n5 % 6 = 3))
  · refine key ⟨tx [97 + (n0 % k).toNat], w, ls, rs⟩ (isRule_of hx hn yl yr) ?_
    simp only [b_law_rule, Gv, Gio, ins, List.map_cons, List.map_nil, List.length_cons, List.length_nil, Nat.sub_self, List.replicate_zero, List.append_nil, List.nil_append, List.cons_append, List.replicate_succ, Nat.reduceSub, Nat.reduceAdd, retS, retN, ret1, setS, sto, stoO, freeAt, free_dv, dv_some, dv_none, free_d, free_n, free_o, plain_dv, plain_dd, plain_n, dropS, seqS, ifS, raiS, nextS, brkS, cntS, unpS, tpG, itsOf, bindAll, optO, nmG, augS, chE, bind_ok, bind_er, bind_ite, out_ok, out_er, out_ite, seq_nx, seq_rt, seq_er, seq_bk, seq_ct, seq_ite, ite_and, ite_or, ite_and2, ite_or2, ite_andB, ite_orB, cE, varE, shE, shr, bi2, un1, opE, unE, rd, List.getElem?_cons_zero, List.getElem?_cons_succ, List.set_cons_zero, List.set_cons_succ, leD, ltD, gtD, geD, cmpD, eqD_str, neD_str, eqD_int, neD_int, inD_sign, isD, isNone, ifB, caE, consA, nilA, ca1, rdAll, dAll, lenD, intF, tupF, lstF, Option.map_some, Option.map_none, Option.bind_some, addD, intD, subI, modI, divI, adI, negD, mulD, revND, revD, tupE, lstE, mtE, okTy, isStr, isLst, stripF, callE, callI, truT, tru1, tru, truD, blT, notT, andT, orT, ifE, notE, andE, orE, if_true, Bool.not_true, Bool.not_false, Bool.true_and, Bool.and_true, Bool.false_and, Bool.or_false, Bool.false_or, Bool.true_or, Bool.or_true, Bool.and_false, Bool.false_xor, Bool.true_xor, slE, noP, someP, sl1, slD, seqI, its1, optI, forS, turn, lcE, wipeS, restS, plainAt, List.getD_cons_zero, List.getD_cons_succ, List.all_cons, List.all_nil, muE, mu1, lstAt, dArgs, appF, popF, rvsF, extF, rng1I, rng2I, enI, zipI, zip2, starA, subS, decide_true, decide_false, Int.reduceLT, Int.reduceLE, Nat.reduceLT, Nat.reduceLeDiff, true_and, and_true, Bool.false_eq_true, if_false, ite_true, ite_false, reduceIte, reduceCtorEq, Option.some.injEq, e0, mod_pos hk, abc_ix c0.1 (show n0 % k < 6 by omega), e1, em, q3, e2, e3, e4, e5, q2, inD2, h13, h23, q4, data_eq]
    exact ⟨_, rfl, rfl⟩
  · refine key ⟨tx [97 + (n0 % k).toNat], w, ls, rs.take 1 ++ [("#" : Str)]⟩ (isRule_of hx hn yl xr) ?_
    rw [data_eq, show tupS (rs.take 1 ++ [("#" : Str)]) = .tuple ((rs.take 1).map PyData.str ++ [.str "#"]) by unfold tupS; rw [List.map_append]; rfl]
    simp only [b_law_rule, Gv, Gio, ins, List.map_cons, List.map_nil, List.length_cons, List.length_nil, Nat.sub_self, List.replicate_zero, List.append_nil, List.nil_append, List.cons_append, List.replicate_succ, Nat.reduceSub, Nat.reduceAdd, retS, retN, ret1, setS, sto, stoO, freeAt, free_dv, dv_some, dv_none, free_d, free_n, free_o, plain_dv, plain_dd, plain_n, dropS, seqS, ifS, raiS, nextS, brkS, cntS, unpS, tpG, itsOf, bindAll, optO, nmG, augS, chE, bind_ok, bind_er, bind_ite, out_ok, out_er, out_ite, seq_nx, seq_rt, seq_er, seq_bk, seq_ct, seq_ite, ite_and, ite_or, ite_and2, ite_or2, ite_andB, ite_orB, cE, varE, shE, shr, bi2, un1, opE, unE, rd, List.getElem?_cons_zero, List.getElem?_cons_succ, List.set_cons_zero, List.set_cons_succ, leD, ltD, gtD, geD, cmpD, eqD_str, neD_str, eqD_int, neD_int, inD_sign, isD, isNone, ifB, caE, consA, nilA, ca1, rdAll, dAll, lenD, intF, tupF, lstF, Option.map_some, Option.map_none, Option.bind_some, addD, intD, subI, modI, divI, adI, negD, mulD, revND, revD, tupE, lstE, mtE, okTy, isStr, isLst, stripF, callE, callI, truT, tru1, tru, truD, blT, notT, andT, orT, ifE, notE, andE, orE, if_true, Bool.not_true, Bool.not_false, Bool.true_and, Bool.and_true, Bool.false_and, Bool.or_false, Bool.false_or, Bool.true_or, Bool.or_true, Bool.and_false, Bool.false_xor, Bool.true_xor, slE, noP, someP, sl1, slD, seqI, its1, optI, forS, turn, lcE, wipeS, restS, plainAt, List.getD_cons_zero, List.getD_cons_succ, List.all_cons, List.all_nil, muE, mu1, lstAt, dArgs, appF, popF, rvsF, extF, rng1I, rng2I, enI, zipI, zip2, starA, subS, decide_true, decide_false, Int.reduceLT, Int.reduceLE, Nat.reduceLT, Nat.reduceLeDiff, true_and, and_true, Bool.false_eq_true, if_false, ite_true, ite_false, reduceIte, reduceCtorEq, Option.some.injEq, e0, mod_pos hk, abc_ix c0.1 (show n0 % k < 6 by omega), e1, em, q3, e2, e3, e4, e5, q2, q1, inD2, h13, h23, q4, hcr, lr]
    exact ⟨_, rfl, rfl⟩
  · refine key ⟨tx [97 + (n0 % k).toNat], w, "#" :: ls.drop (ls.length - 1), rs⟩ (isRule_of hx hn xl yr) ?_
    simp only [b_law_rule, Gv, Gio, ins, List.map_cons, List.map_nil, List.length_cons, List.length_nil, Nat.sub_self, List.replicate_zero, List.append_nil, List.nil_append, List.cons_append, List.replicate_succ, Nat.reduceSub, Nat.reduceAdd, retS, retN, ret1, setS, sto, stoO, freeAt, free_dv, dv_some, dv_none, free_d, free_n, free_o, plain_dv, plain_dd, plain_n, dropS, seqS, ifS, raiS, nextS, brkS, cntS, unpS, tpG, itsOf, bindAll, optO, nmG, augS, chE, bind_ok, bind_er, bind_ite, out_ok, out_er, out_ite, seq_nx, seq_rt, seq_er, seq_bk, seq_ct, seq_ite, ite_and, ite_or, ite_and2, ite_or2, ite_andB, ite_orB, cE, varE, shE, shr, bi2, un1, opE, unE, rd, List.getElem?_cons_zero, List.getElem?_cons_succ, List.set_cons_zero, List.set_cons_succ, leD, ltD, gtD, geD, cmpD, eqD_str, neD_str, eqD_int, neD_int, inD_sign, isD, isNone, ifB, caE, consA, nilA, ca1, rdAll, dAll, lenD, intF, tupF, lstF, Option.map_some, Option.map_none, Option.bind_some, addD, intD, subI, modI, divI, adI, negD, mulD, revND, revD, tupE, lstE, mtE, okTy, isStr, isLst, stripF, callE, callI, truT, tru1, tru, truD, blT, notT, andT, orT, ifE, notE, andE, orE, if_true, Bool.not_true, Bool.not_false, Bool.true_and, Bool.and_true, Bool.false_and, Bool.or_false, Bool.false_or, Bool.true_or, Bool.or_true, Bool.and_false, Bool.false_xor, Bool.true_xor, slE, noP, someP, sl1, slD, seqI, its1, optI, forS, turn, lcE, wipeS, restS, plainAt, List.getD_cons_zero, List.getD_cons_succ, List.all_cons, List.all_nil, muE, mu1, lstAt, dArgs, appF, popF, rvsF, extF, rng1I, rng2I, enI, zipI, zip2, starA, subS, decide_true, decide_false, Int.reduceLT, Int.reduceLE, Nat.reduceLT, Nat.reduceLeDiff, true_and, and_true, Bool.false_eq_true, if_false, ite_true, ite_false, reduceIte, reduceCtorEq, Option.some.injEq, e0, mod_pos hk, abc_ix c0.1 (show n0 % k < 6 by omega), e1, em, q3, e2, e3, e4, e5, q2, q1, inD2, h13, h23, q4, data_eq, hcl, ll]
    exact ⟨_, rfl, rfl⟩
  · refine key ⟨tx [97 + (n0 % k).toNat], w, "#" :: ls.drop (ls.length - 1), rs.take 1 ++ [("#" : Str)]⟩ (isRule_of hx hn xl xr) ?_
    rw [data_eq, show tupS (rs.take 1 ++ [("#" : Str)]) = .tuple ((rs.take 1).map PyData.str ++ [.str "#"]) by unfold tupS; rw [List.map_append]; rfl]
    simp only [b_law_rule, Gv, Gio, ins, List.map_cons, List.map_nil, List.length_cons, List.length_nil, Nat.sub_self, List.replicate_zero, List.append_nil, List.nil_append, List.cons_append, List.replicate_succ, Nat.reduceSub, Nat.reduceAdd, retS, retN, ret1, setS, sto, stoO, freeAt, free_dv, dv_some, dv_none, free_d, free_n, free_o, plain_dv, plain_dd, plain_n, dropS, seqS, ifS, raiS, nextS, brkS, cntS, unpS, tpG, itsOf, bindAll, optO, nmG, augS, chE, bind_ok, bind_er, bind_ite, out_ok, out_er, out_ite, seq_nx, seq_rt, seq_er, seq_bk, seq_ct, seq_ite, ite_and, ite_or, ite_and2, ite_or2, ite_andB, ite_orB, cE, varE, shE, shr, bi2, un1, opE, unE, rd, List.getElem?_cons_zero, List.getElem?_cons_succ, List.set_cons_zero, List.set_cons_succ, leD, ltD, gtD, geD, cmpD, eqD_str, neD_str, eqD_int, neD_int, inD_sign, isD, isNone, ifB, caE, consA, nilA, ca1, rdAll, dAll, lenD, intF, tupF, lstF, Option.map_some, Option.map_none, Option.bind_some, addD, intD, subI, modI, divI, adI, negD, mulD, revND, revD, tupE, lstE, mtE, okTy, isStr, isLst, stripF, callE, callI, truT, tru1, tru, truD, blT, notT, andT, orT, ifE, notE, andE, orE, if_true, Bool.not_true, Bool.not_false, Bool.true_and, Bool.and_true, Bool.false_and, Bool.or_false, Bool.false_or, Bool.true_or, Bool.or_true, Bool.and_false, Bool.false_xor, Bool.true_xor, slE, noP, someP, sl1, slD, seqI, its1, optI, forS, turn, lcE, wipeS, restS, plainAt, List.getD_cons_zero, List.getD_cons_succ, List.all_cons, List.all_nil, muE, mu1, lstAt, dArgs, appF, popF, rvsF, extF, rng1I, rng2I, enI, zipI, zip2, starA, subS, decide_true, decide_false, Int.reduceLT, Int.reduceLE, Nat.reduceLT, Nat.reduceLeDiff, true_and, and_true, Bool.false_eq_true, if_false, ite_true, ite_false, reduceIte, reduceCtorEq, Option.some.injEq, e0, mod_pos hk, abc_ix c0.1 (show n0 % k < 6 by omega), e1, em, q3, e2, e3, e4, e5, q2, q1, inD2, h13, h23, q4, hcl, ll, hcr, lr]
    exact ⟨_, rfl, rfl⟩
theorem law_rule_c {ds : List D} (hd : Dr ds) {s : S} {i : Nat} {f : Bool} (hs : s[i]? = some (some (.o f (.L ds)))) {k : Int} (k2 : 2 ≤ k) (k6 : k ≤ 6) :
    ∃ (R : Rl) (ds' : List D), call1 2 F_law_rule [.r i, .d (.int k)] s = .ok (.d R.data) (s.set i (some (.o f (.L ds')))) ∧ isRule k R = true ∧ Dr ds' := by
  obtain ⟨R, ds', e, h⟩ := law_rule_a hd k2 k6
  exact ⟨R, ds', e s i f hs, h⟩
end M

set_option Elab.async false
set_option linter.all false
set_option maxRecDepth 100000
set_option maxHeartbeats 4000000
/-! Drawn lists of rules, drawn names. -/
namespace M
open PySem PySem.Spec L2 Sv

theorem law_rules_a {ds : List D} (hd : Dr ds) {k m : Int} (k2 : 2 ≤ k) (k6 : k ≤ 6) (m0 : 0 ≤ m) (m1 : m ≤ 1000) :
    ∃ (Rs : List Rl) (ds' : List D), At 3 F_law_rules [.d (.int k), .d (.int m)] ds ds' (.d (rulesD Rs)) ∧ ((Rs.length : Nat) : Int) ≤ m ∧ (∀ R ∈ Rs, isRule k R = true) ∧ Dr ds' := by
  obtain ⟨n0, ds0, e0, a0, b0, d0⟩ := law_next_c hd (s := [some (.o false (.L ds)), some (.d (.int k)), some (.d (.int m)), none]) (i := 0) (f := false) rfl
  have hm : (0 : Int) < m + 1 := by omega
  have c0 := mod_in (n := n0) hm
  obtain ⟨ys, s', e1, ⟨ds1, d1, rfl⟩, l1, p1⟩ := lcL_s (g := nmG 3) (vs := [3]) (i := fun j : Nat => .int ((j : Nat) : Int)) (xs := List.range (n0 % (m + 1)).toNat) (acc := [])
    (e := shE (callE 2 F_law_rule (consA (varE 0) (consA (shE (varE 1)) nilA))))
    (s := [some (.o false (.L ds0)), some (.d (.int k)), some (.d (.int m)), none]) (St := fun s => ∃ ds, Dr ds ∧ s = [some (.o false (.L ds)), some (.d (.int k)), some (.d (.int m)), none]) (Pr := fun x => ∃ R : Rl, x = R.data ∧ isRule k R = true)
    (by rw [List.length_range]; show 0 + _ ≤ _; omega) ⟨ds0, d0, rfl⟩ (by
      rintro j _ s ⟨ds2, d2, rfl⟩
      obtain ⟨R, ds3, e3, h3, d3⟩ := law_rule_c d2 (s := [some (.o false (.L ds2)), some (.d (.int k)), some (.d (.int m)), some (.d (.int ((j : Nat) : Int)))]) (i := 0) (f := false) rfl k2 k6
      refine ⟨_, R.data, [some (.o false (.L ds3)), some (.d (.int k)), some (.d (.int m)), some (.d (.int ((j : Nat) : Int)))], rfl, ?_, ⟨ds3, d3, rfl⟩, R, rfl, h3⟩
      simp only [Gv, Gio, ins, List.map_cons, List.map_nil, List.length_cons, List.length_nil, Nat.sub_self, List.replicate_zero, List.append_nil, List.nil_append, List.cons_append, List.replicate_succ, Nat.reduceSub, Nat.reduceAdd, retS, retN, ret1, setS, sto, stoO, freeAt, free_dv, dv_some, dv_none, free_d, free_n, free_o, plain_dv, plain_dd, plain_n, dropS, seqS, ifS, raiS, nextS, brkS, cntS, unpS, tpG, itsOf, bindAll, optO, nmG, augS, chE, bind_ok, bind_er, out_ok, out_er, seq_nx, seq_rt, seq_er, seq_bk, seq_ct, ite_and, ite_or, ite_and2, ite_or2, ite_andB, ite_orB, cE, varE, shE, shr, bi2, un1, opE, unE, rd, List.getElem?_cons_zero, List.getElem?_cons_succ, List.set_cons_zero, List.set_cons_succ, leD, ltD, gtD, geD, cmpD, eqD_str, neD_str, eqD_int, neD_int, inD_sign, isD, isNone, ifB, caE, consA, nilA, ca1, rdAll, dAll, lenD, intF, tupF, lstF, Option.map_some, Option.map_none, Option.bind_some, addD, intD, subI, modI, divI, adI, negD, mulD, revND, revD, tupE, lstE, mtE, okTy, isStr, isLst, stripF, callE, callI, truT, tru1, tru, truD, blT, notT, andT, orT, ifE, notE, andE, orE, if_true, Bool.not_true, Bool.not_false, Bool.true_and, Bool.and_true, Bool.false_and, Bool.or_false, Bool.false_or, Bool.true_or, Bool.or_true, Bool.and_false, Bool.false_xor, Bool.true_xor, slE, noP, someP, sl1, slD, seqI, its1, optI, forS, turn, lcE, wipeS, restS, plainAt, List.getD_cons_zero, List.getD_cons_succ, List.all_cons, List.all_nil, muE, mu1, lstAt, dArgs, appF, popF, rvsF, extF, rng1I, rng2I, enI, zipI, zip2, starA, subS, decide_true, decide_false, Int.reduceLT, Int.reduceLE, Nat.reduceLT, Nat.reduceLeDiff, true_and, and_true, Bool.false_eq_true, if_false, ite_true, ite_false, reduceIte, reduceCtorEq, Option.some.injEq, e3])
  obtain ⟨Rs, rfl, hc⟩ := vals_of p1
  rw [List.length_map, List.length_range] at l1
  refine ⟨Rs, ds1, at_rt (ds := [.int k, .int m]) rfl ?_, by omega, hc, d1⟩
  have hsm : smI (n0 % (m + 1)) = true := smI_of (by omega) (by omega)
  simp only [b_law_rules, Gv, Gio, ins, List.map_cons, List.map_nil, List.length_cons, List.length_nil, Nat.sub_self, List.replicate_zero, List.append_nil, List.nil_append, List.cons_append, List.replicate_succ, Nat.reduceSub, Nat.reduceAdd, retS, retN, ret1, setS, sto, stoO, freeAt, free_dv, dv_some, dv_none, free_d, free_n, free_o, plain_dv, plain_dd, plain_n, dropS, seqS, ifS, raiS, nextS, brkS, cntS, unpS, tpG, itsOf, bindAll, optO, nmG, augS, chE, bind_ok, bind_er, out_ok, out_er, seq_nx, seq_rt, seq_er, seq_bk, seq_ct, ite_and, ite_or, ite_and2, ite_or2, ite_andB, ite_orB, cE, varE, shE, shr, bi2, un1, opE, unE, rd, List.getElem?_cons_zero, List.getElem?_cons_succ, List.set_cons_zero, List.set_cons_succ, leD, ltD, gtD, geD, cmpD, eqD_str, neD_str, eqD_int, neD_int, inD_sign, isD, isNone, ifB, caE, consA, nilA, ca1, rdAll, dAll, lenD, intF, tupF, lstF, Option.map_some, Option.map_none, Option.bind_some, addD, intD, subI, modI, divI, adI, negD, mulD, revND, revD, tupE, lstE, mtE, okTy, isStr, isLst, stripF, callE, callI, truT, tru1, tru, truD, blT, notT, andT, orT, ifE, notE, andE, orE, if_true, Bool.not_true, Bool.not_false, Bool.true_and, Bool.and_true, Bool.false_and, Bool.or_false, Bool.false_or, Bool.true_or, Bool.or_true, Bool.and_false, Bool.false_xor, Bool.true_xor, slE, noP, someP, sl1, slD, seqI, its1, optI, forS, turn, lcE, wipeS, restS, plainAt, List.getD_cons_zero, List.getD_cons_succ, List.all_cons, List.all_nil, muE, mu1, lstAt, dArgs, appF, popF, rvsF, extF, rng1I, rng2I, enI, zipI, zip2, starA, subS, decide_true, decide_false, Int.reduceLT, Int.reduceLE, Nat.reduceLT, Nat.reduceLeDiff, true_and, and_true, Bool.false_eq_true, if_false, ite_true, ite_false, reduceIte, reduceCtorEq, Option.some.injEq, e0, mod_pos hm, hsm, rng_zero]
  rw [e1]
  simp only [Gv, Gio, ins, List.map_cons, List.map_nil, List.length_cons, List.length_nil, Nat.sub_self, List.replicate_zero, List.append_nil, List.nil_append, List.cons_append, List.replicate_succ, Nat.reduceSub, Nat.reduceAdd, retS, retN, ret1, setS, sto, stoO, freeAt, free_dv, dv_some, dv_none, free_d, free_n, free_o, plain_dv, plain_dd, plain_n, dropS, seqS, ifS, raiS, nextS, brkS, cntS, unpS, tpG, itsOf, bindAll, optO, nmG, augS, chE, bind_ok, bind_er, out_ok, out_er, seq_nx, seq_rt, seq_er, seq_bk, seq_ct, ite_and, ite_or, ite_and2, ite_or2, ite_andB, ite_orB, cE, varE, shE, shr, bi2, un1, opE, unE, rd, List.getElem?_cons_zero, List.getElem?_cons_succ, List.set_cons_zero, List.set_cons_succ, leD, ltD, gtD, geD, cmpD, eqD_str, neD_str, eqD_int, neD_int, inD_sign, isD, isNone, ifB, caE, consA, nilA, ca1, rdAll, dAll, lenD, intF, tupF, lstF, Option.map_some, Option.map_none, Option.bind_some, addD, intD, subI, modI, divI, adI, negD, mulD, revND, revD, tupE, lstE, mtE, okTy, isStr, isLst, stripF, callE, callI, truT, tru1, tru, truD, blT, notT, andT, orT, ifE, notE, andE, orE, if_true, Bool.not_true, Bool.not_false, Bool.true_and, Bool.and_true, Bool.false_and, Bool.or_false, Bool.false_or, Bool.true_or, Bool.or_true, Bool.and_false, Bool.false_xor, Bool.true_xor, slE, noP, someP, sl1, slD, seqI, its1, optI, forS, turn, lcE, wipeS, restS, plainAt, List.getD_cons_zero, List.getD_cons_succ, List.all_cons, List.all_nil, muE, mu1, lstAt, dArgs, appF, popF, rvsF, extF, rng1I, rng2I, enI, zipI, zip2, starA, subS, decide_true, decide_false, Int.reduceLT, Int.reduceLE, Nat.reduceLT, Nat.reduceLeDiff, true_and, and_true, Bool.false_eq_true, if_false, ite_true, ite_false, reduceIte, reduceCtorEq, Option.some.injEq]
  exact ⟨_, rfl, rfl⟩
theorem law_rules_c {ds : List D} (hd : Dr ds) {s : S} {i : Nat} {f : Bool} (hs : s[i]? = some (some (.o f (.L ds)))) {k m : Int} (k2 : 2 ≤ k) (k6 : k ≤ 6) (m0 : 0 ≤ m) (m1 : m ≤ 1000) :
    ∃ (Rs : List Rl) (ds' : List D), call1 3 F_law_rules [.r i, .d (.int k), .d (.int m)] s = .ok (.d (rulesD Rs)) (s.set i (some (.o f (.L ds')))) ∧ ((Rs.length : Nat) : Int) ≤ m ∧ (∀ R ∈ Rs, isRule k R = true) ∧ Dr ds' := by
  obtain ⟨Rs, ds', e, h⟩ := law_rules_a hd k2 k6 m0 m1
  exact ⟨Rs, ds', e s i f hs, h⟩
abbrev sg (c : Nat) : D := .str (tx [c])
theorem tx_add (a b : List Nat) : (tx a ++ tx b : Str) = tx (a ++ b) := tx_app a b
theorem law_names_a {ds : List D} (hd : Dr ds) {k : Int} (k2 : 2 ≤ k) (k6 : k ≤ 6) :
    ∃ (n : Str) (ds' : List D), At 2 F_law_names [.d (.int k)] ds ds' (.d (.str n)) ∧ Names k n ∧ Dr ds' := by
  obtain ⟨s', e1, ds1, nm, left, j1, at1, rfl, h1, h2, h3, h4⟩ := forL_n (g := nmG 4) (b := b_law_names_1) (i := fun j : Nat => .int ((j : Nat) : Int)) (xs := List.range k.toNat)
    (s := [some (.o false (.L ds)), some (.d (.int k)), some (.o true (.L ((letters k).cps.toList.map sg))), some (.d (.str "")), none, none])
    (St := fun m s => ∃ ds nm left j a, s = [some (.o false (.L ds)), some (.d (.int k)), some (.o true (.L (left.map sg))), some (.d (.str (tx nm))), dv j, dv a] ∧ Dr ds ∧ (nm ++ left).Perm (letters k).cps.toList ∧ nm.length = m ∧ left.length + m = k.toNat)
    ⟨ds, [], (letters k).cps.toList, none, none, rfl, hd, List.Perm.refl _, rfl, letters_n k2 k6⟩ (by
      rintro m j em s ⟨ds2, nm, left, j1, at1, rfl, h1, h2, h3, h4⟩
      have hm : m < k.toNat := by
        have := (List.getElem?_eq_some_iff.mp em).1
        rw [List.length_range] at this
        exact this
      obtain ⟨n3, ds3, e3, a3, b3, d3⟩ := law_next_c h1 (s := [some (.o false (.L ds2)), some (.d (.int k)), some (.o true (.L (left.map sg))), some (.d (.str (tx nm))), some (.d (.int ((j : Nat) : Int))), dv at1]) (i := 0) (f := false) rfl
      have hl : (0 : Int) < ((left.length : Nat) : Int) := by omega
      have c3 := mod_in (n := n3) hl
      obtain ⟨a, ha⟩ : ∃ a : Nat, n3 % ((left.length : Nat) : Int) = (a : Int) := ⟨(n3 % ((left.length : Nat) : Int)).toNat, by omega⟩
      have al : a < left.length := by omega
      have ex : ixD (.list (left.map sg)) (.int ((a : Nat) : Int)) = some (.d (sg (left.getD a 0))) := by
        rw [ixD_list (by omega) (by rw [List.length_map]; omega), Int.toNat_natCast, getD_map 0 al]
      have t1 : cutL (left.map sg) none (some ((a : Nat) : Int)) = (left.take a).map sg := by rw [cutL_take, List.map_take]
      have t2 : cutL (left.map sg) (some (((a : Nat) : Int) + 1)) none = (left.drop (a + 1)).map sg := by
        have := cutL_drop (xs := left.map sg) (j := a + 1)
        rw [Int.natCast_add] at this
        rw [show (((a : Nat) : Int) + 1) = ((a : Nat) : Int) + ((1 : Nat) : Int) from rfl, this, List.map_drop]
      have z1 : (tx nm).length + (tx [left.getD a 0]).length ≤ 16777216 := by rw [tx_len, tx_len]; show _ + 1 ≤ _; omega
      have z2 : (left.take a).length + (left.drop (a + 1)).length ≤ 16777216 := by rw [List.length_take, List.length_drop]; omega
      refine ⟨_, .inl ?_, ds3, nm ++ [left.getD a 0], left.take a ++ left.drop (a + 1), some (.int ((j : Nat) : Int)), some (.int (a : Int)), rfl, d3, ?_, by rw [List.length_append, h3]; rfl, by rw [List.length_append, List.length_take, List.length_drop]; omega⟩
      · simp only [b_law_names_1, Gv, Gio, ins, List.map_cons, List.map_nil, List.length_cons, List.length_nil, Nat.sub_self, List.replicate_zero, List.append_nil, List.nil_append, List.cons_append, List.replicate_succ, Nat.reduceSub, Nat.reduceAdd, retS, retN, ret1, setS, sto, stoO, freeAt, free_dv, dv_some, dv_none, free_d, free_n, free_o, plain_dv, plain_dd, plain_n, dropS, seqS, ifS, raiS, nextS, brkS, cntS, unpS, tpG, itsOf, bindAll, optO, nmG, augS, chE, bind_ok, bind_er, bind_ite, out_ok, out_er, out_ite, seq_nx, seq_rt, seq_er, seq_bk, seq_ct, seq_ite, ite_and, ite_or, ite_and2, ite_or2, ite_andB, ite_orB, cE, varE, shE, shr, bi2, un1, opE, unE, rd, List.getElem?_cons_zero, List.getElem?_cons_succ, List.set_cons_zero, List.set_cons_succ, leD, ltD, gtD, geD, cmpD, eqD_str, neD_str, eqD_int, neD_int, inD_sign, isD, isNone, ifB, caE, consA, nilA, ca1, rdAll, dAll, lenD, intF, tupF, lstF, Option.map_some, Option.map_none, Option.bind_some, addD, intD, subI, modI, divI, adI, negD, mulD, revND, revD, tupE, lstE, mtE, okTy, isStr, isLst, stripF, callE, callI, truT, tru1, tru, truD, blT, notT, andT, orT, ifE, notE, andE, orE, if_true, Bool.not_true, Bool.not_false, Bool.true_and, Bool.and_true, Bool.false_and, Bool.or_false, Bool.false_or, Bool.true_or, Bool.or_true, Bool.and_false, Bool.false_xor, Bool.true_xor, slE, noP, someP, sl1, slD, seqI, its1, optI, forS, turn, lcE, wipeS, restS, plainAt, List.getD_cons_zero, List.getD_cons_succ, List.all_cons, List.all_nil, muE, mu1, lstAt, dArgs, appF, popF, rvsF, extF, rng1I, rng2I, enI, zipI, zip2, starA, subS, decide_true, decide_false, Int.reduceLT, Int.reduceLE, Nat.reduceLT, Nat.reduceLeDiff, true_and, and_true, Bool.false_eq_true, if_false, ite_true, ite_false, reduceIte, reduceCtorEq, Option.some.injEq, List.length_map, e3, hl, ha, ex, sg, z1, t1, t2, z2, tx_add, List.map_append]
      · have := take_drop_perm 0 left a al
        rw [List.append_assoc]
        refine List.Perm.trans ?_ h2
        exact List.Perm.append_left nm this)
  rw [List.length_range] at h3 h4
  have hl : left = [] := List.eq_nil_of_length_eq_zero (by omega)
  subst hl
  refine ⟨tx nm, ds1, at_rt (ds := [.int k]) rfl ?_, ⟨by rw [tx_list]; rw [List.append_nil] at h2; exact h2⟩, h1⟩
  have hsm : smI k = true := smI_of (by omega) (by omega)
  have hsg : (Sv.signs (cutS "abcdef" none (some k))).map PyData.str = (letters k).cps.toList.map sg := by
    show ((letters k).cps.toList.map fun c => tx [c]).map PyData.str = _
    rw [List.map_map]
    rfl
  simp only [b_law_names, Gv, Gio, ins, List.map_cons, List.map_nil, List.length_cons, List.length_nil, Nat.sub_self, List.replicate_zero, List.append_nil, List.nil_append, List.cons_append, List.replicate_succ, Nat.reduceSub, Nat.reduceAdd, retS, retN, ret1, setS, sto, stoO, freeAt, free_dv, dv_some, dv_none, free_d, free_n, free_o, plain_dv, plain_dd, plain_n, dropS, seqS, ifS, raiS, nextS, brkS, cntS, unpS, tpG, itsOf, bindAll, optO, nmG, augS, chE, bind_ok, bind_er, out_ok, out_er, seq_nx, seq_rt, seq_er, seq_bk, seq_ct, ite_and, ite_or, ite_and2, ite_or2, ite_andB, ite_orB, cE, varE, shE, shr, bi2, un1, opE, unE, rd, List.getElem?_cons_zero, List.getElem?_cons_succ, List.set_cons_zero, List.set_cons_succ, leD, ltD, gtD, geD, cmpD, eqD_str, neD_str, eqD_int, neD_int, inD_sign, isD, isNone, ifB, caE, consA, nilA, ca1, rdAll, dAll, lenD, intF, tupF, lstF, Option.map_some, Option.map_none, Option.bind_some, addD, intD, subI, modI, divI, adI, negD, mulD, revND, revD, tupE, lstE, mtE, okTy, isStr, isLst, stripF, callE, callI, truT, tru1, tru, truD, blT, notT, andT, orT, ifE, notE, andE, orE, if_true, Bool.not_true, Bool.not_false, Bool.true_and, Bool.and_true, Bool.false_and, Bool.or_false, Bool.false_or, Bool.true_or, Bool.or_true, Bool.and_false, Bool.false_xor, Bool.true_xor, slE, noP, someP, sl1, slD, seqI, its1, optI, forS, turn, lcE, wipeS, restS, plainAt, List.getD_cons_zero, List.getD_cons_succ, List.all_cons, List.all_nil, muE, mu1, lstAt, dArgs, appF, popF, rvsF, extF, rng1I, rng2I, enI, zipI, zip2, starA, subS, decide_true, decide_false, Int.reduceLT, Int.reduceLE, Nat.reduceLT, Nat.reduceLeDiff, true_and, and_true, Bool.false_eq_true, if_false, ite_true, ite_false, reduceIte, reduceCtorEq, Option.some.injEq, hsg, hsm, rng_zero]
  simp only [Gv, Gio, ins, List.map_cons, List.map_nil, List.length_cons, List.length_nil, Nat.sub_self, List.replicate_zero, List.append_nil, List.nil_append, List.cons_append, List.replicate_succ, Nat.reduceSub, Nat.reduceAdd, retS, retN, ret1, setS, sto, stoO, freeAt, free_dv, dv_some, dv_none, free_d, free_n, free_o, plain_dv, plain_dd, plain_n, dropS, seqS, ifS, raiS, nextS, brkS, cntS, unpS, tpG, itsOf, bindAll, optO, nmG, augS, chE, bind_ok, bind_er, bind_ite, out_ok, out_er, out_ite, seq_nx, seq_rt, seq_er, seq_bk, seq_ct, seq_ite, ite_and, ite_or, ite_and2, ite_or2, ite_andB, ite_orB, cE, varE, shE, shr, bi2, un1, opE, unE, rd, List.getElem?_cons_zero, List.getElem?_cons_succ, List.set_cons_zero, List.set_cons_succ, leD, ltD, gtD, geD, cmpD, eqD_str, neD_str, eqD_int, neD_int, inD_sign, isD, isNone, ifB, caE, consA, nilA, ca1, rdAll, dAll, lenD, intF, tupF, lstF, Option.map_some, Option.map_none, Option.bind_some, addD, intD, subI, modI, divI, adI, negD, mulD, revND, revD, tupE, lstE, mtE, okTy, isStr, isLst, stripF, callE, callI, truT, tru1, tru, truD, blT, notT, andT, orT, ifE, notE, andE, orE, if_true, Bool.not_true, Bool.not_false, Bool.true_and, Bool.and_true, Bool.false_and, Bool.or_false, Bool.false_or, Bool.true_or, Bool.or_true, Bool.and_false, Bool.false_xor, Bool.true_xor, slE, noP, someP, sl1, slD, seqI, its1, optI, forS, turn, lcE, wipeS, restS, plainAt, List.getD_cons_zero, List.getD_cons_succ, List.all_cons, List.all_nil, muE, mu1, lstAt, dArgs, appF, popF, rvsF, extF, rng1I, rng2I, enI, zipI, zip2, starA, subS, decide_true, decide_false, Int.reduceLT, Int.reduceLE, Nat.reduceLT, Nat.reduceLeDiff, true_and, and_true, Bool.false_eq_true, if_false, ite_true, ite_false, reduceIte, reduceCtorEq, Option.some.injEq, e1]
  exact ⟨_, rfl, rfl⟩
theorem law_names_c {ds : List D} (hd : Dr ds) {s : S} {i : Nat} {f : Bool} (hs : s[i]? = some (some (.o f (.L ds)))) {k : Int} (k2 : 2 ≤ k) (k6 : k ≤ 6) :
    ∃ (n : Str) (ds' : List D), call1 2 F_law_names [.r i, .d (.int k)] s = .ok (.d (.str n)) (s.set i (some (.o f (.L ds')))) ∧ Names k n ∧ Dr ds' := by
  obtain ⟨n, ds', e, h⟩ := law_names_a hd k2 k6
  exact ⟨n, ds', e s i f hs, h⟩
end M

set_option Elab.async false
set_option linter.all false
set_option maxRecDepth 100000
set_option maxHeartbeats 4000000
/-! Renaming and turning about keep what rules do. -/
namespace M
open PySem PySem.Spec L2 Sv

/-! ### renaming -/
theorem getD_tx (l : List Nat) (i : Nat) : (tx l).cps.getD i 0 = l.getD i 0 := by
  show l.toArray.getD i 0 = _
  rw [Array.getD_eq_getD_getElem?, List.getD_eq_getElem?_getD]
  simp
theorem getD_cps (w : Str) (i : Nat) : w.cps.getD i 0 = w.cps.toList.getD i 0 := by
  rw [Array.getD_eq_getD_getElem?, List.getD_eq_getElem?_getD, Array.getElem?_toList]
theorem ren_mem {k : Int} {n : Str} (h : Names k n) (a : 2 ≤ k) (b : k ≤ 6) {c : Nat} (hc : LetK k c) : LetK k (ren n c) := by
  have := h.renS a b (w := tx [c]) (fun x m => by rw [List.mem_singleton.mp m]; exact hc) (ren n c) (by show ren n c ∈ ([c].map (ren n)); simp)
  exact this
theorem ren_inj {k : Int} {n : Str} (h : Names k n) (a : 2 ≤ k) (b : k ≤ 6) {c d : Nat} (hc : LetK k c) (hd : LetK k d) (e : ren n c = ren n d) : c = d := by
  have hl := h.len a b
  have hz : n.cps.toList.length = n.length := Array.length_toList
  have nd : n.cps.toList.Nodup := h.pm.nodup_iff.mpr (letters_nodup a b)
  unfold ren at e
  rw [getD_cps, getD_cps] at e
  have c1 := hc.1
  have c2 := hc.2
  have d1 := hd.1
  have d2 := hd.2
  have hi : c - 97 < n.cps.toList.length := by omega
  have hj : d - 97 < n.cps.toList.length := by omega
  rw [List.getD_eq_getElem?_getD, List.getD_eq_getElem?_getD, List.getElem?_eq_getElem hi, List.getElem?_eq_getElem hj] at e
  have := (List.getElem_inj nd).mp (show n.cps.toList[c - 97] = n.cps.toList[d - 97] from e)
  omega
theorem renS_at {n w : Str} {i : Nat} (h : i < w.length) : (renS n w).cps.getD i 0 = ren n (w.cps.getD i 0) := by
  unfold renS
  rw [getD_tx, getD_cps, List.getD_eq_getElem?_getD, List.getD_eq_getElem?_getD, List.getElem?_map]
  have : i < w.cps.toList.length := by rw [Array.length_toList]; exact h
  rw [List.getElem?_eq_getElem this]
  rfl
theorem renP_hash {k : Int} {n p : Str} (h : Names k n) (a : 2 ≤ k) (b : k ≤ 6) (hp : PlaceIn k p) : renP n p = "#" ↔ p = "#" := by
  unfold renP
  by_cases e : p = "#"
  · rw [if_pos e]
  · rw [if_neg e]
    refine ⟨fun q => absurd ?_ e, fun q => absurd q e⟩
    have hp2 := hp.resolve_left e
    have m : 35 ∈ sortN (renS n p).cps.toList := by
      have := congrArg (fun s : Str => s.cps.toList) q
      have this : sortN (renS n p).cps.toList = [35] := this
      rw [this]
      exact List.mem_cons_self
    have := h.renS a b hp2.2 35 ((sortN_perm _).mem_iff.mp m)
    have := this.1
    omega
theorem renP_in_iff {k : Int} {n p : Str} (h : Names k n) (a : 2 ≤ k) (b : k ≤ 6) (hp : PlaceIn k p) (e : p ≠ "#") {c : Nat} (hc : LetK k c) : ren n c ∈ (renP n p).cps.toList ↔ c ∈ p.cps.toList := by
  unfold renP
  rw [if_neg e]
  have hp2 := hp.resolve_left e
  show ren n c ∈ sortN (renS n p).cps.toList ↔ _
  rw [(sortN_perm _).mem_iff]
  show ren n c ∈ p.cps.toList.map (ren n) ↔ _
  rw [List.mem_map]
  constructor
  · rintro ⟨d, hd, q⟩
    rw [← ren_inj h a b (hp2.2 d hd) hc q]
    exact hd
  · exact fun m => ⟨c, m, rfl⟩
theorem mem_at {w : Str} {i : Nat} (h : i < w.length) : w.cps.getD i 0 ∈ w.cps.toList := by
  rw [Array.getD_eq_getD_getElem?, Array.getElem?_eq_getElem (show i < w.cps.size from h)]
  exact Array.getElem_mem_toList _
theorem fits_ren {k : Int} {n p w : Str} (h : Names k n) (a : 2 ≤ k) (b : k ≤ 6) (hp : PlaceIn k p) (hw : ∀ c ∈ w.cps.toList, LetK k c) (i : Int) : fits (renP n p) (renS n w) i = fits p w i := by
  unfold fits
  rw [renS_len]
  by_cases c : i < 0 ∨ ((w.length : Nat) : Int) ≤ i
  · rw [if_pos c, if_pos c, decide_eq_decide]
    exact renP_hash h a b hp
  · rw [if_neg c, if_neg c, decide_eq_decide]
    have hi : i.toNat < w.length := by omega
    rw [renS_at hi]
    by_cases e : p = "#"
    · subst e
      have hc := hw _ (mem_at hi)
      have h35 : ∀ x, LetK k x → x ∉ (("#" : Str)).cps.toList := fun x hx m => by
        have m : x ∈ [35] := m
        have := List.mem_singleton.mp m
        have := hx.1
        omega
      have e2 : renP n "#" = "#" := if_pos rfl
      rw [e2]
      exact ⟨fun m => absurd m (h35 _ (ren_mem h a b hc)), fun m => absurd m (h35 _ hc)⟩
    · exact renP_in_iff h a b hp e (hw _ (mem_at hi))
theorem getD_renP {n : Str} {ps : List Str} {j : Nat} (h : j < ps.length) : (ps.map (renP n)).getD j "" = renP n (ps.getD j "") := by
  rw [List.getD_eq_getElem?_getD, List.getD_eq_getElem?_getD, List.getElem?_map, List.getElem?_eq_getElem h]
  rfl
theorem allFit_ren {k : Int} {n w : Str} {ps : List Str} (h : Names k n) (a : 2 ≤ k) (b : k ≤ 6) (hp : ∀ p ∈ ps, PlaceIn k p) (hw : ∀ c ∈ w.cps.toList, LetK k c) (i : Int) : allFit (ps.map (renP n)) (renS n w) i = allFit ps w i := by
  unfold allFit
  rw [List.length_map, Bool.eq_iff_iff, List.all_eq_true, List.all_eq_true]
  refine forall_congr' fun j => forall_congr' fun m => ?_
  have hj := List.mem_range.mp m
  rw [getD_renP hj, fits_ren h a b (hp _ (getD_mem hj)) hw]
theorem stands_ren {k : Int} {n w : Str} {R : Rl} (h : Names k n) (a : 2 ≤ k) (b : k ≤ 6) (hR : Made k R) (hw : ∀ c ∈ w.cps.toList, LetK k c) {i : Nat} (hi : i < w.length) : standsAt (R.ren n) (renS n w) i = standsAt R w i := by
  unfold standsAt
  show (decide (tx [(renS n w).cps.getD i 0] = renS n R.c) && (allFit (R.l.map (renP n)) (renS n w) (((i : Nat) : Int) - (((R.l.map (renP n)).length : Nat) : Int)) && allFit (R.r.map (renP n)) (renS n w) (((i : Nat) : Int) + 1))) = _
  rw [List.length_map, allFit_ren h a b hR.l hw, allFit_ren h a b hR.r hw, renS_at hi]
  congr 1
  rw [decide_eq_decide]
  have e := oneS hR.c1
  rw [e]
  show tx [ren n (w.cps.getD i 0)] = tx ([R.c.cps.getD 0 0].map (ren n)) ↔ _
  constructor
  · intro q
    have q := tx_inj q
    have q : ren n (w.cps.getD i 0) = ren n (R.c.cps.getD 0 0) := (List.cons.inj q).1
    rw [ren_inj h a b (hw _ (mem_at hi)) (hR.c _ (by rw [getD_cps, e]; simp)) q]
  · intro q
    have q := (List.cons.inj (tx_inj q)).1
    rw [q]
    rfl
theorem jn_map_ren (n : Str) (ys : List Str) : jn (ys.map (renS n)) = renS n (jn ys) := by
  unfold jn renS
  rw [List.map_map, List.map_flatten, List.map_map]
  rfl
theorem parts_ren {k : Int} {n w : Str} {R : Rl} (h : Names k n) (a : 2 ≤ k) (b : k ≤ 6) (hR : Made k R) (hw : ∀ c ∈ w.cps.toList, LetK k c) : parts (R.ren n) (renS n w) = (parts R w).map (renS n) := by
  unfold parts
  rw [List.map_map, show (renS n w).cps.size = w.cps.size from renS_len n w]
  refine List.map_congr_left fun i m => ?_
  have hi : i < w.length := List.mem_range.mp m
  show (if standsAt (R.ren n) (renS n w) i = true then (R.ren n).n else tx [(renS n w).cps.getD i 0]) = renS n (if standsAt R w i = true then R.n else tx [w.cps.getD i 0])
  rw [stands_ren h a b hR hw hi, renS_at hi]
  split <;> rfl
theorem change_ren {k : Int} {n w : Str} {R : Rl} (h : Names k n) (a : 2 ≤ k) (b : k ≤ 6) (hR : Made k R) (hw : ∀ c ∈ w.cps.toList, LetK k c) : change (R.ren n) (renS n w) = renS n (change R w) := by
  unfold change
  rw [parts_ren h a b hR hw, jn_map_ren]
theorem form_ren {k : Int} {n : Str} (h : Names k n) (a : 2 ≤ k) (b : k ≤ 6) : ∀ {Rs : List Rl} {w : Str}, (∀ R ∈ Rs, Made k R) → Word k w → formOf (Rs.map (Rl.ren n)) (renS n w) = renS n (formOf Rs w)
  | [], w, _, _ => rfl
  | R :: Rs, w, hR, hw => by
    show formOf (Rs.map (Rl.ren n)) (change (R.ren n) (renS n w)) = renS n (formOf Rs (change R w))
    rw [change_ren h a b (hR R List.mem_cons_self) hw]
    exact form_ren h a b (fun S m => hR S (List.mem_cons_of_mem _ m)) (change_word (hR R List.mem_cons_self) hw)
/-! ### turning about -/
theorem revS_len (w : Str) : (revS w).length = w.length := by
  unfold revS
  rw [tx_len, List.length_reverse, Array.length_toList]
  rfl
theorem revS_rev (w : Str) : revS (revS w) = w := by
  unfold revS
  rw [tx_list, List.reverse_reverse]
theorem revS_at {w : Str} {i : Nat} (h : i < w.length) : (revS w).cps.getD i 0 = w.cps.getD (w.length - 1 - i) 0 := by
  unfold revS
  have hl : w.cps.toList.length = w.length := Array.length_toList
  rw [getD_tx, getD_cps, List.getD_eq_getElem?_getD, List.getD_eq_getElem?_getD, List.getElem?_reverse (by omega), hl]
theorem fits_rev (p w : Str) (i : Int) : fits p (revS w) i = fits p w (((w.length : Nat) : Int) - 1 - i) := by
  unfold fits
  rw [revS_len]
  by_cases c : i < 0 ∨ ((w.length : Nat) : Int) ≤ i
  · rw [if_pos c, if_pos (by omega)]
  · rw [if_neg c, if_neg (by omega), revS_at (by omega), show (((w.length : Nat) : Int) - 1 - i).toNat = w.length - 1 - i.toNat by omega]
theorem getD_rev {ps : List Str} {j : Nat} (h : j < ps.length) : ps.reverse.getD j "" = ps.getD (ps.length - 1 - j) "" := by
  rw [List.getD_eq_getElem?_getD, List.getD_eq_getElem?_getD, List.getElem?_reverse h]
theorem allFit_rev (ps : List Str) (w : Str) (i : Int) : allFit ps.reverse (revS w) i = allFit ps w (((w.length : Nat) : Int) - i - ((ps.length : Nat) : Int)) := by
  unfold allFit
  rw [List.length_reverse, Bool.eq_iff_iff, List.all_eq_true, List.all_eq_true]
  constructor
  · intro h j m
    have hj := List.mem_range.mp m
    have := h (ps.length - 1 - j) (List.mem_range.mpr (by omega))
    rw [getD_rev (by omega), fits_rev, show ps.length - 1 - (ps.length - 1 - j) = j by omega] at this
    rw [show ((w.length : Nat) : Int) - i - ((ps.length : Nat) : Int) + ((j : Nat) : Int) = ((w.length : Nat) : Int) - 1 - (i + ((ps.length - 1 - j : Nat) : Int)) by omega]
    exact this
  · intro h j m
    have hj := List.mem_range.mp m
    have := h (ps.length - 1 - j) (List.mem_range.mpr (by omega))
    rw [getD_rev hj, fits_rev]
    rw [show ((w.length : Nat) : Int) - i - ((ps.length : Nat) : Int) + ((ps.length - 1 - j : Nat) : Int) = ((w.length : Nat) : Int) - 1 - (i + ((j : Nat) : Int)) by omega] at this
    exact this
theorem stands_rev {R : Rl} {w : Str} {i : Nat} (hi : i < w.length) : standsAt R.turn (revS w) i = standsAt R w (w.length - 1 - i) := by
  unfold standsAt
  show (decide (tx [(revS w).cps.getD i 0] = R.c) && (allFit R.r.reverse (revS w) (((i : Nat) : Int) - ((R.r.reverse.length : Nat) : Int)) && allFit R.l.reverse (revS w) (((i : Nat) : Int) + 1))) = _
  rw [revS_at hi, allFit_rev, allFit_rev, List.length_reverse]
  rw [show ((w.length : Nat) : Int) - (((i : Nat) : Int) - ((R.r.length : Nat) : Int)) - ((R.r.length : Nat) : Int) = ((w.length - 1 - i : Nat) : Int) + 1 by omega]
  rw [show ((w.length : Nat) : Int) - (((i : Nat) : Int) + 1) - ((R.l.length : Nat) : Int) = ((w.length - 1 - i : Nat) : Int) - ((R.l.length : Nat) : Int) by omega]
  congr 1
  exact Bool.and_comm _ _
theorem jn_rev (ys : List Str) : jn (ys.map revS).reverse = revS (jn ys) := by
  unfold jn revS
  rw [tx_list, List.reverse_flatten]
  congr 2
  rw [← List.map_reverse, List.map_map, ← List.map_reverse, ← List.map_reverse, List.map_map]
  rfl
theorem parts_rev (R : Rl) (w : Str) : parts R.turn (revS w) = ((parts R w).map revS).reverse := by
  apply List.ext_getElem?
  intro i
  have hz : (revS w).cps.size = w.cps.size := revS_len w
  by_cases h : i < w.cps.size
  · rw [List.getElem?_reverse (by rw [List.length_map, parts_len]; exact h), List.length_map, parts_len, List.getElem?_map]
    unfold parts
    rw [hz, List.getElem?_map, List.getElem?_map, List.getElem?_range h, List.getElem?_range (by omega)]
    show some (if standsAt R.turn (revS w) i = true then R.turn.n else tx [(revS w).cps.getD i 0]) = some (revS (if standsAt R w (w.cps.size - 1 - i) = true then R.n else tx [w.cps.getD (w.cps.size - 1 - i) 0]))
    rw [stands_rev h, revS_at h]
    show some (if standsAt R w (w.cps.size - 1 - i) = true then R.turn.n else tx [w.cps.getD (w.cps.size - 1 - i) 0]) = _
    split <;> rfl
  · rw [List.getElem?_eq_none (by rw [parts_len, hz]; omega), List.getElem?_eq_none (by rw [List.length_reverse, List.length_map, parts_len]; omega)]
theorem change_rev (R : Rl) (w : Str) : change R.turn (revS w) = revS (change R w) := by
  unfold change
  rw [parts_rev, jn_rev]
theorem form_rev : ∀ (Rs : List Rl) (w : Str), formOf (Rs.map Rl.turn) (revS w) = revS (formOf Rs w)
  | [], w => rfl
  | R :: Rs, w => by
    show formOf (Rs.map Rl.turn) (change R.turn (revS w)) = revS (formOf Rs (change R w))
    rw [change_rev]
    exact form_rev Rs _
theorem turn_turn (R : Rl) : R.turn.turn = R := by
  obtain ⟨c, n, l, r⟩ := R
  show Rl.mk c (revS (revS n)) l.reverse.reverse r.reverse.reverse = _
  rw [revS_rev, List.reverse_reverse, List.reverse_reverse]
end M

set_option Elab.async false
set_option linter.all false
set_option maxRecDepth 100000
set_option maxHeartbeats 4000000
/-! Rules stay rules; names taken back. -/
namespace M
open PySem PySem.Spec L2 Sv

theorem letters_lt {k : Int} (a : 2 ≤ k) (b : k ≤ 6) : (letters k).cps.toList.Pairwise (· < ·) :=
  k_cases (P := fun k => (letters k).cps.toList.Pairwise (· < ·)) (by decide +kernel) (by decide +kernel) (by decide +kernel) (by decide +kernel) (by decide +kernel) a b
theorem isSet_iff {k : Int} (a : 2 ≤ k) (b : k ≤ 6) {q : Str} : isSet (letters k) q = true ↔ q ≠ "" ∧ q.cps.toList.Pairwise (· < ·) ∧ ∀ c ∈ q.cps.toList, LetK k c := by
  unfold isSet
  rw [Bool.and_eq_true, Bool.not_eq_true', decide_eq_false_iff_not, decide_eq_true_eq]
  constructor
  · rintro ⟨h1, h2⟩
    have e : q.cps.toList = picked (letters k) q := congrArg (fun s : Str => s.cps.toList) h2
    refine ⟨h1, ?_, fun c m => ?_⟩
    · rw [e]
      exact (letters_lt a b).sublist List.filter_sublist
    · rw [e] at m
      exact (mem_letters a b c).mp (List.mem_filter.mp m).1
  · rintro ⟨h1, h2, h3⟩
    refine ⟨h1, ?_⟩
    have e : q.cps.toList = picked (letters k) q := by
      have p1 : (picked (letters k) q).Pairwise (· < ·) := (letters_lt a b).sublist List.filter_sublist
      have pm : q.cps.toList.Perm (picked (letters k) q) := (List.perm_ext_iff_of_nodup (h2.imp fun h => Nat.ne_of_lt h) (p1.imp fun h => Nat.ne_of_lt h)).mpr fun c => by
        unfold picked
        rw [List.mem_filter, decide_eq_true_eq, mem_letters a b]
        exact ⟨fun m => ⟨h3 c m, m⟩, fun m => m.2⟩
      exact List.Perm.eq_of_pairwise (le := (· ≤ ·)) (fun x y _ _ h1 h2 => Nat.le_antisymm h1 h2) (h2.imp Nat.le_of_lt) (p1.imp Nat.le_of_lt) pm
    rw [← e]
theorem sortN_lt {l : List Nat} (h : l.Nodup) : (sortN l).Pairwise (· < ·) := by
  have hn : (sortN l).Nodup := (sortN_perm l).nodup_iff.mpr h
  have hl := sortN_le l
  exact (List.Pairwise.and hl hn).imp fun ⟨h1, h2⟩ => Nat.lt_of_le_of_ne h1 h2
theorem nodup_ren {k : Int} {n : Str} (h : Names k n) (a : 2 ≤ k) (b : k ≤ 6) : ∀ {l : List Nat}, l.Nodup → (∀ c ∈ l, LetK k c) → (l.map (ren n)).Nodup
  | [], _, _ => List.nodup_nil
  | c :: l, nd, hl => by
    rw [List.map_cons, List.nodup_cons]
    have nd := List.nodup_cons.mp nd
    refine ⟨fun m => ?_, nodup_ren h a b nd.2 fun d m => hl d (List.mem_cons_of_mem _ m)⟩
    obtain ⟨d, md, e⟩ := List.mem_map.mp m
    rw [ren_inj h a b (hl d (List.mem_cons_of_mem _ md)) (hl c List.mem_cons_self) e] at md
    exact nd.1 md
theorem isSet_ren {k : Int} {n p : Str} (h : Names k n) (a : 2 ≤ k) (b : k ≤ 6) (hp : isSet (letters k) p = true) : isSet (letters k) (renP n p) = true := by
  obtain ⟨h1, h2, h3⟩ := (isSet_iff a b).mp hp
  have ne : p ≠ "#" := fun e => by
    rw [e] at h3
    have := (h3 35 (by show 35 ∈ [35]; simp)).1
    omega
  refine (isSet_iff a b).mpr ?_
  unfold renP
  rw [if_neg ne]
  refine ⟨fun e => ?_, ?_, fun c m => ?_⟩
  · have e2 : sortN (renS n p).cps.toList = [] := congrArg (fun s : Str => s.cps.toList) e
    have e3 : (renS n p).cps.toList = [] := by
      have := (sortN_perm (renS n p).cps.toList).length_eq
      rw [e2] at this
      exact List.eq_nil_of_length_eq_zero this.symm
    have e4 : p.cps.toList.map (ren n) = [] := e3
    rw [List.map_eq_nil_iff] at e4
    apply h1
    rw [tx_of p, e4]
    rfl
  · show (sortN (p.cps.toList.map (ren n))).Pairwise (· < ·)
    exact sortN_lt (nodup_ren h a b (h2.imp fun q => Nat.ne_of_lt q) h3)
  · exact h.renS a b h3 c ((sortN_perm _).mem_iff.mp m)
theorem isCtx_all {l : Str} {ps : List Str} {e : Int} (h : isCtx l ps e = true) : ps.length ≤ 2 ∧ ∀ i, i < ps.length → ctxAt l (ps.getD i "") e (i : Nat) = true := by
  unfold isCtx at h
  rw [Bool.and_eq_true, decide_eq_true_eq, List.all_eq_true] at h
  exact ⟨by omega, fun i hi => h.2 i (List.mem_range.mpr hi)⟩
theorem isCtx_ren {k : Int} {n : Str} {ps : List Str} {e : Int} (h : Names k n) (a : 2 ≤ k) (b : k ≤ 6) (hp : isCtx (letters k) ps e = true) : isCtx (letters k) (ps.map (renP n)) e = true := by
  obtain ⟨h2, hc⟩ := isCtx_all hp
  refine isCtx_of (by rw [List.length_map]; exact h2) fun i hi => ?_
  rw [List.length_map] at hi
  rw [getD_renP hi]
  have := hc i hi
  unfold ctxAt at this ⊢
  rw [Bool.or_eq_true] at this ⊢
  rcases this with z | z
  · exact .inl (isSet_ren h a b z)
  · rw [Bool.and_eq_true, decide_eq_true_eq, decide_eq_true_eq] at z
    refine .inr ?_
    rw [z.2, decide_eq_true z.1]
    rfl
theorem isNew_ren {k : Int} {n w : Str} (h : Names k n) (a : 2 ≤ k) (b : k ≤ 6) (hw : isNew (letters k) w = true) : isNew (letters k) (renS n w) = true := by
  obtain ⟨h1, h2⟩ := isNew_in a b hw
  exact isNew_of a b ⟨by rw [renS_len]; omega, h.renS a b h2⟩
theorem isRule_ren {k : Int} {n : Str} {R : Rl} (h : Names k n) (a : 2 ≤ k) (b : k ≤ 6) (hR : isRule k R = true) : isRule k (R.ren n) = true := by
  have hm := isRule_made a b hR
  unfold isRule at hR
  rw [Bool.and_eq_true, Bool.and_eq_true, Bool.and_eq_true, Bool.and_eq_true, decide_eq_true_eq, decide_eq_true_eq] at hR
  obtain ⟨⟨⟨⟨h1, h2⟩, h3⟩, h4⟩, h5⟩ := hR
  have e : R.ren n = ⟨tx [ren n (R.c.cps.getD 0 0)], renS n R.n, R.l.map (renP n), R.r.map (renP n)⟩ := by
    show Rl.mk (renS n R.c) _ _ _ = _
    congr 1
    conv => lhs; rw [oneS hm.c1]
    rfl
  rw [e]
  refine isRule_of ((mem_letters a b _).mpr (ren_mem h a b (hm.c _ (mem_at (by have := hm.c1; omega))))) (isNew_ren h a b h3) (isCtx_ren h a b h4) ?_
  rw [List.length_map]
  exact isCtx_ren h a b h5
theorem areRules_ren {k : Int} {n : Str} {Rs : List Rl} (h : Names k n) (a : 2 ≤ k) (b : k ≤ 6) (hR : areRules k Rs = true) : areRules k (Rs.map (Rl.ren n)) = true := by
  obtain ⟨h8, hm⟩ := all_made hR
  refine areRules_of (by rw [List.length_map]; exact h8) fun R m => ?_
  obtain ⟨S, mS, rfl⟩ := List.mem_map.mp m
  exact isRule_ren h a b (hm S mS)
theorem isCtx_rev {l : Str} {ps : List Str} {e : Int} (h : isCtx l ps e = true) : isCtx l ps.reverse (((ps.length : Nat) : Int) - 1 - e) = true := by
  obtain ⟨h2, hc⟩ := isCtx_all h
  refine isCtx_of (by rw [List.length_reverse]; exact h2) fun i hi => ?_
  rw [List.length_reverse] at hi
  rw [getD_rev hi]
  have := hc (ps.length - 1 - i) (by omega)
  unfold ctxAt at this ⊢
  rw [Bool.or_eq_true] at this ⊢
  refine this.imp id fun z => ?_
  rw [Bool.and_eq_true, decide_eq_true_eq, decide_eq_true_eq] at z ⊢
  exact ⟨by omega, z.2⟩
theorem isNew_rev {k : Int} {w : Str} (a : 2 ≤ k) (b : k ≤ 6) (hw : isNew (letters k) w = true) : isNew (letters k) (revS w) = true := by
  obtain ⟨h1, h2⟩ := isNew_in a b hw
  exact isNew_of a b ⟨by rw [revS_len]; omega, fun c m => h2 c (List.mem_reverse.mp m)⟩
theorem isRule_turn {k : Int} {R : Rl} (a : 2 ≤ k) (b : k ≤ 6) (hR : isRule k R = true) : isRule k R.turn = true := by
  unfold isRule at hR ⊢
  rw [Bool.and_eq_true, Bool.and_eq_true, Bool.and_eq_true, Bool.and_eq_true, decide_eq_true_eq, decide_eq_true_eq] at hR ⊢
  obtain ⟨⟨⟨⟨h1, h2⟩, h3⟩, h4⟩, h5⟩ := hR
  refine ⟨⟨⟨⟨h1, h2⟩, isNew_rev a b h3⟩, ?_⟩, ?_⟩
  · have := isCtx_rev h5
    rw [show ((R.r.length : Nat) : Int) - 1 - (((R.r.length : Nat) : Int) - 1) = 0 by omega] at this
    exact this
  · have := isCtx_rev h4
    rw [Int.sub_zero] at this
    show isCtx (letters k) R.l.reverse (((R.l.reverse.length : Nat) : Int) - 1) = true
    rw [List.length_reverse]
    exact this
theorem areRules_turn {k : Int} {Rs : List Rl} (a : 2 ≤ k) (b : k ≤ 6) (hR : areRules k Rs = true) : areRules k (Rs.map Rl.turn) = true := by
  obtain ⟨h8, hm⟩ := all_made hR
  refine areRules_of (by rw [List.length_map]; exact h8) fun R m => ?_
  obtain ⟨S, mS, rfl⟩ := List.mem_map.mp m
  exact isRule_turn a b (hm S mS)
theorem turn_map (Rs : List Rl) : (Rs.map Rl.turn).map Rl.turn = Rs := by
  rw [List.map_map]
  have : ∀ R ∈ Rs, (Rl.turn ∘ Rl.turn) R = id R := fun R _ => turn_turn R
  rw [List.map_congr_left this, List.map_id]
theorem renR_of {k : Int} {n : Str} {R : Rl} (h : Names k n) (a : 2 ≤ k) (b : k ≤ 6) (hm : Made k R) : RenR k R n where
  hc := ⟨h.renK a b hm.c, by have := hm.c1; omega⟩
  hn := ⟨h.renK a b hm.n, by have := hm.n3; omega⟩
  hl := fun p m e => ⟨h.renK a b ((hm.l p m).resolve_left e).2, by have := (hm.l p m).len; omega⟩
  hr := fun p m e => ⟨h.renK a b ((hm.r p m).resolve_left e).2, by have := (hm.r p m).len; omega⟩
  ll := by have := hm.l2; omega
  lr := by have := hm.r2; omega
/-! ### back -/
/-- where a sign stands first -/
def idx (n : Str) (c : Nat) : Nat := (Builtin.Str.occurrences n ⟨#[c]⟩ 0 n.length 1).headD 0
theorem idx_at {n : Str} {c : Nat} (m : c ∈ n.cps.toList) : (∃ rest, Builtin.Str.occurrences n ⟨#[c]⟩ 0 n.length 1 = idx n c :: rest) ∧ idx n c < n.length ∧ n.cps.getD (idx n c) 0 = c := by
  have f := PySem.StrLaws.found_one n c
  rw [decide_eq_true m] at f
  unfold idx
  cases e : Builtin.Str.occurrences n ⟨#[c]⟩ 0 n.length 1 with
  | nil => rw [e] at f; cases f
  | cons i rest =>
    have sp := PySem.StrLaws.occ_spec n ⟨#[c]⟩ 0 n.length 1 i (by rw [e]; exact List.mem_cons_self)
    obtain ⟨h1, h2⟩ := sp
    have hi : i < n.length := by
      have : (⟨#[c]⟩ : Str).length = 1 := rfl
      omega
    refine ⟨⟨rest, rfl⟩, hi, ?_⟩
    have e2 : n.cps.extract i (i + 1) = #[c] := eq_of_beq h2
    have e3 : (n.cps.extract i (i + 1))[0]? = some c := by rw [e2]; rfl
    have hs : i < n.cps.size := hi
    show n.cps.getD i 0 = c
    rw [Array.getElem?_extract, if_pos (by omega), Nat.add_zero] at e3
    rw [Array.getD_eq_getD_getElem?, e3]
    rfl
theorem idx_ren {k : Int} {n : Str} (h : Names k n) (a : 2 ≤ k) (b : k ≤ 6) {c : Nat} (hc : LetK k c) : 97 + idx n (ren n c) = c := by
  have hl := h.len a b
  have c1 := hc.1
  have c2 := hc.2
  have hm : ren n c ∈ n.cps.toList := by
    unfold ren
    exact mem_at (by omega)
  obtain ⟨_, h1, h2⟩ := idx_at hm
  have hl2 : LetK k (97 + idx n (ren n c)) := ⟨by omega, by omega⟩
  refine ren_inj h a b hl2 hc ?_
  unfold ren at h2 ⊢
  rw [show 97 + idx n (n.cps.getD (c - 97) 0) - 97 = idx n (n.cps.getD (c - 97) 0) by omega]
  exact h2
/-- the names that take back -/
def backS (k : Int) (n : Str) : Str := tx ((letters k).cps.toList.map fun c => 97 + idx n c)
theorem names_map {k : Int} {n : Str} (h : Names k n) (a : 2 ≤ k) (b : k ≤ 6) : n.cps.toList = (letters k).cps.toList.map (ren n) := by
  have hl := h.len a b
  have hz : n.cps.toList.length = n.length := Array.length_toList
  rw [letters_list a b, List.map_map]
  apply List.ext_getElem
  · rw [List.length_map, List.length_range]; omega
  · intro i h1 h2
    rw [List.getElem_map, List.getElem_range]
    show _ = ren n (97 + i)
    unfold ren
    rw [show 97 + i - 97 = i by omega, getD_cps, List.getD_eq_getElem?_getD, List.getElem?_eq_getElem h1]
    rfl
theorem back_names {k : Int} {n : Str} (h : Names k n) (a : 2 ≤ k) (b : k ≤ 6) : Names k (backS k n) := by
  refine ⟨?_⟩
  unfold backS
  rw [tx_list]
  have p : ((letters k).cps.toList.map fun c => 97 + idx n c).Perm (n.cps.toList.map fun c => 97 + idx n c) := h.pm.symm.map _
  refine p.trans ?_
  rw [names_map h a b, List.map_map]
  have : ∀ c ∈ (letters k).cps.toList, ((fun c => 97 + idx n c) ∘ ren n) c = id c := fun c m => idx_ren h a b ((mem_letters a b c).mp m)
  rw [List.map_congr_left this, List.map_id]
theorem back_ren {k : Int} {n : Str} (h : Names k n) (a : 2 ≤ k) (b : k ≤ 6) {c : Nat} (hc : LetK k c) : ren (backS k n) (ren n c) = c := by
  have hd := ren_mem h a b hc
  have d1 := hd.1
  have d2 := hd.2
  have e : ren (backS k n) (ren n c) = 97 + idx n (ren n c) := by
    generalize ren n c = d at d1 d2
    unfold ren backS
    rw [getD_tx, letters_list a b, List.map_map, List.getD_eq_getElem?_getD, List.getElem?_map, List.getElem?_range (by omega)]
    show 97 + idx n (97 + (d - 97)) = _
    rw [show 97 + (d - 97) = d by omega]
  rw [e]
  exact idx_ren h a b hc
theorem back_renS {k : Int} {n w : Str} (h : Names k n) (a : 2 ≤ k) (b : k ≤ 6) (hw : ∀ c ∈ w.cps.toList, LetK k c) : renS (backS k n) (renS n w) = w := by
  unfold renS
  rw [tx_list, List.map_map]
  have : ∀ c ∈ w.cps.toList, (ren (backS k n) ∘ ren n) c = id c := fun c m => back_ren h a b (hw c m)
  rw [List.map_congr_left this, List.map_id]
theorem back_renP {k : Int} {n p : Str} (h : Names k n) (a : 2 ≤ k) (b : k ≤ 6) (hp : isSet (letters k) p = true ∨ p = "#") : renP (backS k n) (renP n p) = p := by
  rcases hp with hp | e
  · obtain ⟨h1, h2, h3⟩ := (isSet_iff a b).mp hp
    have ne : p ≠ "#" := fun e => by
      rw [e] at h3
      have := (h3 35 (by show 35 ∈ [35]; simp)).1
      omega
    have ne2 : renP n p ≠ "#" := fun e => ne ((renP_hash h a b (isSet_in a b hp)).mp e)
    unfold renP at ne2 ⊢
    rw [if_neg ne] at ne2 ⊢
    rw [if_neg ne2]
    have e : p.cps.toList = sortN ((renS (backS k n) (tx (sortN (renS n p).cps.toList))).cps.toList) := by
      refine sortN_uniq ?_ (h2.imp Nat.le_of_lt)
      show p.cps.toList.Perm ((sortN (p.cps.toList.map (ren n))).map (ren (backS k n)))
      have q := (sortN_perm (p.cps.toList.map (ren n))).map (ren (backS k n))
      refine List.Perm.trans ?_ q.symm
      rw [List.map_map]
      have : ∀ c ∈ p.cps.toList, (ren (backS k n) ∘ ren n) c = id c := fun c m => back_ren h a b (h3 c m)
      rw [List.map_congr_left this, List.map_id]
    rw [← e]
  · rw [e]
    rfl
theorem back_rl {k : Int} {n : Str} {R : Rl} (h : Names k n) (a : 2 ≤ k) (b : k ≤ 6) (hR : isRule k R = true) : (R.ren n).ren (backS k n) = R := by
  have hm := isRule_made a b hR
  unfold isRule at hR
  rw [Bool.and_eq_true, Bool.and_eq_true, Bool.and_eq_true, Bool.and_eq_true] at hR
  obtain ⟨⟨_, h4⟩, h5⟩ := hR
  have pl : ∀ {ps : List Str} {e : Int}, isCtx (letters k) ps e = true → (ps.map (renP n)).map (renP (backS k n)) = ps := fun {ps e} hc => by
    rw [List.map_map]
    have : ∀ p ∈ ps, (renP (backS k n) ∘ renP n) p = id p := fun p m => by
      obtain ⟨i, hi, rfl⟩ := List.getElem_of_mem m
      have := (isCtx_all hc).2 i hi
      rw [List.getD_eq_getElem?_getD, List.getElem?_eq_getElem hi] at this
      unfold ctxAt at this
      rw [Bool.or_eq_true] at this
      refine back_renP h a b (this.imp id fun z => ?_)
      rw [Bool.and_eq_true, decide_eq_true_eq, decide_eq_true_eq] at z
      exact z.2
    rw [List.map_congr_left this, List.map_id]
  obtain ⟨c, m, l, r⟩ := R
  show Rl.mk (renS (backS k n) (renS n c)) (renS (backS k n) (renS n m)) _ _ = _
  rw [back_renS h a b hm.c, back_renS h a b hm.n]
  show Rl.mk c m ((l.map (renP n)).map (renP (backS k n))) ((r.map (renP n)).map (renP (backS k n))) = _
  rw [pl h4, pl h5]
theorem back_rules {k : Int} {n : Str} {Rs : List Rl} (h : Names k n) (a : 2 ≤ k) (b : k ≤ 6) (hR : ∀ R ∈ Rs, isRule k R = true) : (Rs.map (Rl.ren n)).map (Rl.ren (backS k n)) = Rs := by
  rw [List.map_map]
  have : ∀ R ∈ Rs, (Rl.ren (backS k n) ∘ Rl.ren n) R = id R := fun R m => back_rl h a b (hR R m)
  rw [List.map_congr_left this, List.map_id]
end M

set_option Elab.async false
set_option linter.all false
set_option maxRecDepth 100000
set_option maxHeartbeats 4000000
/-! The same data compared; the end of a law. -/
namespace M
open PySem PySem.Spec PySem.W L2 Sv

/-- data of lists, tuples, texts, numbers: no dict, not too deep -/
structure Pl (n : Nat) (d : D) : Prop where
  p : d.plain = true
  d : d.depth ≤ n
theorem Pl.str {n : Nat} {z : Str} : Pl n (.str z) := ⟨rfl, Nat.zero_le _⟩
theorem Pl.int {n : Nat} {z : Int} : Pl n (.int z) := ⟨rfl, Nat.zero_le _⟩
theorem Pl.bool {n : Nat} {z : Bool} : Pl n (.bool z) := ⟨rfl, Nat.zero_le _⟩
theorem Pl.none {n : Nat} : Pl n .none := ⟨rfl, Nat.zero_le _⟩
theorem pl_all {n : Nat} : ∀ {ds : List D}, (∀ d ∈ ds, Pl n d) → PyData.plainAll ds = true ∧ PyData.depthAll ds ≤ n
  | [], _ => ⟨rfl, Nat.zero_le _⟩
  | d :: ds, h => by
    obtain ⟨a, b⟩ := pl_all (ds := ds) fun z m => h z (List.mem_cons_of_mem _ m)
    have g := h d List.mem_cons_self
    exact ⟨by rw [PyData.plainAll, g.p, a]; rfl, by rw [PyData.depthAll]; exact Nat.max_le.mpr ⟨g.d, b⟩⟩
theorem Pl.list {n : Nat} {ds : List D} (h : ∀ d ∈ ds, Pl n d) : Pl (n + 1) (.list ds) := ⟨by rw [PyData.plain]; exact (pl_all h).1, Nat.succ_le_succ (pl_all h).2⟩
theorem Pl.tup {n : Nat} {ds : List D} (h : ∀ d ∈ ds, Pl n d) : Pl (n + 1) (.tuple ds) := ⟨by rw [PyData.plain]; exact (pl_all h).1, Nat.succ_le_succ (pl_all h).2⟩
theorem Pl.eq {n : Nat} {d : D} (h : Pl n d) (hn : n ≤ 40) : eqD d d = some (.d (.bool true)) := by
  unfold eqD
  rw [show okD d = true from decide_eq_true (Nat.le_trans h.d hn), Bool.true_or, if_pos rfl, PySem.SeqAt.eqv_refl_plain d h.p]
theorem Pl.ne {n : Nat} {d : D} (h : Pl n d) (hn : n ≤ 40) : neD d d = some (.d (.bool false)) := by
  unfold neD
  rw [show okD d = true from decide_eq_true (Nat.le_trans h.d hn), Bool.true_or, if_pos rfl, PySem.SeqAt.eqv_refl_plain d h.p]
  rfl
theorem pl_tupS {n : Nat} (ps : List Str) : Pl (n + 1) (tupS ps) := .tup fun d m => by
  obtain ⟨p, _, rfl⟩ := List.mem_map.mp m
  exact .str
theorem pl_data {n : Nat} (R : Rl) : Pl (n + 2) R.data := .tup fun d m => by
  rcases List.mem_cons.mp m with rfl | m
  · exact .str
  rcases List.mem_cons.mp m with rfl | m
  · exact .str
  rcases List.mem_cons.mp m with rfl | m
  · exact pl_tupS _
  rw [List.mem_singleton.mp m]
  exact pl_tupS _
theorem pl_rules {n : Nat} (Rs : List Rl) : Pl (n + 3) (rulesD Rs) := .tup fun d m => by
  obtain ⟨R, _, rfl⟩ := List.mem_map.mp m
  exact pl_data R
theorem ne_rules (Rs : List Rl) : neD (rulesD Rs) (rulesD Rs) = some (.d (.bool false)) := (pl_rules (n := 0) Rs).ne (by decide)
theorem ne_data (R : Rl) : neD R.data R.data = some (.d (.bool false)) := (pl_data (n := 0) R).ne (by decide)
theorem law_end {N : Nat} {b : S → Out} {ns : List Int} (h : ∃ s1, b (some (.s ns) :: List.replicate (N - 1) none) = .rt (.d (.bool true)) s1) : ∃ s', fin N b [some (.s ns)] = .ok (.d (.bool true)) s' := by
  obtain ⟨s1, e⟩ := h
  refine ⟨outs [some (.s ns)] s1, ?_⟩
  show fin1 [some (.s ns)] (b (some (.s ns) :: List.replicate (N - 1) none)) = _
  rw [e]
  rfl
theorem small_of {k : Int} {Rs : List Rl} (a : 2 ≤ k) (b : k ≤ 6) (h : ∀ R ∈ Rs, isRule k R = true) : SmallN Rs := fun R m => (isRule_made a b (h R m)).small.n
end M

set_option Elab.async false
set_option linter.all false
set_option maxRecDepth 100000
set_option maxHeartbeats 4000000
namespace K
open PySem PySem.Spec L2 Sv M
/-- which error is of which class -/
def tabX : XTab := [("NotWord", [("ShiftError", true), ("NotWord", true), ("NotRule", false), ("BadNumber", false), ("TooLarge", false)]), ("NotRule", [("ShiftError", true), ("NotWord", false), ("NotRule", true), ("BadNumber", false), ("TooLarge", false)]), ("BadNumber", [("ShiftError", true), ("NotWord", false), ("NotRule", false), ("BadNumber", true), ("TooLarge", false)]), ("TooLarge", [("ShiftError", true), ("NotWord", false), ("NotRule", false), ("BadNumber", false), ("TooLarge", true)])]
noncomputable def b_law_1 : S → Out := (seqS (setS 9 (callE 3 F_law_string (consA (varE 1) (consA (shE (varE 2)) (consA (cE (.int 8)) nilA)))))
  (seqS (setS 10 (callE 3 F_form_of (consA (shE (varE 2)) (consA (shE (varE 3)) (consA (shE (varE 9)) nilA)))))
  (seqS (ifS (blT (opE neD (callE 3 F_form_of (consA (shE (varE 2)) (consA (shE (varE 6)) (consA (shE (callE 3 F_renamed_word (consA (shE (varE 2)) (consA (shE (varE 9)) (consA (shE (varE 4)) nilA))))) nilA)))) (mtE isStr joinF (cE (.str "")) (consA (lcE (seqI (shE (varE 10))) (nmG 12) yesT (opE ixD (varE 4) (mtE isStr sindexF (cE (.str "abcdef")) (consA (varE 12) nilA))) [12]) nilA))))
  (retS (cE (.bool false)))
  nextS)
  (seqS (ifS (blT (opE neD (callE 3 F_form_of (consA (shE (varE 2)) (consA (shE (varE 7)) (consA (shE (unE revND (varE 9))) nilA)))) (unE revND (varE 10))))
  (retS (cE (.bool false)))
  nextS)
  (ifS (andT (truT (varE 3)) (blT (opE neD (callE 3 F_form_of (consA (shE (varE 2)) (consA (shE (slE (varE 3) noP (someP (cE (.int 1))))) (consA (shE (varE 9)) nilA)))) (callE 3 F_changed (consA (shE (varE 2)) (consA (opE ixD (varE 3) (cE (.int 0))) (consA (shE (varE 9)) nilA)))))))
  (retS (cE (.bool false)))
  nextS)))))
noncomputable def b_law : S → Out := (seqS (setS 1 (callE 1 F_law_draws (consA (varE 0) nilA)))
  (seqS (dropS (fun s => mu1 rvsF 1 s []))
  (seqS (setS 2 (opE addD (cE (.int 2)) (opE (intD modI) (caE intF (consA (callE 1 F_law_next (consA (varE 1) nilA)) nilA)) (cE (.int 3)))))
  (seqS (setS 3 (callE 3 F_law_rules (consA (varE 1) (consA (shE (varE 2)) (consA (cE (.int 3)) nilA)))))
  (seqS (setS 4 (callE 2 F_law_names (consA (varE 1) (consA (shE (varE 2)) nilA))))
  (seqS (setS 5 (mtE isStr joinF (cE (.str "")) (consA (lcE (seqI (shE (slE (cE (.str "abcdef")) noP (someP (varE 2))))) (nmG 11) yesT (opE ixD (cE (.str "abcdef")) (mtE isStr sindexF (varE 4) (consA (varE 11) nilA))) [11]) nilA)))
  (seqS (setS 6 (callE 3 F_renamed_rules (consA (shE (varE 2)) (consA (shE (varE 3)) (consA (shE (varE 4)) nilA)))))
  (seqS (setS 7 (callE 2 F_turned_rules (consA (shE (varE 2)) (consA (shE (varE 3)) nilA))))
  (seqS (ifS (orT (blT (opE neD (callE 3 F_renamed_rules (consA (shE (varE 2)) (consA (shE (varE 6)) (consA (shE (varE 5)) nilA)))) (varE 3))) (blT (opE neD (callE 2 F_turned_rules (consA (shE (varE 2)) (consA (shE (varE 7)) nilA))) (varE 3))))
  (retS (cE (.bool false)))
  nextS)
  (seqS (forS (rng1I (consA (cE (.int 3)) nilA)) (nmG 8) b_law_1)
  (retS (cE (.bool true)))))))))))))
noncomputable def F_law : S → ER Vl := fin 13 b_law
end K

set_option Elab.async false
set_option linter.all false
set_option maxRecDepth 100000
set_option maxHeartbeats 4000000
namespace K
open PySem PySem.Spec L2 Sv M

theorem turn3 {ns : List Int} {ds : List D} {k : Int} {Rs : List Rl} {n bk : Str} {j wd fm : Option D} (k2 : 2 ≤ k) (k4 : k ≤ 4) (hd : Dr ds) (hR : areRules k Rs = true) (h3 : Rs.length ≤ 3) (hn : M.Names k n) (i : Nat) :
    ∃ ds' wd' fm', turn (nmG 8) b_law_1 (.int ((i : Nat) : Int)) [some (.s ns), some (.o true (.L ds)), some (.d (.int k)), some (.d (rulesD Rs)), some (.d (.str n)), some (.d (.str bk)), some (.d (rulesD (Rs.map (Rl.ren n)))), some (.d (rulesD (Rs.map Rl.turn))), dv j, dv wd, dv fm, none, none] =
      .nx [some (.s ns), some (.o true (.L ds')), some (.d (.int k)), some (.d (rulesD Rs)), some (.d (.str n)), some (.d (.str bk)), some (.d (rulesD (Rs.map (Rl.ren n)))), some (.d (rulesD (Rs.map Rl.turn))), some (.d (.int ((i : Nat) : Int))), some (.d wd'), some (.d fm'), none, none] ∧ Dr ds' := by
  have k6 : k ≤ 6 := by omega
  obtain ⟨w, ds1, e1, hw, d1⟩ := law_string_c hd (s := [some (.s ns), some (.o true (.L ds)), some (.d (.int k)), some (.d (rulesD Rs)), some (.d (.str n)), some (.d (.str bk)), some (.d (rulesD (Rs.map (Rl.ren n)))), some (.d (rulesD (Rs.map Rl.turn))), some (.d (.int ((i : Nat) : Int))), dv wd, dv fm, none, none]) (i := 1) (f := true) rfl (k := k) (m := 8) (by omega) k6 (by omega) (by omega)
  obtain ⟨w8, wk⟩ := hw
  have hm : ∀ R ∈ Rs, isRule k R = true := (all_made hR).2
  have made : ∀ R ∈ Rs, Made k R := fun R m => isRule_made k2 k6 (hm R m)
  have hk := numOk_of k2 k6
  have ww : isWord k w = true := isWord_in k2 k6 (by omega) wk
  have wn : isWord k (renS n w) = true := isWord_in k2 k6 (by rw [renS_len]; omega) (hn.renS k2 k6 wk)
  have wr : isWord k (revS w) = true := isWord_in k2 k6 (by rw [revS_len]; omega) fun c m => wk c (List.mem_reverse.mp m)
  have pw : 3 ^ Rs.length * 8 ≤ 2000 := by
    have : 3 ^ Rs.length ≤ 3 ^ 3 := Nat.pow_le_pow_right (by decide) h3
    omega
  have big0 : ∀ {Ss : List Rl} {v : Str}, (∀ R ∈ Ss, Made k R) → Ss.length ≤ 3 → v.length ≤ 8 → big Ss v = false := fun {Ss v} hS h3 h8 => big_3 hS (by
    have h1 : 3 ^ Ss.length ≤ 3 ^ 3 := Nat.pow_le_pow_right (by decide) h3
    have h2 : 3 ^ Ss.length * v.length ≤ 27 * 8 := Nat.mul_le_mul h1 h8
    omega)
  have w8' : w.length ≤ 8 := by omega
  have b1 := big0 made h3 w8'
  have b2 := big0 (Ss := Rs.map (Rl.ren n)) (v := renS n w) (fun R m => by obtain ⟨S, mS, rfl⟩ := List.mem_map.mp m; exact (made S mS).ren hn k2 k6) (by rw [List.length_map]; exact h3) (by rw [renS_len]; exact w8')
  have b3 := big0 (Ss := Rs.map Rl.turn) (v := revS w) (fun R m => by obtain ⟨S, mS, rfl⟩ := List.mem_map.mp m; exact (made S mS).turn) (by rw [List.length_map]; exact h3) (by rw [revS_len]; exact w8')
  have r2 := areRules_ren hn k2 k6 hR
  have r3 := areRules_turn k2 k6 hR
  have s1 := small_of k2 k6 hm
  have s2 := small_of k2 k6 (all_made r2).2
  have s3 := small_of k2 k6 (all_made r3).2
  have f1 := fun s => form_of_c k Rs w s1 (by omega) (by omega) s
  have f2 := fun s => form_of_c k (Rs.map (Rl.ren n)) (renS n w) s2 (by rw [List.length_map]; omega) (by rw [renS_len]; omega) s
  have f3 := fun s => form_of_c k (Rs.map Rl.turn) (revS w) s3 (by rw [List.length_map]; omega) (by rw [revS_len]; omega) s
  simp only [hk, hR, ww, b1, if_true, Bool.false_eq_true, if_false] at f1
  simp only [hk, r2, wn, b2, if_true, Bool.false_eq_true, if_false] at f2
  simp only [hk, r3, wr, b3, if_true, Bool.false_eq_true, if_false] at f3
  rw [form_ren hn k2 k6 made wk] at f2
  rw [form_rev] at f3
  have fw := formOf_word made wk
  have fl : (formOf Rs w).length ≤ 16777216 := Nat.le_trans (form_len (by omega) b1) (by decide)
  have hl : n.length < 64 := by rw [hn.len k2 k6]; omega
  have rw_ := fun s => renamed_word_c k w n (by omega) hl (fun _ _ => hn.renK k2 k6 wk) s
  simp only [hk, ww, hn.ok k2 k6, if_true] at rw_
  have ll : (formOf Rs w).cps.toList.length = (formOf Rs w).length := Array.length_toList
  have e26 : (tx ((formOf Rs w).cps.toList.map (ren n))) = renS n (formOf Rs w) := rfl
  have h6 := hn.ren6 k2 k6 fw
  have ej : (((formOf Rs w).cps.toList.map fun c => PyData.str (tx [ren n c]))) = ((formOf Rs w).cps.toList.map (ren n)).map fun c => .str (tx [c]) := by rw [List.map_map]; rfl
  have q1 := joinF_signs (cs := (formOf Rs w).cps.toList.map (ren n)) (by rw [List.length_map]; omega)
  have last : ∀ s : S, s = [some (.s ns), some (.o true (.L ds1)), some (.d (.int k)), some (.d (rulesD Rs)), some (.d (.str n)), some (.d (.str bk)), some (.d (rulesD (Rs.map (Rl.ren n)))), some (.d (rulesD (Rs.map Rl.turn))), some (.d (.int ((i : Nat) : Int))), some (.d (.str w)), some (.d (.str (formOf Rs w))), none, none] →
      ifS (andT (truT (varE 3)) (blT (opE neD (callE 3 F_form_of (consA (shE (varE 2)) (consA (shE (slE (varE 3) noP (someP (cE (.int 1))))) (consA (shE (varE 9)) nilA)))) (callE 3 F_changed (consA (shE (varE 2)) (consA (opE ixD (varE 3) (cE (.int 0))) (consA (shE (varE 9)) nilA))))))) (retS (cE (.bool false))) nextS s = .nx s := fun s e => by
    subst e
    cases Rs with
    | nil =>
      have z : (rulesD []) = .tuple [] := rfl
      simp only [Gv, Gio, ins, List.map_cons, List.map_nil, List.length_cons, List.length_nil, Nat.sub_self, List.replicate_zero, List.append_nil, List.nil_append, List.cons_append, List.replicate_succ, Nat.reduceSub, Nat.reduceAdd, retS, retN, ret1, setS, sto, stoO, freeAt, free_dv, dv_some, dv_none, free_d, free_n, free_o, plain_dv, plain_dd, plain_n, dropS, seqS, ifS, raiS, nextS, brkS, cntS, unpS, tpG, itsOf, bindAll, optO, nmG, augS, chE, bind_ok, bind_er, bind_ite, out_ok, out_er, out_ite, seq_nx, seq_rt, seq_er, seq_bk, seq_ct, seq_ite, ite_and, ite_or, ite_and2, ite_or2, ite_andB, ite_orB, cE, varE, shE, shr, bi2, un1, opE, unE, rd, List.getElem?_cons_zero, List.getElem?_cons_succ, List.set_cons_zero, List.set_cons_succ, leD, ltD, gtD, geD, cmpD, eqD_str, neD_str, eqD_int, neD_int, inD_sign, isD, isNone, ifB, caE, consA, nilA, ca1, rdAll, dAll, lenD, intF, tupF, lstF, Option.map_some, Option.map_none, Option.bind_some, addD, intD, subI, modI, divI, adI, negD, mulD, revND, revD, tupE, lstE, mtE, okTy, isStr, isLst, stripF, callE, callI, truT, tru1, tru, truD, blT, notT, andT, orT, ifE, notE, andE, orE, if_true, Bool.not_true, Bool.not_false, Bool.true_and, Bool.and_true, Bool.false_and, Bool.or_false, Bool.false_or, Bool.true_or, Bool.or_true, Bool.and_false, Bool.false_xor, Bool.true_xor, slE, noP, someP, sl1, slD, seqI, its1, optI, forS, turn, lcE, wipeS, restS, plainAt, List.getD_cons_zero, List.getD_cons_succ, List.all_cons, List.all_nil, muE, mu1, lstAt, dArgs, appF, popF, rvsF, extF, rng1I, rng2I, enI, zipI, zip2, starA, subS, decide_true, decide_false, Int.reduceLT, Int.reduceLE, Nat.reduceLT, Nat.reduceLeDiff, true_and, and_true, Bool.false_eq_true, if_false, ite_true, ite_false, reduceIte, reduceCtorEq, Option.some.injEq, z, List.isEmpty_nil]
    | cons R Rs =>
      have z : (rulesD (R :: Rs)) = .tuple (R.data :: Rs.map Rl.data) := rfl
      have c1 : cutL (R.data :: Rs.map Rl.data) none (some 1) = [R.data] := by
        have := cutL_take (xs := R.data :: Rs.map Rl.data) (j := 1)
        rw [show ((1 : Nat) : Int) = 1 from rfl] at this
        rw [this]
        rfl
      have i0 : ixD (.tuple (R.data :: Rs.map Rl.data)) (.int 0) = some (.d R.data) := by
        rw [ixD_tup (by decide) (by rw [List.length_cons]; omega)]
        rfl
      have hR1 := hm R List.mem_cons_self
      have m1 := made R List.mem_cons_self
      have ar : areRules k [R] = true := areRules_of (show 1 ≤ 8 by decide) fun S m => by rw [List.mem_singleton.mp m]; exact hR1
      have b4 := big0 (Ss := [R]) (v := w) (fun S m => by rw [List.mem_singleton.mp m]; exact m1) (show 1 ≤ 3 by decide) w8'
      have f4 := fun s => form_of_c k [R] w (fun S m => by rw [List.mem_singleton.mp m]; exact m1.small.n) (show 1 ≤ 1000 by decide) (by omega) s
      have ch := fun s => changed_c k R w m1.small.n (by omega) s
      simp only [hk, ar, ww, b4, if_true, Bool.false_eq_true, if_false] at f4
      simp only [hk, hR1, ww, if_true] at ch
      have z1 : (.tuple [R.data] : D) = rulesD [R] := rfl
      have ff : formOf [R] w = change R w := rfl
      simp only [Gv, Gio, ins, List.map_cons, List.map_nil, List.length_cons, List.length_nil, Nat.sub_self, List.replicate_zero, List.append_nil, List.nil_append, List.cons_append, List.replicate_succ, Nat.reduceSub, Nat.reduceAdd, retS, retN, ret1, setS, sto, stoO, freeAt, free_dv, dv_some, dv_none, free_d, free_n, free_o, plain_dv, plain_dd, plain_n, dropS, seqS, ifS, raiS, nextS, brkS, cntS, unpS, tpG, itsOf, bindAll, optO, nmG, augS, chE, bind_ok, bind_er, bind_ite, out_ok, out_er, out_ite, seq_nx, seq_rt, seq_er, seq_bk, seq_ct, seq_ite, ite_and, ite_or, ite_and2, ite_or2, ite_andB, ite_orB, cE, varE, shE, shr, bi2, un1, opE, unE, rd, List.getElem?_cons_zero, List.getElem?_cons_succ, List.set_cons_zero, List.set_cons_succ, leD, ltD, gtD, geD, cmpD, eqD_str, neD_str, eqD_int, neD_int, inD_sign, isD, isNone, ifB, caE, consA, nilA, ca1, rdAll, dAll, lenD, intF, tupF, lstF, Option.map_some, Option.map_none, Option.bind_some, addD, intD, subI, modI, divI, adI, negD, mulD, revND, revD, tupE, lstE, mtE, okTy, isStr, isLst, stripF, callE, callI, truT, tru1, tru, truD, blT, notT, andT, orT, ifE, notE, andE, orE, if_true, Bool.not_true, Bool.not_false, Bool.true_and, Bool.and_true, Bool.false_and, Bool.or_false, Bool.false_or, Bool.true_or, Bool.or_true, Bool.and_false, Bool.false_xor, Bool.true_xor, slE, noP, someP, sl1, slD, seqI, its1, optI, forS, turn, lcE, wipeS, restS, plainAt, List.getD_cons_zero, List.getD_cons_succ, List.all_cons, List.all_nil, muE, mu1, lstAt, dArgs, appF, popF, rvsF, extF, rng1I, rng2I, enI, zipI, zip2, starA, subS, decide_true, decide_false, Int.reduceLT, Int.reduceLE, Nat.reduceLT, Nat.reduceLeDiff, true_and, and_true, Bool.false_eq_true, if_false, ite_true, ite_false, reduceIte, reduceCtorEq, Option.some.injEq, z, List.isEmpty_cons, c1, i0, z1, f4, ch, ff, decide_true]
  refine ⟨ds1, .str w, .str (formOf Rs w), ?_, d1⟩
  simp only [b_law_1, Gv, Gio, ins, List.map_cons, List.map_nil, List.length_cons, List.length_nil, Nat.sub_self, List.replicate_zero, List.append_nil, List.nil_append, List.cons_append, List.replicate_succ, Nat.reduceSub, Nat.reduceAdd, retS, retN, ret1, setS, sto, stoO, freeAt, free_dv, dv_some, dv_none, free_d, free_n, free_o, plain_dv, plain_dd, plain_n, dropS, seqS, ifS, raiS, nextS, brkS, cntS, unpS, tpG, itsOf, bindAll, optO, nmG, augS, chE, bind_ok, bind_er, out_ok, out_er, seq_nx, seq_rt, seq_er, seq_bk, seq_ct, ite_and, ite_or, ite_and2, ite_or2, ite_andB, ite_orB, cE, varE, shE, shr, bi2, un1, opE, unE, rd, List.getElem?_cons_zero, List.getElem?_cons_succ, List.set_cons_zero, List.set_cons_succ, leD, ltD, gtD, geD, cmpD, eqD_str, neD_str, eqD_int, neD_int, inD_sign, isD, isNone, ifB, caE, consA, nilA, ca1, rdAll, dAll, lenD, intF, tupF, lstF, Option.map_some, Option.map_none, Option.bind_some, addD, intD, subI, modI, divI, adI, negD, mulD, revND, revD, tupE, lstE, mtE, okTy, isStr, isLst, stripF, callE, callI, truT, tru1, tru, truD, blT, notT, andT, orT, ifE, notE, andE, orE, if_true, Bool.not_true, Bool.not_false, Bool.true_and, Bool.and_true, Bool.false_and, Bool.or_false, Bool.false_or, Bool.true_or, Bool.or_true, Bool.and_false, Bool.false_xor, Bool.true_xor, slE, noP, someP, sl1, slD, seqI, its1, optI, forS, turn, lcE, wipeS, restS, plainAt, List.getD_cons_zero, List.getD_cons_succ, List.all_cons, List.all_nil, muE, mu1, lstAt, dArgs, appF, popF, rvsF, extF, rng1I, rng2I, enI, zipI, zip2, starA, subS, decide_true, decide_false, Int.reduceLT, Int.reduceLE, Nat.reduceLT, Nat.reduceLeDiff, true_and, and_true, Bool.false_eq_true, if_false, ite_true, ite_false, reduceIte, reduceCtorEq, Option.some.injEq, e1, f1, rw_, f2, items_str]
  rw [lcL_m (f := fun c => .str (tx [ren n c])) (by rw [ll]; show 0 + _ ≤ _; omega) fun c m => ⟨_, rfl, rfl, ?_⟩]
  · simp only [Gv, Gio, ins, List.map_cons, List.map_nil, List.length_cons, List.length_nil, Nat.sub_self, List.replicate_zero, List.append_nil, List.nil_append, List.cons_append, List.replicate_succ, Nat.reduceSub, Nat.reduceAdd, retS, retN, ret1, setS, sto, stoO, freeAt, free_dv, dv_some, dv_none, free_d, free_n, free_o, plain_dv, plain_dd, plain_n, dropS, seqS, ifS, raiS, nextS, brkS, cntS, unpS, tpG, itsOf, bindAll, optO, nmG, augS, chE, bind_ok, bind_er, out_ok, out_er, seq_nx, seq_rt, seq_er, seq_bk, seq_ct, ite_and, ite_or, ite_and2, ite_or2, ite_andB, ite_orB, cE, varE, shE, shr, bi2, un1, opE, unE, rd, List.getElem?_cons_zero, List.getElem?_cons_succ, List.set_cons_zero, List.set_cons_succ, leD, ltD, gtD, geD, cmpD, eqD_str, neD_str, eqD_int, neD_int, inD_sign, isD, isNone, ifB, caE, consA, nilA, ca1, rdAll, dAll, lenD, intF, tupF, lstF, Option.map_some, Option.map_none, Option.bind_some, addD, intD, subI, modI, divI, adI, negD, mulD, revND, revD, tupE, lstE, mtE, okTy, isStr, isLst, stripF, callE, callI, truT, tru1, tru, truD, blT, notT, andT, orT, ifE, notE, andE, orE, if_true, Bool.not_true, Bool.not_false, Bool.true_and, Bool.and_true, Bool.false_and, Bool.or_false, Bool.false_or, Bool.true_or, Bool.or_true, Bool.and_false, Bool.false_xor, Bool.true_xor, slE, noP, someP, sl1, slD, seqI, its1, optI, forS, turn, lcE, wipeS, restS, plainAt, List.getD_cons_zero, List.getD_cons_succ, List.all_cons, List.all_nil, muE, mu1, lstAt, dArgs, appF, popF, rvsF, extF, rng1I, rng2I, enI, zipI, zip2, starA, subS, decide_true, decide_false, Int.reduceLT, Int.reduceLE, Nat.reduceLT, Nat.reduceLeDiff, true_and, and_true, Bool.false_eq_true, if_false, ite_true, ite_false, reduceIte, reduceCtorEq, Option.some.injEq, ej, q1, e26, decide_true, f3]
    exact last _ rfl
  · obtain ⟨⟨rest, e⟩, lt⟩ := h6 c m
    have es : sindexF [.str "abcdef", .str (tx [c])] = some (.d (.int ((c - 97 : Nat) : Int))) := by
      show (match Builtin.Str.occurrences "abcdef" ⟨#[c]⟩ 0 ("abcdef" : Str).length 1 with | i :: _ => some (Vl.d (.int (i : Nat))) | [] => none) = _
      rw [e]
    simp only [Gv, Gio, ins, List.map_cons, List.map_nil, List.length_cons, List.length_nil, Nat.sub_self, List.replicate_zero, List.append_nil, List.nil_append, List.cons_append, List.replicate_succ, Nat.reduceSub, Nat.reduceAdd, retS, retN, ret1, setS, sto, stoO, freeAt, free_dv, dv_some, dv_none, free_d, free_n, free_o, plain_dv, plain_dd, plain_n, dropS, seqS, ifS, raiS, nextS, brkS, cntS, unpS, tpG, itsOf, bindAll, optO, nmG, augS, chE, bind_ok, bind_er, out_ok, out_er, seq_nx, seq_rt, seq_er, seq_bk, seq_ct, ite_and, ite_or, ite_and2, ite_or2, ite_andB, ite_orB, cE, varE, shE, shr, bi2, un1, opE, unE, rd, List.getElem?_cons_zero, List.getElem?_cons_succ, List.set_cons_zero, List.set_cons_succ, leD, ltD, gtD, geD, cmpD, eqD_str, neD_str, eqD_int, neD_int, inD_sign, isD, isNone, ifB, caE, consA, nilA, ca1, rdAll, dAll, lenD, intF, tupF, lstF, Option.map_some, Option.map_none, Option.bind_some, addD, intD, subI, modI, divI, adI, negD, mulD, revND, revD, tupE, lstE, mtE, okTy, isStr, isLst, stripF, callE, callI, truT, tru1, tru, truD, blT, notT, andT, orT, ifE, notE, andE, orE, if_true, Bool.not_true, Bool.not_false, Bool.true_and, Bool.and_true, Bool.false_and, Bool.or_false, Bool.false_or, Bool.true_or, Bool.or_true, Bool.and_false, Bool.false_xor, Bool.true_xor, slE, noP, someP, sl1, slD, seqI, its1, optI, forS, turn, lcE, wipeS, restS, plainAt, List.getD_cons_zero, List.getD_cons_succ, List.all_cons, List.all_nil, muE, mu1, lstAt, dArgs, appF, popF, rvsF, extF, rng1I, rng2I, enI, zipI, zip2, starA, subS, decide_true, decide_false, Int.reduceLT, Int.reduceLE, Nat.reduceLT, Nat.reduceLeDiff, true_and, and_true, Bool.false_eq_true, if_false, ite_true, ite_false, reduceIte, reduceCtorEq, Option.some.injEq, es, ixD_str (z := n) (i := ((c - 97 : Nat) : Int)) (by omega) (by omega), Int.toNat_natCast]
    rfl
theorem law_true (ns : List Int) (h : ns.length ≤ 63) : ∃ s', F_law [some (.s ns)] = .ok (.d (.bool true)) s' := by
  refine law_end (N := 13) (b := b_law) ?_
  obtain ⟨ds, e0, d0⟩ := law_draws_c ns h (some (.s ns) :: List.replicate 12 none)
  obtain ⟨n0, ds1, e1, a1, b1, d1⟩ := law_next_c d0.rev (s := [some (.s ns), some (.o true (.L ds.reverse)), none, none, none, none, none, none, none, none, none, none, none]) (i := 1) (f := true) rfl
  have c1 := mod_in (n := n0) (show (0 : Int) < 3 by decide)
  obtain ⟨k, hk⟩ : ∃ k : Int, 2 + n0 % 3 = k := ⟨_, rfl⟩
  have k2 : 2 ≤ k := by omega
  have k4 : k ≤ 4 := by omega
  have k6 : k ≤ 6 := by omega
  obtain ⟨Rs, ds2, e2, l2, hR, d2⟩ := law_rules_c d1 (s := [some (.s ns), some (.o true (.L ds1)), some (.d (.int k)), none, none, none, none, none, none, none, none, none, none]) (i := 1) (f := true) rfl (m := 3) k2 k6 (by decide) (by decide)
  obtain ⟨n, ds3, e3, hn, d3⟩ := law_names_c d2 (s := [some (.s ns), some (.o true (.L ds2)), some (.d (.int k)), some (.d (rulesD Rs)), none, none, none, none, none, none, none, none, none]) (i := 1) (f := true) rfl k2 k6
  have ar : areRules k Rs = true := areRules_of (by omega) hR
  have bn := back_names hn k2 k6
  have nk := numOk_of k2 k6
  have hl : n.length < 64 := by rw [hn.len k2 k6]; omega
  have hb : (backS k n).length < 64 := by rw [bn.len k2 k6]; omega
  have made : ∀ R ∈ Rs, M.Made k R := fun R m => isRule_made k2 k6 (hR R m)
  have ar2 := areRules_ren hn k2 k6 ar
  have ar3 := areRules_turn k2 k6 ar
  have x1 := fun s => renamed_rules_c k Rs n (by omega) hl (fun R m _ _ => renR_of hn k2 k6 (made R m)) s
  have x2 := fun s => renamed_rules_c k (Rs.map (Rl.ren n)) (backS k n) (by rw [List.length_map]; omega) hb (fun R m _ _ => by
    obtain ⟨S, mS, rfl⟩ := List.mem_map.mp m
    exact renR_of bn k2 k6 ((made S mS).ren hn k2 k6)) s
  have x3 := fun s => turned_rules_c k Rs (by omega) s
  have x4 := fun s => turned_rules_c k (Rs.map Rl.turn) (by rw [List.length_map]; omega) s
  simp only [nk, ar, hn.ok k2 k6, if_true] at x1
  simp only [nk, ar2, bn.ok k2 k6, if_true, back_rules hn k2 k6 hR] at x2
  simp only [nk, ar, if_true] at x3
  simp only [nk, ar3, if_true, turn_map] at x4
  have lk := letters_n k2 k6
  have hs3 : smI 3 = true := by decide +kernel
  have loop := forL_n (g := nmG 8) (b := b_law_1) (i := fun j : Nat => .int ((j : Nat) : Int)) (xs := List.range (Int.toNat 3))
    (s := [some (.s ns), some (.o true (.L ds3)), some (.d (.int k)), some (.d (rulesD Rs)), some (.d (.str n)), some (.d (.str (backS k n))), some (.d (rulesD (Rs.map (Rl.ren n)))), some (.d (rulesD (Rs.map Rl.turn))), none, none, none, none, none])
    (St := fun _ s => ∃ ds j wd fm, s = [some (.s ns), some (.o true (.L ds)), some (.d (.int k)), some (.d (rulesD Rs)), some (.d (.str n)), some (.d (.str (backS k n))), some (.d (rulesD (Rs.map (Rl.ren n)))), some (.d (rulesD (Rs.map Rl.turn))), dv j, dv wd, dv fm, none, none] ∧ Dr ds)
    ⟨ds3, none, none, none, rfl, d3⟩ (by
      rintro m a _ s ⟨ds, j, wd, fm, rfl, hd⟩
      obtain ⟨ds', wd', fm', e, hd'⟩ := turn3 (ns := ns) (bk := backS k n) (j := j) (wd := wd) (fm := fm) k2 k4 hd ar (by omega) hn a
      exact ⟨_, .inl e, ds', some (.int ((a : Nat) : Int)), some wd', some fm', rfl, hd'⟩)
  obtain ⟨s', e9, _⟩ := loop
  have e0' : call1 1 F_law_draws [.s ns] [some (.s ns), none, none, none, none, none, none, none, none, none, none, none, none] = .ok (.o true (.L ds)) [some (.s ns), none, none, none, none, none, none, none, none, none, none, none, none] := e0
  simp only [b_law, Gv, Gio, ins, List.map_cons, List.map_nil, List.length_cons, List.length_nil, Nat.sub_self, List.replicate_zero, List.append_nil, List.nil_append, List.cons_append, List.replicate_succ, Nat.reduceSub, Nat.reduceAdd, retS, retN, ret1, setS, sto, stoO, freeAt, free_dv, dv_some, dv_none, free_d, free_n, free_o, plain_dv, plain_dd, plain_n, dropS, seqS, ifS, raiS, nextS, brkS, cntS, unpS, tpG, itsOf, bindAll, optO, nmG, augS, chE, bind_ok, bind_er, out_ok, out_er, seq_nx, seq_rt, seq_er, seq_bk, seq_ct, ite_and, ite_or, ite_and2, ite_or2, ite_andB, ite_orB, cE, varE, shE, shr, bi2, un1, opE, unE, rd, List.getElem?_cons_zero, List.getElem?_cons_succ, List.set_cons_zero, List.set_cons_succ, leD, ltD, gtD, geD, cmpD, eqD_str, neD_str, eqD_int, neD_int, inD_sign, isD, isNone, ifB, caE, consA, nilA, ca1, rdAll, dAll, lenD, intF, tupF, lstF, Option.map_some, Option.map_none, Option.bind_some, addD, intD, subI, modI, divI, adI, negD, mulD, revND, revD, tupE, lstE, mtE, okTy, isStr, isLst, stripF, callE, callI, truT, tru1, tru, truD, blT, notT, andT, orT, ifE, notE, andE, orE, if_true, Bool.not_true, Bool.not_false, Bool.true_and, Bool.and_true, Bool.false_and, Bool.or_false, Bool.false_or, Bool.true_or, Bool.or_true, Bool.and_false, Bool.false_xor, Bool.true_xor, slE, noP, someP, sl1, slD, seqI, its1, optI, forS, turn, lcE, wipeS, restS, plainAt, List.getD_cons_zero, List.getD_cons_succ, List.all_cons, List.all_nil, muE, mu1, lstAt, dArgs, appF, popF, rvsF, extF, rng1I, rng2I, enI, zipI, zip2, starA, subS, decide_true, decide_false, Int.reduceLT, Int.reduceLE, Nat.reduceLT, Nat.reduceLeDiff, true_and, and_true, Bool.false_eq_true, if_false, ite_true, ite_false, reduceIte, reduceCtorEq, Option.some.injEq, e0', e1, hk, e2, e3]
  rw [show cutS "abcdef" none (some k) = letters k from rfl, items_str]
  simp only [Gv, Gio, ins, List.map_cons, List.map_nil, List.length_cons, List.length_nil, Nat.sub_self, List.replicate_zero, List.append_nil, List.nil_append, List.cons_append, List.replicate_succ, Nat.reduceSub, Nat.reduceAdd, retS, retN, ret1, setS, sto, stoO, freeAt, free_dv, dv_some, dv_none, free_d, free_n, free_o, plain_dv, plain_dd, plain_n, dropS, seqS, ifS, raiS, nextS, brkS, cntS, unpS, tpG, itsOf, bindAll, optO, nmG, augS, chE, bind_ok, bind_er, out_ok, out_er, seq_nx, seq_rt, seq_er, seq_bk, seq_ct, ite_and, ite_or, ite_and2, ite_or2, ite_andB, ite_orB, cE, varE, shE, shr, bi2, un1, opE, unE, rd, List.getElem?_cons_zero, List.getElem?_cons_succ, List.set_cons_zero, List.set_cons_succ, leD, ltD, gtD, geD, cmpD, eqD_str, neD_str, eqD_int, neD_int, inD_sign, isD, isNone, ifB, caE, consA, nilA, ca1, rdAll, dAll, lenD, intF, tupF, lstF, Option.map_some, Option.map_none, Option.bind_some, addD, intD, subI, modI, divI, adI, negD, mulD, revND, revD, tupE, lstE, mtE, okTy, isStr, isLst, stripF, callE, callI, truT, tru1, tru, truD, blT, notT, andT, orT, ifE, notE, andE, orE, if_true, Bool.not_true, Bool.not_false, Bool.true_and, Bool.and_true, Bool.false_and, Bool.or_false, Bool.false_or, Bool.true_or, Bool.or_true, Bool.and_false, Bool.false_xor, Bool.true_xor, slE, noP, someP, sl1, slD, seqI, its1, optI, forS, turn, lcE, wipeS, restS, plainAt, List.getD_cons_zero, List.getD_cons_succ, List.all_cons, List.all_nil, muE, mu1, lstAt, dArgs, appF, popF, rvsF, extF, rng1I, rng2I, enI, zipI, zip2, starA, subS, decide_true, decide_false, Int.reduceLT, Int.reduceLE, Nat.reduceLT, Nat.reduceLeDiff, true_and, and_true, Bool.false_eq_true, if_false, ite_true, ite_false, reduceIte, reduceCtorEq, Option.some.injEq]
  rw [lcL_m (f := fun c => .str (tx [97 + idx n c])) (by rw [List.length_nil, lk]; omega) fun c m => ⟨_, rfl, rfl, ?_⟩]
  · have ej : ((letters k).cps.toList.map fun c => PyData.str (tx [97 + idx n c])) = ((letters k).cps.toList.map fun c => 97 + idx n c).map fun c => .str (tx [c]) := by rw [List.map_map]; rfl
    have q1 := joinF_signs (cs := (letters k).cps.toList.map fun c => 97 + idx n c) (by rw [List.length_map, lk]; omega)
    have q2 : tx ((letters k).cps.toList.map fun c => 97 + idx n c) = backS k n := rfl
    simp only [Gv, Gio, ins, List.map_cons, List.map_nil, List.length_cons, List.length_nil, Nat.sub_self, List.replicate_zero, List.append_nil, List.nil_append, List.cons_append, List.replicate_succ, Nat.reduceSub, Nat.reduceAdd, retS, retN, ret1, setS, sto, stoO, freeAt, free_dv, dv_some, dv_none, free_d, free_n, free_o, plain_dv, plain_dd, plain_n, dropS, seqS, ifS, raiS, nextS, brkS, cntS, unpS, tpG, itsOf, bindAll, optO, nmG, augS, chE, bind_ok, bind_er, out_ok, out_er, seq_nx, seq_rt, seq_er, seq_bk, seq_ct, ite_and, ite_or, ite_and2, ite_or2, ite_andB, ite_orB, cE, varE, shE, shr, bi2, un1, opE, unE, rd, List.getElem?_cons_zero, List.getElem?_cons_succ, List.set_cons_zero, List.set_cons_succ, leD, ltD, gtD, geD, cmpD, eqD_str, neD_str, eqD_int, neD_int, inD_sign, isD, isNone, ifB, caE, consA, nilA, ca1, rdAll, dAll, lenD, intF, tupF, lstF, Option.map_some, Option.map_none, Option.bind_some, addD, intD, subI, modI, divI, adI, negD, mulD, revND, revD, tupE, lstE, mtE, okTy, isStr, isLst, stripF, callE, callI, truT, tru1, tru, truD, blT, notT, andT, orT, ifE, notE, andE, orE, if_true, Bool.not_true, Bool.not_false, Bool.true_and, Bool.and_true, Bool.false_and, Bool.or_false, Bool.false_or, Bool.true_or, Bool.or_true, Bool.and_false, Bool.false_xor, Bool.true_xor, slE, noP, someP, sl1, slD, seqI, its1, optI, forS, turn, lcE, wipeS, restS, plainAt, List.getD_cons_zero, List.getD_cons_succ, List.all_cons, List.all_nil, muE, mu1, lstAt, dArgs, appF, popF, rvsF, extF, rng1I, rng2I, enI, zipI, zip2, starA, subS, decide_true, decide_false, Int.reduceLT, Int.reduceLE, Nat.reduceLT, Nat.reduceLeDiff, true_and, and_true, Bool.false_eq_true, if_false, ite_true, ite_false, reduceIte, reduceCtorEq, Option.some.injEq, ej, q1, q2, x1, x2, x3, x4, ne_rules, hs3, rng_zero]
    simp only [Gv, Gio, ins, List.map_cons, List.map_nil, List.length_cons, List.length_nil, Nat.sub_self, List.replicate_zero, List.append_nil, List.nil_append, List.cons_append, List.replicate_succ, Nat.reduceSub, Nat.reduceAdd, retS, retN, ret1, setS, sto, stoO, freeAt, free_dv, dv_some, dv_none, free_d, free_n, free_o, plain_dv, plain_dd, plain_n, dropS, seqS, ifS, raiS, nextS, brkS, cntS, unpS, tpG, itsOf, bindAll, optO, nmG, augS, chE, bind_ok, bind_er, bind_ite, out_ok, out_er, out_ite, seq_nx, seq_rt, seq_er, seq_bk, seq_ct, seq_ite, ite_and, ite_or, ite_and2, ite_or2, ite_andB, ite_orB, cE, varE, shE, shr, bi2, un1, opE, unE, rd, List.getElem?_cons_zero, List.getElem?_cons_succ, List.set_cons_zero, List.set_cons_succ, leD, ltD, gtD, geD, cmpD, eqD_str, neD_str, eqD_int, neD_int, inD_sign, isD, isNone, ifB, caE, consA, nilA, ca1, rdAll, dAll, lenD, intF, tupF, lstF, Option.map_some, Option.map_none, Option.bind_some, addD, intD, subI, modI, divI, adI, negD, mulD, revND, revD, tupE, lstE, mtE, okTy, isStr, isLst, stripF, callE, callI, truT, tru1, tru, truD, blT, notT, andT, orT, ifE, notE, andE, orE, if_true, Bool.not_true, Bool.not_false, Bool.true_and, Bool.and_true, Bool.false_and, Bool.or_false, Bool.false_or, Bool.true_or, Bool.or_true, Bool.and_false, Bool.false_xor, Bool.true_xor, slE, noP, someP, sl1, slD, seqI, its1, optI, forS, turn, lcE, wipeS, restS, plainAt, List.getD_cons_zero, List.getD_cons_succ, List.all_cons, List.all_nil, muE, mu1, lstAt, dArgs, appF, popF, rvsF, extF, rng1I, rng2I, enI, zipI, zip2, starA, subS, decide_true, decide_false, Int.reduceLT, Int.reduceLE, Nat.reduceLT, Nat.reduceLeDiff, true_and, and_true, Bool.false_eq_true, if_false, ite_true, ite_false, reduceIte, reduceCtorEq, Option.some.injEq, e9]
    exact ⟨_, rfl⟩
  · have mn : c ∈ n.cps.toList := hn.pm.mem_iff.mpr m
    obtain ⟨⟨rest, e⟩, lt, _⟩ := idx_at mn
    have ln := hn.len k2 k6
    have es : sindexF [.str n, .str (tx [c])] = some (.d (.int ((idx n c : Nat) : Int))) := by
      show (match Builtin.Str.occurrences n ⟨#[c]⟩ 0 n.length 1 with | i :: _ => some (Vl.d (.int (i : Nat))) | [] => none) = _
      rw [e]
    simp only [Gv, Gio, ins, List.map_cons, List.map_nil, List.length_cons, List.length_nil, Nat.sub_self, List.replicate_zero, List.append_nil, List.nil_append, List.cons_append, List.replicate_succ, Nat.reduceSub, Nat.reduceAdd, retS, retN, ret1, setS, sto, stoO, freeAt, free_dv, dv_some, dv_none, free_d, free_n, free_o, plain_dv, plain_dd, plain_n, dropS, seqS, ifS, raiS, nextS, brkS, cntS, unpS, tpG, itsOf, bindAll, optO, nmG, augS, chE, bind_ok, bind_er, out_ok, out_er, seq_nx, seq_rt, seq_er, seq_bk, seq_ct, ite_and, ite_or, ite_and2, ite_or2, ite_andB, ite_orB, cE, varE, shE, shr, bi2, un1, opE, unE, rd, List.getElem?_cons_zero, List.getElem?_cons_succ, List.set_cons_zero, List.set_cons_succ, leD, ltD, gtD, geD, cmpD, eqD_str, neD_str, eqD_int, neD_int, inD_sign, isD, isNone, ifB, caE, consA, nilA, ca1, rdAll, dAll, lenD, intF, tupF, lstF, Option.map_some, Option.map_none, Option.bind_some, addD, intD, subI, modI, divI, adI, negD, mulD, revND, revD, tupE, lstE, mtE, okTy, isStr, isLst, stripF, callE, callI, truT, tru1, tru, truD, blT, notT, andT, orT, ifE, notE, andE, orE, if_true, Bool.not_true, Bool.not_false, Bool.true_and, Bool.and_true, Bool.false_and, Bool.or_false, Bool.false_or, Bool.true_or, Bool.or_true, Bool.and_false, Bool.false_xor, Bool.true_xor, slE, noP, someP, sl1, slD, seqI, its1, optI, forS, turn, lcE, wipeS, restS, plainAt, List.getD_cons_zero, List.getD_cons_succ, List.all_cons, List.all_nil, muE, mu1, lstAt, dArgs, appF, popF, rvsF, extF, rng1I, rng2I, enI, zipI, zip2, starA, subS, decide_true, decide_false, Int.reduceLT, Int.reduceLE, Nat.reduceLT, Nat.reduceLeDiff, true_and, and_true, Bool.false_eq_true, if_false, ite_true, ite_false, reduceIte, reduceCtorEq, Option.some.injEq, es, abc_ix (j := ((idx n c : Nat) : Int)) (by omega) (by omega), Int.toNat_natCast]
end K

set_option Elab.async false
set_option linter.all false
set_option maxRecDepth 100000
set_option maxHeartbeats 4000000
namespace K
open PySem PySem.Spec PyProof.Rows L2 Sv M
def top (i : Nat) : Stmt := PySem.Challenge.pw_soundturns_k03_whole_renaming_and_turnin.main.body.getD i (.Pass ⟨0, 0, 0, 0⟩)
/-- what the top has left under the names -/
structure Tops (K : PySem.W.Frag) (mg : Str → Option Value) : Prop where
  c_EDGE : ∃ u, mg "EDGE" = some u ∧ RelV (.str "#") u
  c_LEAST_LETTERS : ∃ u, mg "LEAST_LETTERS" = some u ∧ RelV (.int 2) u
  c_LETTERS : ∃ u, mg "LETTERS" = some u ∧ RelV (.str "abcdef") u
  c_LONGEST : ∃ u, mg "LONGEST" = some u ∧ RelV (.int 60) u
  c_LONGEST_MADE : ∃ u, mg "LONGEST_MADE" = some u ∧ RelV (.int 2000) u
  c_MOST_NEW : ∃ u, mg "MOST_NEW" = some u ∧ RelV (.int 3) u
  c_MOST_PLACES : ∃ u, mg "MOST_PLACES" = some u ∧ RelV (.int 2) u
  c_MOST_RULES : ∃ u, mg "MOST_RULES" = some u ∧ RelV (.int 8) u
  f_all : mg "all" = none
  f_enumerate : mg "enumerate" = none
  f_int : mg "int" = none
  f_len : mg "len" = none
  f_list : mg "list" = none
  f_range : mg "range" = none
  f_sorted : mg "sorted" = none
  f_tuple : mg "tuple" = none
  e_ShiftError : ExcF K mg "ShiftError"
  e_NotWord : ExcF K mg "NotWord"
  e_NotRule : ExcF K mg "NotRule"
  e_BadNumber : ExcF K mg "BadNumber"
  e_TooLarge : ExcF K mg "TooLarge"
  x_kit : kitsB K tabX = true
  x_exm : exmsB K tabX = true
section
variable {P : Program} {w : World} {K : PySem.W.Frag} {mg : Str → Option Value} {base : Heap} {f : Addr} {fd : FuncData}
abbrev s_is_number_of_letters : Stmt := top 10
theorem sc_is_number_of_letters : FnScope ["k"] ["k"] (defScope s_is_number_of_letters) := ⟨rfl, rfl, rfl, by decide +kernel, rfl, by decide +kernel, by decide +kernel⟩
theorem ok_is_number_of_letters (T : Tops K mg) (F : Fun K "is_number_of_letters" "is_number_of_letters" s_is_number_of_letters f fd) : FnOk P w K mg base (L2N.CX P w) 1 f fd ["k"] (spF K 1 F_is_number_of_letters) :=
  okN F sc_is_number_of_letters rfl fun cdv A outer s H E hr => (rs_one (rs_ret (re_chain op_le of_le op_le of_le (re_c (pe_gl rfl T.c_LEAST_LETTERS) fun _ => .int _) (re_var (pv 0)) (re_callB cr_lenK ca_len rfl T.f_len boot_len (ra_cons (re_c (pe_gl rfl T.c_LETTERS) fun _ => .str (by rw [sizeLine_eq]; decide +kernel)) ra_nil)))))
abbrev s_check_number : Stmt := top 11
theorem sc_check_number : FnScope ["k"] ["k"] (defScope s_check_number) := ⟨rfl, rfl, rfl, by decide +kernel, rfl, by decide +kernel, by decide +kernel⟩
theorem ok_check_number (T : Tops K mg) (C_is_number_of_letters : CalN P w K mg base 1 "is_number_of_letters" (spF K 1 F_is_number_of_letters)) (F : Fun K "check_number" "check_number" s_check_number f fd) : FnOk P w K mg base (L2N.CX P w) 2 f fd ["k"] (spF K 1 F_check_number) :=
  okN F sc_check_number rfl fun cdv A outer s H E hr => (rs_one (rs_if (rt_not (rt_tru rfl (re_call C_is_number_of_letters (hr.mono (by decide)) rfl (L2N.takes_of rfl rfl rfl rfl) (ra_cons (re_sh (re_var (pv 0))) ra_nil)) (fun _ => rfl))) (rs_one (rs_raise T.e_BadNumber rfl (L2N.takes_of rfl rfl rfl rfl) rfl)) rs_nil))
abbrev s_letters_of : Stmt := top 12
theorem sc_letters_of : FnScope ["k"] ["k"] (defScope s_letters_of) := ⟨rfl, rfl, rfl, by decide +kernel, rfl, by decide +kernel, by decide +kernel⟩
theorem ok_letters_of (T : Tops K mg) (C_check_number : CalN P w K mg base 2 "check_number" (spF K 1 F_check_number)) (F : Fun K "letters_of" "letters_of" s_letters_of f fd) : FnOk P w K mg base (L2N.CX P w) 3 f fd ["k"] (spF K 1 F_letters_of) :=
  okN F sc_letters_of rfl fun cdv A outer s H E hr => (rs_cons (rs_expr (re_call C_check_number (hr.mono (by decide)) rfl (L2N.takes_of rfl rfl rfl rfl) (ra_cons (re_sh (re_var (pv 0))) ra_nil)))
 (rs_one (rs_ret (re_slice rfl (re_c (pe_gl rfl T.c_LETTERS) fun _ => .str (by rw [sizeLine_eq]; decide +kernel)) ro_none (ro_some (re_var (pv 0)))))))
abbrev s_is_word : Stmt := top 13
theorem sc_is_word : FnScope ["k", "word", "letters"] ["k", "word"] (defScope s_is_word) := ⟨rfl, rfl, rfl, by decide +kernel, rfl, by decide +kernel, by decide +kernel⟩
theorem ok_is_word (T : Tops K mg) (C_letters_of : CalN P w K mg base 3 "letters_of" (spF K 1 F_letters_of)) (F : Fun K "is_word" "is_word" s_is_word f fd) : FnOk P w K mg base (L2N.CX P w) 4 f fd ["k", "word"] (spF K 2 F_is_word) :=
  okN F sc_is_word rfl fun cdv A outer s H E hr => (rs_cons (rs_set (i := 2) sc_is_word.nd rfl (Or.inl rfl) (re_call C_letters_of (hr.mono (by decide)) rfl (L2N.takes_of rfl rfl rfl rfl) (ra_cons (re_sh (re_var (pv 0))) ra_nil)))
 (rs_one (rs_ret (re_and rfl (re_cmp op_le of_le (re_callB cr_lenK ca_len rfl T.f_len boot_len (ra_cons (re_var (pv 1)) ra_nil)) (re_c (pe_gl rfl T.c_LONGEST) fun _ => .int _) (nomark _)) (re_one (re_cmp (op_eqU (hu64 hr)) of_eq (re_mt rfl PySem.F.plainAttrs_str PySem.F.slot_str_strip PySem.F.type_str_strip mt_stripChars ca_strip ty_str (re_var (pv 1)) (ra_cons (re_var (pv 2)) ra_nil)) re_str (nomark _)))))))
abbrev s_check_word : Stmt := top 14
theorem sc_check_word : FnScope ["k", "word"] ["k", "word"] (defScope s_check_word) := ⟨rfl, rfl, rfl, by decide +kernel, rfl, by decide +kernel, by decide +kernel⟩
theorem ok_check_word (T : Tops K mg) (C_is_word : CalN P w K mg base 4 "is_word" (spF K 2 F_is_word)) (F : Fun K "check_word" "check_word" s_check_word f fd) : FnOk P w K mg base (L2N.CX P w) 5 f fd ["k", "word"] (spF K 2 F_check_word) :=
  okN F sc_check_word rfl fun cdv A outer s H E hr => (rs_one (rs_if (rt_not (rt_tru rfl (re_call C_is_word (hr.mono (by decide)) rfl (L2N.takes_of rfl rfl rfl rfl) (ra_cons (re_sh (re_var (pv 0))) (ra_cons (re_sh (re_var (pv 1))) ra_nil))) (fun _ => rfl))) (rs_one (rs_raise T.e_NotWord rfl (L2N.takes_of rfl rfl rfl rfl) rfl)) rs_nil))
abbrev s_is_set : Stmt := top 20
theorem sc_is_set : FnScope ["letters", "place", "letter"] ["letters", "place"] (defScope s_is_set) := ⟨rfl, rfl, rfl, by decide +kernel, rfl, by decide +kernel, by decide +kernel⟩
theorem ok_is_set (T : Tops K mg) (F : Fun K "is_set" "is_set" s_is_set f fd) : FnOk P w K mg base (L2N.CX P w) 1 f fd ["letters", "place"] (spF K 2 F_is_set) :=
  okN F sc_is_set rfl fun cdv A outer s H E hr => (rs_one (rs_ret (re_and rfl (re_cmp (op_neU (hu64 hr)) of_ne (re_var (pv 1)) re_str (nomark _)) (re_one (re_cmp (op_eqU (hu64 hr)) of_eq (re_var (pv 1)) (re_mt rfl PySem.F.plainAttrs_str PySem.F.slot_str_join PySem.F.type_str_join mt_joinK ca_join ty_str re_str (ra_cons (re_lc (own := [("letter", 2)]) rfl sc_is_set.nd (ri_seq (re_sh (re_var (pv 0)))) (blkOk_by (N := ["letters", "place", "letter"]) (sc := defScope s_is_set) (by decide +kernel)) (fun _ _ _ _ _ => (rg_name (i := 2) sc_is_set.nd rfl (Or.inl rfl))) (fun _ _ _ _ _ => (rt_one (rt_cmp (op_inU (hu64 hr)) of_in (re_var (pv 2)) (re_var (pv 1)) (by rfl)))) (fun _ _ _ _ _ => (re_sh (re_var (pv 2)))) (by decide)) ra_nil)) (nomark _))))))
abbrev s_is_context : Stmt := top 21
theorem sc_is_context : FnScope ["letters", "places", "edge", "at", "place"] ["letters", "places", "edge"] (defScope s_is_context) := ⟨rfl, rfl, rfl, by decide +kernel, rfl, by decide +kernel, by decide +kernel⟩
theorem ok_is_context (T : Tops K mg) (C_is_set : CalN P w K mg base 1 "is_set" (spF K 2 F_is_set)) (F : Fun K "_is_context" "_is_context" s_is_context f fd) : FnOk P w K mg base (L2N.CX P w) 2 f fd ["letters", "places", "edge"] (spF K 3 F_is_context) :=
  okN F sc_is_context rfl fun cdv A outer s H E hr => (rs_cons (rs_if (rt_cmp op_gt of_gt (re_callB cr_lenK ca_len rfl T.f_len boot_len (ra_cons (re_var (pv 1)) ra_nil)) (re_c (pe_gl rfl T.c_MOST_PLACES) fun _ => .int _) (nomark _)) (rs_one (rs_ret re_bl)) rs_nil)
 (rs_cons (rs_for (passes_of rfl) rfl (ri_enum rfl T.f_enumerate (ra_cons (re_sh (re_var (pv 1))) ra_nil)) (rg_tup rfl (rgs_cons (rg_name (i := 3) sc_is_context.nd rfl (Or.inl rfl)) (rgs_cons (rg_name (i := 4) sc_is_context.nd rfl (Or.inl rfl)) rgs_nil)))
 (rs_one (rs_if (PW.pt (rw_and (rt_not (rt_tru rfl (re_call C_is_set (hr.mono (by decide)) rfl (L2N.takes_of rfl rfl rfl rfl) (ra_cons (re_sh (re_var (pv 0))) (ra_cons (re_sh (re_var (pv 4))) ra_nil))) (fun _ => rfl))) (rw_and1 (rt_not (PW.pt (rw_and (rt_cmp (op_eqU (hu64 hr)) of_eq (re_var (pv 3)) (re_var (pv 2)) (nomark _)) (rw_and1 (rt_cmp (op_eqU (hu64 hr)) of_eq (re_var (pv 4)) (re_c (pe_gl rfl T.c_EDGE) fun _ => .str (by rw [sizeLine_eq]; decide +kernel)) (nomark _))))))))) (rs_one (rs_ret re_bl)) rs_nil)))
 (rs_one (rs_ret re_bl))))
abbrev s_is_new : Stmt := top 22
theorem sc_is_new : FnScope ["letters", "new"] ["letters", "new"] (defScope s_is_new) := ⟨rfl, rfl, rfl, by decide +kernel, rfl, by decide +kernel, by decide +kernel⟩
theorem ok_is_new (T : Tops K mg) (F : Fun K "is_new" "is_new" s_is_new f fd) : FnOk P w K mg base (L2N.CX P w) 1 f fd ["letters", "new"] (spF K 2 F_is_new) :=
  okN F sc_is_new rfl fun cdv A outer s H E hr => (rs_one (rs_ret (re_and rfl (re_cmp op_le of_le (re_callB cr_lenK ca_len rfl T.f_len boot_len (ra_cons (re_var (pv 1)) ra_nil)) (re_c (pe_gl rfl T.c_MOST_NEW) fun _ => .int _) (nomark _)) (re_one (re_cmp (op_eqU (hu64 hr)) of_eq (re_mt rfl PySem.F.plainAttrs_str PySem.F.slot_str_strip PySem.F.type_str_strip mt_stripChars ca_strip ty_str (re_var (pv 1)) (ra_cons (re_var (pv 0)) ra_nil)) re_str (nomark _))))))
abbrev s_is_rule : Stmt := top 23
theorem sc_is_rule : FnScope ["k", "rule", "letters", "letter", "new", "left", "right"] ["k", "rule"] (defScope s_is_rule) := ⟨rfl, rfl, rfl, by decide +kernel, rfl, by decide +kernel, by decide +kernel⟩
theorem ok_is_rule (T : Tops K mg) (C_is_context : CalN P w K mg base 2 "_is_context" (spF K 3 F_is_context)) (C_is_new : CalN P w K mg base 1 "is_new" (spF K 2 F_is_new)) (C_letters_of : CalN P w K mg base 3 "letters_of" (spF K 1 F_letters_of)) (F : Fun K "is_rule" "is_rule" s_is_rule f fd) : FnOk P w K mg base (L2N.CX P w) 4 f fd ["k", "rule"] (spF K 2 F_is_rule) :=
  okN F sc_is_rule rfl fun cdv A outer s H E hr => (rs_cons (rs_set (i := 2) sc_is_rule.nd rfl (Or.inl rfl) (re_call C_letters_of (hr.mono (by decide)) rfl (L2N.takes_of rfl rfl rfl rfl) (ra_cons (re_sh (re_var (pv 0))) ra_nil)))
 (rs_cons (rs_unp rfl (re_var (pv 1)) (rgs_cons (rg_name (i := 3) sc_is_rule.nd rfl (Or.inl rfl)) (rgs_cons (rg_name (i := 4) sc_is_rule.nd rfl (Or.inl rfl)) (rgs_cons (rg_name (i := 5) sc_is_rule.nd rfl (Or.inl rfl)) (rgs_cons (rg_name (i := 6) sc_is_rule.nd rfl (Or.inl rfl)) rgs_nil)))))
 (rs_cons (rs_if (PW.pt (rw_or (rt_cmp (op_neU (hu64 hr)) of_ne (re_callB cr_lenK ca_len rfl T.f_len boot_len (ra_cons (re_var (pv 3)) ra_nil)) re_int (nomark _)) (rw_or (rt_cmp (op_notInU (hu64 hr)) of_in (re_var (pv 3)) (re_var (pv 2)) (by rfl)) (rw_or1 (rt_not (rt_tru rfl (re_call C_is_new (hr.mono (by decide)) rfl (L2N.takes_of rfl rfl rfl rfl) (ra_cons (re_sh (re_var (pv 2))) (ra_cons (re_sh (re_var (pv 4))) ra_nil))) (fun _ => rfl))))))) (rs_one (rs_ret re_bl)) rs_nil)
 (rs_one (rs_ret (re_and rfl (re_call C_is_context (hr.mono (by decide)) rfl (L2N.takes_of rfl rfl rfl rfl) (ra_cons (re_sh (re_var (pv 2))) (ra_cons (re_sh (re_var (pv 5))) (ra_cons re_int ra_nil)))) (re_one (re_call C_is_context (hr.mono (by decide)) rfl (L2N.takes_of rfl rfl rfl rfl) (ra_cons (re_sh (re_var (pv 2))) (ra_cons (re_sh (re_var (pv 6))) (ra_cons (re_op op_sub of_sub (re_callB cr_lenK ca_len rfl T.f_len boot_len (ra_cons (re_var (pv 6)) ra_nil)) re_int) ra_nil)))))))))))
abbrev s_is_rules : Stmt := top 24
theorem sc_is_rules : FnScope ["k", "rules", "rule"] ["k", "rules"] (defScope s_is_rules) := ⟨rfl, rfl, rfl, by decide +kernel, rfl, by decide +kernel, by decide +kernel⟩
theorem ok_is_rules (T : Tops K mg) (C_check_number : CalN P w K mg base 2 "check_number" (spF K 1 F_check_number)) (C_is_rule : CalN P w K mg base 4 "is_rule" (spF K 2 F_is_rule)) (F : Fun K "is_rules" "is_rules" s_is_rules f fd) : FnOk P w K mg base (L2N.CX P w) 5 f fd ["k", "rules"] (spF K 2 F_is_rules) :=
  okN F sc_is_rules rfl fun cdv A outer s H E hr => (rs_cons (rs_expr (re_call C_check_number (hr.mono (by decide)) rfl (L2N.takes_of rfl rfl rfl rfl) (ra_cons (re_sh (re_var (pv 0))) ra_nil)))
 (rs_one (rs_ret (re_and rfl (re_cmp op_le of_le (re_callB cr_lenK ca_len rfl T.f_len boot_len (ra_cons (re_var (pv 1)) ra_nil)) (re_c (pe_gl rfl T.c_MOST_RULES) fun _ => .int _) (nomark _)) (re_one (re_callB cr_allK ca_all rfl T.f_all boot_all (ra_cons (re_lc (own := [("rule", 2)]) rfl sc_is_rules.nd (ri_seq (re_sh (re_var (pv 1)))) (blkOk_by (N := ["k", "rules", "rule"]) (sc := defScope s_is_rules) (by decide +kernel)) (fun _ _ _ _ _ => (rg_name (i := 2) sc_is_rules.nd rfl (Or.inl rfl))) (fun _ _ _ _ _ => rt_yes) (fun _ _ _ _ _ => (re_sh (re_call C_is_rule (hr.mono (by decide)) rfl takesF (ra_cons (re_sh (re_var (pv 0))) (ra_cons (re_sh (re_var (pv 2))) ra_nil))))) (by decide)) ra_nil)))))))
abbrev s_check_rule : Stmt := top 25
theorem sc_check_rule : FnScope ["k", "rule"] ["k", "rule"] (defScope s_check_rule) := ⟨rfl, rfl, rfl, by decide +kernel, rfl, by decide +kernel, by decide +kernel⟩
theorem ok_check_rule (T : Tops K mg) (C_is_rule : CalN P w K mg base 4 "is_rule" (spF K 2 F_is_rule)) (F : Fun K "check_rule" "check_rule" s_check_rule f fd) : FnOk P w K mg base (L2N.CX P w) 5 f fd ["k", "rule"] (spF K 2 F_check_rule) :=
  okN F sc_check_rule rfl fun cdv A outer s H E hr => (rs_one (rs_if (rt_not (rt_tru rfl (re_call C_is_rule (hr.mono (by decide)) rfl (L2N.takes_of rfl rfl rfl rfl) (ra_cons (re_sh (re_var (pv 0))) (ra_cons (re_sh (re_var (pv 1))) ra_nil))) (fun _ => rfl))) (rs_one (rs_raise T.e_NotRule rfl (L2N.takes_of rfl rfl rfl rfl) rfl)) rs_nil))
abbrev s_check_rules : Stmt := top 26
theorem sc_check_rules : FnScope ["k", "rules"] ["k", "rules"] (defScope s_check_rules) := ⟨rfl, rfl, rfl, by decide +kernel, rfl, by decide +kernel, by decide +kernel⟩
theorem ok_check_rules (T : Tops K mg) (C_is_rules : CalN P w K mg base 5 "is_rules" (spF K 2 F_is_rules)) (F : Fun K "check_rules" "check_rules" s_check_rules f fd) : FnOk P w K mg base (L2N.CX P w) 6 f fd ["k", "rules"] (spF K 2 F_check_rules) :=
  okN F sc_check_rules rfl fun cdv A outer s H E hr => (rs_one (rs_if (rt_not (rt_tru rfl (re_call C_is_rules (hr.mono (by decide)) rfl (L2N.takes_of rfl rfl rfl rfl) (ra_cons (re_sh (re_var (pv 0))) (ra_cons (re_sh (re_var (pv 1))) ra_nil))) (fun _ => rfl))) (rs_one (rs_raise T.e_NotRule rfl (L2N.takes_of rfl rfl rfl rfl) rfl)) rs_nil))
abbrev s_check_names : Stmt := top 27
theorem sc_check_names : FnScope ["k", "names"] ["k", "names"] (defScope s_check_names) := ⟨rfl, rfl, rfl, by decide +kernel, rfl, by decide +kernel, by decide +kernel⟩
theorem ok_check_names (T : Tops K mg) (C_letters_of : CalN P w K mg base 3 "letters_of" (spF K 1 F_letters_of)) (F : Fun K "check_names" "check_names" s_check_names f fd) : FnOk P w K mg base (L2N.CX P w) 4 f fd ["k", "names"] (spF K 2 F_check_names) :=
  okN F sc_check_names rfl fun cdv A outer s H E hr => (rs_one (rs_if (rt_cmp (op_neU (hu64 hr)) of_ne (re_mt rfl PySem.F.plainAttrs_str PySem.F.slot_str_join PySem.F.type_str_join mt_joinK ca_join ty_str re_str (ra_cons (re_callB (cr_sortK) ca_sort rfl T.f_sorted boot_sorted (ra_cons (re_var (pv 1)) ra_nil)) ra_nil)) (re_call C_letters_of (hr.mono (by decide)) rfl (L2N.takes_of rfl rfl rfl rfl) (ra_cons (re_sh (re_var (pv 0))) ra_nil)) (nomark _)) (rs_one (rs_raise T.e_NotWord rfl (L2N.takes_of rfl rfl rfl rfl) rfl)) rs_nil))
abbrev s_fits : Stmt := top 28
theorem sc_fits : FnScope ["place", "word", "at"] ["place", "word", "at"] (defScope s_fits) := ⟨rfl, rfl, rfl, by decide +kernel, rfl, by decide +kernel, by decide +kernel⟩
theorem ok_fits (T : Tops K mg) (F : Fun K "_fits" "_fits" s_fits f fd) : FnOk P w K mg base (L2N.CX P w) 1 f fd ["place", "word", "at"] (spF K 3 F_fits) :=
  okN F sc_fits rfl fun cdv A outer s H E hr => (rs_cons (rs_if (PW.pt (rw_or (rt_cmp op_ltU of_lt (re_var (pv 2)) re_int (nomark _)) (rw_or1 (rt_cmp op_ge of_ge (re_var (pv 2)) (re_callB cr_lenK ca_len rfl T.f_len boot_len (ra_cons (re_var (pv 1)) ra_nil)) (nomark _))))) (rs_one (rs_ret (re_cmp (op_eqU (hu64 hr)) of_eq (re_var (pv 0)) (re_c (pe_gl rfl T.c_EDGE) fun _ => .str (by rw [sizeLine_eq]; decide +kernel)) (nomark _)))) rs_nil)
 (rs_one (rs_ret (re_cmp (op_inU (hu64 hr)) of_in (re_ix rfl (re_var (pv 1)) (re_var (pv 2)) (fun _ _ => rfl)) (re_var (pv 0)) (by rfl)))))
abbrev s_all_fit : Stmt := top 29
theorem sc_all_fit : FnScope ["places", "word", "begin", "at", "place"] ["places", "word", "begin"] (defScope s_all_fit) := ⟨rfl, rfl, rfl, by decide +kernel, rfl, by decide +kernel, by decide +kernel⟩
theorem ok_all_fit (T : Tops K mg) (C_fits : CalN P w K mg base 1 "_fits" (spF K 3 F_fits)) (F : Fun K "_all_fit" "_all_fit" s_all_fit f fd) : FnOk P w K mg base (L2N.CX P w) 2 f fd ["places", "word", "begin"] (spF K 3 F_all_fit) :=
  okN F sc_all_fit rfl fun cdv A outer s H E hr => (rs_cons (rs_for (passes_of rfl) rfl (ri_enum rfl T.f_enumerate (ra_cons (re_sh (re_var (pv 0))) ra_nil)) (rg_tup rfl (rgs_cons (rg_name (i := 3) sc_all_fit.nd rfl (Or.inl rfl)) (rgs_cons (rg_name (i := 4) sc_all_fit.nd rfl (Or.inl rfl)) rgs_nil)))
 (rs_one (rs_if (rt_not (rt_tru rfl (re_call C_fits (hr.mono (by decide)) rfl (L2N.takes_of rfl rfl rfl rfl) (ra_cons (re_sh (re_var (pv 4))) (ra_cons (re_sh (re_var (pv 1))) (ra_cons (re_sh (re_op op_addU of_add (re_var (pv 2)) (re_var (pv 3)))) ra_nil)))) (fun _ => rfl))) (rs_one (rs_ret re_bl)) rs_nil)))
 (rs_one (rs_ret re_bl)))
abbrev s_stands_at : Stmt := top 30
theorem sc_stands_at : FnScope ["rule", "word", "at", "letter", "_", "left", "right"] ["rule", "word", "at"] (defScope s_stands_at) := ⟨rfl, rfl, rfl, by decide +kernel, rfl, by decide +kernel, by decide +kernel⟩
theorem ok_stands_at (T : Tops K mg) (C_all_fit : CalN P w K mg base 2 "_all_fit" (spF K 3 F_all_fit)) (F : Fun K "stands_at" "stands_at" s_stands_at f fd) : FnOk P w K mg base (L2N.CX P w) 3 f fd ["rule", "word", "at"] (spF K 3 F_stands_at) :=
  okN F sc_stands_at rfl fun cdv A outer s H E hr => (rs_cons (rs_unp rfl (re_var (pv 0)) (rgs_cons (rg_name (i := 3) sc_stands_at.nd rfl (Or.inl rfl)) (rgs_cons (rg_name (i := 4) sc_stands_at.nd rfl (Or.inl rfl)) (rgs_cons (rg_name (i := 5) sc_stands_at.nd rfl (Or.inl rfl)) (rgs_cons (rg_name (i := 6) sc_stands_at.nd rfl (Or.inl rfl)) rgs_nil)))))
 (rs_one (rs_ret (re_and rfl (re_cmp (op_eqU (hu64 hr)) of_eq (re_ix rfl (re_var (pv 1)) (re_var (pv 2)) (fun _ _ => rfl)) (re_var (pv 3)) (nomark _)) (re_and rfl (re_call C_all_fit (hr.mono (by decide)) rfl (L2N.takes_of rfl rfl rfl rfl) (ra_cons (re_sh (re_var (pv 5))) (ra_cons (re_sh (re_var (pv 1))) (ra_cons (re_op op_sub of_sub (re_var (pv 2)) (re_callB cr_lenK ca_len rfl T.f_len boot_len (ra_cons (re_var (pv 5)) ra_nil))) ra_nil)))) (re_one (re_call C_all_fit (hr.mono (by decide)) rfl (L2N.takes_of rfl rfl rfl rfl) (ra_cons (re_sh (re_var (pv 6))) (ra_cons (re_sh (re_var (pv 1))) (ra_cons (re_op op_addU of_add (re_var (pv 2)) re_int) ra_nil))))))))))
abbrev s_indexes_of : Stmt := top 31
theorem sc_indexes_of : FnScope ["rule", "word", "at"] ["rule", "word"] (defScope s_indexes_of) := ⟨rfl, rfl, rfl, by decide +kernel, rfl, by decide +kernel, by decide +kernel⟩
theorem ok_indexes_of (T : Tops K mg) (C_stands_at : CalN P w K mg base 3 "stands_at" (spF K 3 F_stands_at)) (F : Fun K "indexes_of" "indexes_of" s_indexes_of f fd) : FnOk P w K mg base (L2N.CX P w) 4 f fd ["rule", "word"] (spF K 2 F_indexes_of) :=
  okN F sc_indexes_of rfl fun cdv A outer s H E hr => (rs_one (rs_ret (re_lc (own := [("at", 2)]) rfl sc_indexes_of.nd (ri_rng1 rfl T.f_range (ra_cons (re_callB cr_lenK ca_len rfl T.f_len boot_len (ra_cons (re_var (pv 1)) ra_nil)) ra_nil)) (blkOk_by (N := ["rule", "word", "at"]) (sc := defScope s_indexes_of) (by decide +kernel)) (fun _ _ _ _ _ => (rg_name (i := 2) sc_indexes_of.nd rfl (Or.inl rfl))) (fun _ _ _ _ _ => (rt_one (rt_tru rfl (re_call C_stands_at (hr.mono (by decide)) rfl takesF (ra_cons (re_sh (re_var (pv 0))) (ra_cons (re_sh (re_var (pv 1))) (ra_cons (re_sh (re_var (pv 2))) ra_nil)))) (fun _ => rfl)))) (fun _ _ _ _ _ => (re_sh (re_var (pv 2)))) (by decide))))
abbrev s_parts_of : Stmt := top 32
theorem sc_parts_of : FnScope ["rule", "word", "parts", "at"] ["rule", "word"] (defScope s_parts_of) := ⟨rfl, rfl, rfl, by decide +kernel, rfl, by decide +kernel, by decide +kernel⟩
theorem ok_parts_of (T : Tops K mg) (C_indexes_of : CalN P w K mg base 4 "indexes_of" (spF K 2 F_indexes_of)) (F : Fun K "parts_of" "parts_of" s_parts_of f fd) : FnOk P w K mg base (L2N.CX P w) 5 f fd ["rule", "word"] (spF K 2 F_parts_of) :=
  okN F sc_parts_of rfl fun cdv A outer s H E hr => (rs_cons (rs_set (i := 2) sc_parts_of.nd rfl (Or.inl rfl) (re_callTy cr_lstU ca_lst rfl T.f_list boot_list (ra_cons (re_var (pv 1)) ra_nil)))
 (rs_cons (rs_for (passes_of rfl) rfl (ri_seq (re_sh (re_call C_indexes_of (hr.mono (by decide)) rfl (L2N.takes_of rfl rfl rfl rfl) (ra_cons (re_sh (re_var (pv 0))) (ra_cons (re_sh (re_var (pv 1))) ra_nil))))) (rg_name (i := 3) sc_parts_of.nd rfl (Or.inl rfl))
 (rs_one (rs_sub (pv 2) (re_var (pv 3)) (re_ix rfl (re_var (pv 0)) re_int (fun _ _ => rfl)))))
 (rs_one (rs_ret (re_var (pv 2))))))
abbrev s_changed : Stmt := top 33
theorem sc_changed : FnScope ["k", "rule", "word"] ["k", "rule", "word"] (defScope s_changed) := ⟨rfl, rfl, rfl, by decide +kernel, rfl, by decide +kernel, by decide +kernel⟩
theorem ok_changed (T : Tops K mg) (C_check_rule : CalN P w K mg base 5 "check_rule" (spF K 2 F_check_rule)) (C_check_word : CalN P w K mg base 5 "check_word" (spF K 2 F_check_word)) (C_parts_of : CalN P w K mg base 5 "parts_of" (spF K 2 F_parts_of)) (F : Fun K "changed" "changed" s_changed f fd) : FnOk P w K mg base (L2N.CX P w) 6 f fd ["k", "rule", "word"] (spF K 3 F_changed) :=
  okN F sc_changed rfl fun cdv A outer s H E hr => (rs_cons (rs_expr (re_call C_check_rule (hr.mono (by decide)) rfl (L2N.takes_of rfl rfl rfl rfl) (ra_cons (re_sh (re_var (pv 0))) (ra_cons (re_sh (re_var (pv 1))) ra_nil))))
 (rs_cons (rs_expr (re_call C_check_word (hr.mono (by decide)) rfl (L2N.takes_of rfl rfl rfl rfl) (ra_cons (re_sh (re_var (pv 0))) (ra_cons (re_sh (re_var (pv 2))) ra_nil))))
 (rs_one (rs_ret (re_mt rfl PySem.F.plainAttrs_str PySem.F.slot_str_join PySem.F.type_str_join mt_joinK ca_join ty_str re_str (ra_cons (re_call C_parts_of (hr.mono (by decide)) rfl (L2N.takes_of rfl rfl rfl rfl) (ra_cons (re_sh (re_var (pv 1))) (ra_cons (re_sh (re_var (pv 2))) ra_nil))) ra_nil))))))
abbrev s_turned : Stmt := top 34
theorem sc_turned : FnScope ["k", "rule", "letter", "new", "left", "right"] ["k", "rule"] (defScope s_turned) := ⟨rfl, rfl, rfl, by decide +kernel, rfl, by decide +kernel, by decide +kernel⟩
theorem ok_turned (T : Tops K mg) (C_check_rule : CalN P w K mg base 5 "check_rule" (spF K 2 F_check_rule)) (F : Fun K "turned" "turned" s_turned f fd) : FnOk P w K mg base (L2N.CX P w) 6 f fd ["k", "rule"] (spF K 2 F_turned) :=
  okN F sc_turned rfl fun cdv A outer s H E hr => (rs_cons (rs_expr (re_call C_check_rule (hr.mono (by decide)) rfl (L2N.takes_of rfl rfl rfl rfl) (ra_cons (re_sh (re_var (pv 0))) (ra_cons (re_sh (re_var (pv 1))) ra_nil))))
 (rs_cons (rs_unp rfl (re_var (pv 1)) (rgs_cons (rg_name (i := 2) sc_turned.nd rfl (Or.inl rfl)) (rgs_cons (rg_name (i := 3) sc_turned.nd rfl (Or.inl rfl)) (rgs_cons (rg_name (i := 4) sc_turned.nd rfl (Or.inl rfl)) (rgs_cons (rg_name (i := 5) sc_turned.nd rfl (Or.inl rfl)) rgs_nil)))))
 (rs_one (rs_ret (re_tup (ra_cons (re_sh (re_var (pv 2))) (ra_cons (re_sh (re_revN (re_var (pv 3)))) (ra_cons (re_sh (re_revN (re_var (pv 5)))) (ra_cons (re_sh (re_revN (re_var (pv 4)))) ra_nil)))))))))
abbrev s_renamed_letters : Stmt := top 35
theorem sc_renamed_letters : FnScope ["letters", "names", "word", "letter"] ["letters", "names", "word"] (defScope s_renamed_letters) := ⟨rfl, rfl, rfl, by decide +kernel, rfl, by decide +kernel, by decide +kernel⟩
theorem ok_renamed_letters (T : Tops K mg) (F : Fun K "_renamed_letters" "_renamed_letters" s_renamed_letters f fd) : FnOk P w K mg base (L2N.CX P w) 1 f fd ["letters", "names", "word"] (spF K 3 F_renamed_letters) :=
  okN F sc_renamed_letters rfl fun cdv A outer s H E hr => (rs_one (rs_ret (re_mt rfl PySem.F.plainAttrs_str PySem.F.slot_str_join PySem.F.type_str_join mt_joinK ca_join ty_str re_str (ra_cons (re_lc (own := [("letter", 3)]) rfl sc_renamed_letters.nd (ri_seq (re_sh (re_var (pv 2)))) (blkOk_by (N := ["letters", "names", "word", "letter"]) (sc := defScope s_renamed_letters) (by decide +kernel)) (fun _ _ _ _ _ => (rg_name (i := 3) sc_renamed_letters.nd rfl (Or.inl rfl))) (fun _ _ _ _ _ => rt_yes) (fun _ _ _ _ _ => (re_ix rfl (re_var (pv 1)) (re_mt rfl PySem.F.plainAttrs_str PySem.F.slot_str_index PySem.F.type_str_index mt_sindex ca_sindex ty_str (re_var (pv 0)) (ra_cons (re_var (pv 3)) ra_nil)) (fun _ _ => rfl))) (by decide)) ra_nil))))
abbrev s_renamed_places : Stmt := top 36
theorem sc_renamed_places : FnScope ["letters", "names", "places", "place"] ["letters", "names", "places"] (defScope s_renamed_places) := ⟨rfl, rfl, rfl, by decide +kernel, rfl, by decide +kernel, by decide +kernel⟩
theorem ok_renamed_places (T : Tops K mg) (C_renamed_letters : CalN P w K mg base 1 "_renamed_letters" (spF K 3 F_renamed_letters)) (F : Fun K "_renamed_places" "_renamed_places" s_renamed_places f fd) : FnOk P w K mg base (L2N.CX P w) 2 f fd ["letters", "names", "places"] (spF K 3 F_renamed_places) :=
  okN F sc_renamed_places rfl fun cdv A outer s H E hr => (rs_one (rs_ret (re_callTy cr_tupK ca_tup rfl T.f_tuple boot_tuple (ra_cons (re_lc (own := [("place", 3)]) rfl sc_renamed_places.nd (ri_seq (re_sh (re_var (pv 2)))) (blkOk_by (N := ["letters", "names", "places", "place"]) (sc := defScope s_renamed_places) (by decide +kernel)) (fun _ _ _ _ _ => (rg_name (i := 3) sc_renamed_places.nd rfl (Or.inl rfl))) (fun _ _ _ _ _ => rt_yes) (fun _ _ _ _ _ => (re_sh (re_if (rt_cmp (op_eqU (hu64 hr)) of_eq (re_var (pv 3)) (re_c (pe_gl rfl T.c_EDGE) fun _ => .str (by rw [sizeLine_eq]; decide +kernel)) (nomark _)) (re_var (pv 3)) (re_mt rfl PySem.F.plainAttrs_str PySem.F.slot_str_join PySem.F.type_str_join mt_joinK ca_join ty_str re_str (ra_cons (re_callB (cr_sortK) ca_sort rfl T.f_sorted boot_sorted (ra_cons (re_call C_renamed_letters (hr.mono (by decide)) rfl takesF (ra_cons (re_sh (re_var (pv 0))) (ra_cons (re_sh (re_var (pv 1))) (ra_cons (re_sh (re_var (pv 3))) ra_nil)))) ra_nil)) ra_nil))))) (by decide)) ra_nil))))
abbrev s_renamed_word : Stmt := top 37
theorem sc_renamed_word : FnScope ["k", "word", "names"] ["k", "word", "names"] (defScope s_renamed_word) := ⟨rfl, rfl, rfl, by decide +kernel, rfl, by decide +kernel, by decide +kernel⟩
theorem ok_renamed_word (T : Tops K mg) (C_renamed_letters : CalN P w K mg base 1 "_renamed_letters" (spF K 3 F_renamed_letters)) (C_check_names : CalN P w K mg base 4 "check_names" (spF K 2 F_check_names)) (C_check_word : CalN P w K mg base 5 "check_word" (spF K 2 F_check_word)) (C_letters_of : CalN P w K mg base 3 "letters_of" (spF K 1 F_letters_of)) (F : Fun K "renamed_word" "renamed_word" s_renamed_word f fd) : FnOk P w K mg base (L2N.CX P w) 6 f fd ["k", "word", "names"] (spF K 3 F_renamed_word) :=
  okN F sc_renamed_word rfl fun cdv A outer s H E hr => (rs_cons (rs_expr (re_call C_check_word (hr.mono (by decide)) rfl (L2N.takes_of rfl rfl rfl rfl) (ra_cons (re_sh (re_var (pv 0))) (ra_cons (re_sh (re_var (pv 1))) ra_nil))))
 (rs_cons (rs_expr (re_call C_check_names (hr.mono (by decide)) rfl (L2N.takes_of rfl rfl rfl rfl) (ra_cons (re_sh (re_var (pv 0))) (ra_cons (re_sh (re_var (pv 2))) ra_nil))))
 (rs_one (rs_ret (re_call C_renamed_letters (hr.mono (by decide)) rfl (L2N.takes_of rfl rfl rfl rfl) (ra_cons (re_sh (re_call C_letters_of (hr.mono (by decide)) rfl (L2N.takes_of rfl rfl rfl rfl) (ra_cons (re_sh (re_var (pv 0))) ra_nil))) (ra_cons (re_sh (re_var (pv 2))) (ra_cons (re_sh (re_var (pv 1))) ra_nil))))))))
abbrev s_renamed : Stmt := top 38
theorem sc_renamed : FnScope ["k", "rule", "names", "letters", "letter", "new", "left", "right"] ["k", "rule", "names"] (defScope s_renamed) := ⟨rfl, rfl, rfl, by decide +kernel, rfl, by decide +kernel, by decide +kernel⟩
theorem ok_renamed (T : Tops K mg) (C_renamed_letters : CalN P w K mg base 1 "_renamed_letters" (spF K 3 F_renamed_letters)) (C_renamed_places : CalN P w K mg base 2 "_renamed_places" (spF K 3 F_renamed_places)) (C_check_names : CalN P w K mg base 4 "check_names" (spF K 2 F_check_names)) (C_check_rule : CalN P w K mg base 5 "check_rule" (spF K 2 F_check_rule)) (C_letters_of : CalN P w K mg base 3 "letters_of" (spF K 1 F_letters_of)) (F : Fun K "renamed" "renamed" s_renamed f fd) : FnOk P w K mg base (L2N.CX P w) 6 f fd ["k", "rule", "names"] (spF K 3 F_renamed) :=
  okN F sc_renamed rfl fun cdv A outer s H E hr => (rs_cons (rs_expr (re_call C_check_rule (hr.mono (by decide)) rfl (L2N.takes_of rfl rfl rfl rfl) (ra_cons (re_sh (re_var (pv 0))) (ra_cons (re_sh (re_var (pv 1))) ra_nil))))
 (rs_cons (rs_expr (re_call C_check_names (hr.mono (by decide)) rfl (L2N.takes_of rfl rfl rfl rfl) (ra_cons (re_sh (re_var (pv 0))) (ra_cons (re_sh (re_var (pv 2))) ra_nil))))
 (rs_cons (rs_set (i := 3) sc_renamed.nd rfl (Or.inl rfl) (re_call C_letters_of (hr.mono (by decide)) rfl (L2N.takes_of rfl rfl rfl rfl) (ra_cons (re_sh (re_var (pv 0))) ra_nil)))
 (rs_cons (rs_unp rfl (re_var (pv 1)) (rgs_cons (rg_name (i := 4) sc_renamed.nd rfl (Or.inl rfl)) (rgs_cons (rg_name (i := 5) sc_renamed.nd rfl (Or.inl rfl)) (rgs_cons (rg_name (i := 6) sc_renamed.nd rfl (Or.inl rfl)) (rgs_cons (rg_name (i := 7) sc_renamed.nd rfl (Or.inl rfl)) rgs_nil)))))
 (rs_one (rs_ret (re_tup (ra_cons (re_sh (re_call C_renamed_letters (hr.mono (by decide)) rfl (L2N.takes_of rfl rfl rfl rfl) (ra_cons (re_sh (re_var (pv 3))) (ra_cons (re_sh (re_var (pv 2))) (ra_cons (re_sh (re_var (pv 4))) ra_nil))))) (ra_cons (re_sh (re_call C_renamed_letters (hr.mono (by decide)) rfl (L2N.takes_of rfl rfl rfl rfl) (ra_cons (re_sh (re_var (pv 3))) (ra_cons (re_sh (re_var (pv 2))) (ra_cons (re_sh (re_var (pv 5))) ra_nil))))) (ra_cons (re_sh (re_call C_renamed_places (hr.mono (by decide)) rfl (L2N.takes_of rfl rfl rfl rfl) (ra_cons (re_sh (re_var (pv 3))) (ra_cons (re_sh (re_var (pv 2))) (ra_cons (re_sh (re_var (pv 6))) ra_nil))))) (ra_cons (re_sh (re_call C_renamed_places (hr.mono (by decide)) rfl (L2N.takes_of rfl rfl rfl rfl) (ra_cons (re_sh (re_var (pv 3))) (ra_cons (re_sh (re_var (pv 2))) (ra_cons (re_sh (re_var (pv 7))) ra_nil))))) ra_nil)))))))))))
abbrev s_check_list : Stmt := top 41
theorem sc_check_list : FnScope ["k", "rules", "word"] ["k", "rules", "word"] (defScope s_check_list) := ⟨rfl, rfl, rfl, by decide +kernel, rfl, by decide +kernel, by decide +kernel⟩
theorem ok_check_list (T : Tops K mg) (C_check_rules : CalN P w K mg base 6 "check_rules" (spF K 2 F_check_rules)) (C_check_word : CalN P w K mg base 5 "check_word" (spF K 2 F_check_word)) (F : Fun K "check_list" "check_list" s_check_list f fd) : FnOk P w K mg base (L2N.CX P w) 7 f fd ["k", "rules", "word"] (spF K 3 F_check_list) :=
  okN F sc_check_list rfl fun cdv A outer s H E hr => (rs_cons (rs_expr (re_call C_check_rules (hr.mono (by decide)) rfl (L2N.takes_of rfl rfl rfl rfl) (ra_cons (re_sh (re_var (pv 0))) (ra_cons (re_sh (re_var (pv 1))) ra_nil))))
 (rs_one (rs_expr (re_call C_check_word (hr.mono (by decide)) rfl (L2N.takes_of rfl rfl rfl rfl) (ra_cons (re_sh (re_var (pv 0))) (ra_cons (re_sh (re_var (pv 2))) ra_nil))))))
abbrev s_check_made : Stmt := top 42
theorem sc_check_made : FnScope ["word"] ["word"] (defScope s_check_made) := ⟨rfl, rfl, rfl, by decide +kernel, rfl, by decide +kernel, by decide +kernel⟩
theorem ok_check_made (T : Tops K mg) (F : Fun K "check_made" "check_made" s_check_made f fd) : FnOk P w K mg base (L2N.CX P w) 1 f fd ["word"] (spF K 1 F_check_made) :=
  okN F sc_check_made rfl fun cdv A outer s H E hr => (rs_one (rs_if (rt_cmp op_gt of_gt (re_callB cr_lenK ca_len rfl T.f_len boot_len (ra_cons (re_var (pv 0)) ra_nil)) (re_c (pe_gl rfl T.c_LONGEST_MADE) fun _ => .int _) (nomark _)) (rs_one (rs_raise T.e_TooLarge rfl (L2N.takes_of rfl rfl rfl rfl) rfl)) rs_nil))
abbrev s_steps : Stmt := top 43
theorem sc_steps : FnScope ["rules", "word", "steps", "rule"] ["rules", "word"] (defScope s_steps) := ⟨rfl, rfl, rfl, by decide +kernel, rfl, by decide +kernel, by decide +kernel⟩
theorem ok_steps (T : Tops K mg) (C_check_made : CalN P w K mg base 1 "check_made" (spF K 1 F_check_made)) (C_parts_of : CalN P w K mg base 5 "parts_of" (spF K 2 F_parts_of)) (F : Fun K "_steps" "_steps" s_steps f fd) : FnOk P w K mg base (L2N.CX P w) 6 f fd ["rules", "word"] (spF K 2 F_steps) :=
  okN F sc_steps rfl fun cdv A outer s H E hr => (rs_cons (rs_set (i := 2) sc_steps.nd rfl (Or.inl rfl) (re_lst (ra_cons (re_sh (re_var (pv 1))) ra_nil)))
 (rs_cons (rs_for (passes_of rfl) rfl (ri_seq (re_sh (re_var (pv 0)))) (rg_name (i := 3) sc_steps.nd rfl (Or.inl rfl))
 (rs_cons (rs_set (i := 1) sc_steps.nd rfl (Or.inl rfl) (re_mt rfl PySem.F.plainAttrs_str PySem.F.slot_str_join PySem.F.type_str_join mt_joinK ca_join ty_str re_str (ra_cons (re_call C_parts_of (hr.mono (by decide)) rfl (L2N.takes_of rfl rfl rfl rfl) (ra_cons (re_sh (re_var (pv 3))) (ra_cons (re_sh (re_var (pv 1))) ra_nil))) ra_nil)))
 (rs_cons (rs_expr (re_call C_check_made (hr.mono (by decide)) rfl (L2N.takes_of rfl rfl rfl rfl) (ra_cons (re_sh (re_var (pv 1))) ra_nil)))
 (rs_one (rs_expr (re_app rfl (pv 2) (ra_cons (re_sh (re_var (pv 1))) ra_nil)))))))
 (rs_one (rs_ret (re_var (pv 2))))))
abbrev s_form_of : Stmt := top 44
theorem sc_form_of : FnScope ["k", "rules", "word"] ["k", "rules", "word"] (defScope s_form_of) := ⟨rfl, rfl, rfl, by decide +kernel, rfl, by decide +kernel, by decide +kernel⟩
theorem ok_form_of (T : Tops K mg) (C_steps : CalN P w K mg base 6 "_steps" (spF K 2 F_steps)) (C_check_list : CalN P w K mg base 7 "check_list" (spF K 3 F_check_list)) (F : Fun K "form_of" "form_of" s_form_of f fd) : FnOk P w K mg base (L2N.CX P w) 8 f fd ["k", "rules", "word"] (spF K 3 F_form_of) :=
  okN F sc_form_of rfl fun cdv A outer s H E hr => (rs_cons (rs_expr (re_call C_check_list (hr.mono (by decide)) rfl (L2N.takes_of rfl rfl rfl rfl) (ra_cons (re_sh (re_var (pv 0))) (ra_cons (re_sh (re_var (pv 1))) (ra_cons (re_sh (re_var (pv 2))) ra_nil)))))
 (rs_one (rs_ret (re_ix rfl (re_call C_steps (hr.mono (by decide)) rfl (L2N.takes_of rfl rfl rfl rfl) (ra_cons (re_sh (re_var (pv 1))) (ra_cons (re_sh (re_var (pv 2))) ra_nil))) (re_un un_neg uf_neg re_int) (fun _ _ => rfl)))))
abbrev s_turned_rules : Stmt := top 45
theorem sc_turned_rules : FnScope ["k", "rules", "rule"] ["k", "rules"] (defScope s_turned_rules) := ⟨rfl, rfl, rfl, by decide +kernel, rfl, by decide +kernel, by decide +kernel⟩
theorem ok_turned_rules (T : Tops K mg) (C_check_rules : CalN P w K mg base 6 "check_rules" (spF K 2 F_check_rules)) (C_turned : CalN P w K mg base 6 "turned" (spF K 2 F_turned)) (F : Fun K "turned_rules" "turned_rules" s_turned_rules f fd) : FnOk P w K mg base (L2N.CX P w) 7 f fd ["k", "rules"] (spF K 2 F_turned_rules) :=
  okN F sc_turned_rules rfl fun cdv A outer s H E hr => (rs_cons (rs_expr (re_call C_check_rules (hr.mono (by decide)) rfl (L2N.takes_of rfl rfl rfl rfl) (ra_cons (re_sh (re_var (pv 0))) (ra_cons (re_sh (re_var (pv 1))) ra_nil))))
 (rs_one (rs_ret (re_callTy cr_tupK ca_tup rfl T.f_tuple boot_tuple (ra_cons (re_lc (own := [("rule", 2)]) rfl sc_turned_rules.nd (ri_seq (re_sh (re_var (pv 1)))) (blkOk_by (N := ["k", "rules", "rule"]) (sc := defScope s_turned_rules) (by decide +kernel)) (fun _ _ _ _ _ => (rg_name (i := 2) sc_turned_rules.nd rfl (Or.inl rfl))) (fun _ _ _ _ _ => rt_yes) (fun _ _ _ _ _ => (re_sh (re_call C_turned (hr.mono (by decide)) rfl takesF (ra_cons (re_sh (re_var (pv 0))) (ra_cons (re_sh (re_var (pv 2))) ra_nil))))) (by decide)) ra_nil)))))
abbrev s_renamed_rules : Stmt := top 46
theorem sc_renamed_rules : FnScope ["k", "rules", "names", "rule"] ["k", "rules", "names"] (defScope s_renamed_rules) := ⟨rfl, rfl, rfl, by decide +kernel, rfl, by decide +kernel, by decide +kernel⟩
theorem ok_renamed_rules (T : Tops K mg) (C_check_names : CalN P w K mg base 4 "check_names" (spF K 2 F_check_names)) (C_check_rules : CalN P w K mg base 6 "check_rules" (spF K 2 F_check_rules)) (C_renamed : CalN P w K mg base 6 "renamed" (spF K 3 F_renamed)) (F : Fun K "renamed_rules" "renamed_rules" s_renamed_rules f fd) : FnOk P w K mg base (L2N.CX P w) 7 f fd ["k", "rules", "names"] (spF K 3 F_renamed_rules) :=
  okN F sc_renamed_rules rfl fun cdv A outer s H E hr => (rs_cons (rs_expr (re_call C_check_rules (hr.mono (by decide)) rfl (L2N.takes_of rfl rfl rfl rfl) (ra_cons (re_sh (re_var (pv 0))) (ra_cons (re_sh (re_var (pv 1))) ra_nil))))
 (rs_cons (rs_expr (re_call C_check_names (hr.mono (by decide)) rfl (L2N.takes_of rfl rfl rfl rfl) (ra_cons (re_sh (re_var (pv 0))) (ra_cons (re_sh (re_var (pv 2))) ra_nil))))
 (rs_one (rs_ret (re_callTy cr_tupK ca_tup rfl T.f_tuple boot_tuple (ra_cons (re_lc (own := [("rule", 3)]) rfl sc_renamed_rules.nd (ri_seq (re_sh (re_var (pv 1)))) (blkOk_by (N := ["k", "rules", "names", "rule"]) (sc := defScope s_renamed_rules) (by decide +kernel)) (fun _ _ _ _ _ => (rg_name (i := 3) sc_renamed_rules.nd rfl (Or.inl rfl))) (fun _ _ _ _ _ => rt_yes) (fun _ _ _ _ _ => (re_sh (re_call C_renamed (hr.mono (by decide)) rfl takesF (ra_cons (re_sh (re_var (pv 0))) (ra_cons (re_sh (re_var (pv 3))) (ra_cons (re_sh (re_var (pv 2))) ra_nil)))))) (by decide)) ra_nil))))))
abbrev s_law_number : Stmt := top 48
theorem sc_law_number : FnScope ["cell"] ["cell"] (defScope s_law_number) := ⟨rfl, rfl, rfl, by decide +kernel, rfl, by decide +kernel, by decide +kernel⟩
theorem ok_law_number (T : Tops K mg) (F : Fun K "_law_number" "_law_number" s_law_number f fd) : FnOk P w K mg base (L2N.CX P w) 1 f fd ["cell"] (spF K 1 F_law_number) :=
  okN F sc_law_number rfl fun cdv A outer s H E hr => (rs_cons (rs_if (rt_cmp op_ltU of_lt (re_var (pv 0)) re_int (nomark _)) (rs_one (rs_ret (re_op op_sub of_sub re_int (re_var (pv 0))))) rs_nil)
 (rs_one (rs_ret (re_var (pv 0)))))
abbrev s_law_draws : Stmt := top 49
theorem sc_law_draws : FnScope ["script", "draws", "cell", "rest", "k", "once", "twice"] ["script"] (defScope s_law_draws) := ⟨rfl, rfl, rfl, by decide +kernel, rfl, by decide +kernel, by decide +kernel⟩
theorem ok_law_draws (T : Tops K mg) (C_law_number : CalN P w K mg base 1 "_law_number" (spF K 1 F_law_number)) (F : Fun K "_law_draws" "_law_draws" s_law_draws f fd) : FnOk P w K mg base (L2N.CX P w) 2 f fd ["script"] (spF K 1 F_law_draws) :=
  okN F sc_law_draws rfl fun cdv A outer s H E hr => (rs_cons (rs_set (i := 1) sc_law_draws.nd rfl (Or.inl rfl) (re_lst ra_nil))
 (rs_cons (rs_for (passes_of rfl) rfl (ri_seq (re_var (pv 0))) (rg_name (i := 2) sc_law_draws.nd rfl (Or.inl rfl))
 (rs_cons (rs_set (i := 3) sc_law_draws.nd rfl (Or.inl rfl) (re_call C_law_number (hr.mono (by decide)) rfl (L2N.takes_of rfl rfl rfl rfl) (ra_cons (re_sh (re_var (pv 2))) ra_nil)))
 (rs_one (rs_if (rt_cmp op_ge of_ge (re_var (pv 3)) re_int (nomark _)) (rs_one (rs_for (passes_of rfl) rfl (ri_rng1 rfl T.f_range (ra_cons re_int ra_nil)) (rg_name (i := 4) sc_law_draws.nd rfl (Or.inl rfl))
 (rs_cons (rs_if (rt_cmp (op_eqU (hu64 hr)) of_eq (re_var (pv 3)) re_int (nomark _)) (rs_one rs_brk) rs_nil)
 (rs_cons (rs_expr (re_app rfl (pv 1) (ra_cons (re_op op_mod of_mod (re_callTy call_int1 ca_int rfl T.f_int boot_int (ra_cons (re_var (pv 3)) ra_nil)) re_int) ra_nil)))
 (rs_one (rs_set (i := 3) sc_law_draws.nd rfl (Or.inl rfl) (re_op op_fdiv of_div (re_var (pv 3)) re_int))))))) (rs_cons (rs_set (i := 5) sc_law_draws.nd rfl (Or.inl rfl) (re_op op_mod of_mod (re_callTy call_int1 ca_int rfl T.f_int boot_int (ra_cons (re_op op_addU of_add (re_op op_mulU of_mul (re_var (pv 3)) re_int) re_int) ra_nil)) re_int))
 (rs_cons (rs_set (i := 6) sc_law_draws.nd rfl (Or.inl rfl) (re_op op_mod of_mod (re_callTy call_int1 ca_int rfl T.f_int boot_int (ra_cons (re_op op_addU of_add (re_op op_mulU of_mul (re_var (pv 5)) re_int) (re_var (pv 3))) ra_nil)) re_int))
 (rs_one (rs_expr (re_ext rfl (pv 1) (ra_cons (re_lst (ra_cons (re_op op_mod of_mod (re_callTy call_int1 ca_int rfl T.f_int boot_int (ra_cons (re_var (pv 3)) ra_nil)) re_int) (ra_cons (re_op op_mod of_mod (re_callTy call_int1 ca_int rfl T.f_int boot_int (ra_cons (re_var (pv 5)) ra_nil)) re_int) (ra_cons (re_op op_mod of_mod (re_callTy call_int1 ca_int rfl T.f_int boot_int (ra_cons (re_var (pv 6)) ra_nil)) re_int) ra_nil)))) ra_nil))))))))))
 (rs_one (rs_ret (re_var (pv 1))))))
abbrev s_law_next : Stmt := top 50
theorem sc_law_next : FnScope ["draws"] ["draws"] (defScope s_law_next) := ⟨rfl, rfl, rfl, by decide +kernel, rfl, by decide +kernel, by decide +kernel⟩
theorem ok_law_next (T : Tops K mg) (F : Fun K "_law_next" "_law_next" s_law_next f fd) : FnOk P w K mg base (L2N.CX P w) 1 f fd ["draws"] (spF K 1 F_law_next) :=
  okN F sc_law_next rfl fun cdv A outer s H E hr => (rs_cons (rs_if (rt_tru rfl (re_var (pv 0)) (fun _ => rfl)) (rs_one (rs_ret (re_pop rfl (pv 0)))) rs_nil)
 (rs_one (rs_ret re_int)))
abbrev s_law_string : Stmt := top 51
theorem sc_law_string : FnScope ["draws", "k", "most", "j"] ["draws", "k", "most"] (defScope s_law_string) := ⟨rfl, rfl, rfl, by decide +kernel, rfl, by decide +kernel, by decide +kernel⟩
theorem ok_law_string (T : Tops K mg) (C_law_next : CalN P w K mg base 1 "_law_next" (spF K 1 F_law_next)) (F : Fun K "_law_string" "_law_string" s_law_string f fd) : FnOk P w K mg base (L2N.CX P w) 2 f fd ["draws", "k", "most"] (spF K 3 F_law_string) :=
  okN F sc_law_string rfl fun cdv A outer s H E hr => (rs_one (rs_ret (re_mt rfl PySem.F.plainAttrs_str PySem.F.slot_str_join PySem.F.type_str_join mt_joinK ca_join ty_str re_str (ra_cons (re_lc (own := [("j", 3)]) rfl sc_law_string.nd (ri_rng1 rfl T.f_range (ra_cons (re_op op_mod of_mod (re_callTy call_int1 ca_int rfl T.f_int boot_int (ra_cons (re_call C_law_next (hr.mono (by decide)) rfl (L2N.takes_of rfl rfl rfl rfl) (ra_cons (re_var (pv 0)) ra_nil)) ra_nil)) (re_op op_addU of_add (re_var (pv 2)) re_int)) ra_nil)) (blkOk_by (N := ["draws", "k", "most", "j"]) (sc := defScope s_law_string) (by decide +kernel)) (fun _ _ _ _ _ => (rg_name (i := 3) sc_law_string.nd rfl (Or.inl rfl))) (fun _ _ _ _ _ => rt_yes) (fun _ _ _ _ _ => (re_ix rfl re_str (re_op op_mod of_mod (re_callTy call_int1 ca_int rfl T.f_int boot_int (ra_cons (re_call C_law_next (hr.mono (by decide)) rfl takesF (ra_cons (re_var (pv 0)) ra_nil)) ra_nil)) (re_var (pv 1))) (fun _ _ => rfl))) (by decide)) ra_nil))))
abbrev s_law_place : Stmt := top 52
theorem sc_law_place : FnScope ["draws", "k", "bits", "j"] ["draws", "k"] (defScope s_law_place) := ⟨rfl, rfl, rfl, by decide +kernel, rfl, by decide +kernel, by decide +kernel⟩
theorem ok_law_place (T : Tops K mg) (C_law_next : CalN P w K mg base 1 "_law_next" (spF K 1 F_law_next)) (F : Fun K "_law_place" "_law_place" s_law_place f fd) : FnOk P w K mg base (L2N.CX P w) 2 f fd ["draws", "k"] (spF K 2 F_law_place) :=
  okN F sc_law_place rfl fun cdv A outer s H E hr => (rs_cons (rs_set (i := 2) sc_law_place.nd rfl (Or.inr rfl) (re_op op_addU of_add re_int (re_op op_mod of_mod (re_callTy call_int1 ca_int rfl T.f_int boot_int (ra_cons (re_call C_law_next (hr.mono (by decide)) rfl (L2N.takes_of rfl rfl rfl rfl) (ra_cons (re_var (pv 0)) ra_nil)) ra_nil)) (re_op op_sub of_sub (re_op op_shl of_shl re_int (re_var (pv 1))) re_int))))
 (rs_one (rs_ret (re_mt rfl PySem.F.plainAttrs_str PySem.F.slot_str_join PySem.F.type_str_join mt_joinK ca_join ty_str re_str (ra_cons (re_lc (own := [("j", 3)]) rfl sc_law_place.nd (ri_rng1 rfl T.f_range (ra_cons (re_var (pv 1)) ra_nil)) (blkOk_by (N := ["draws", "k", "bits", "j"]) (sc := defScope s_law_place) (by decide +kernel)) (fun _ _ _ _ _ => (rg_name (i := 3) sc_law_place.nd rfl (Or.inl rfl))) (fun _ _ _ _ _ => (rt_one (rt_cmp (op_eqU (hu64 hr)) of_eq (re_op op_mod of_mod (re_op op_fdiv of_div (re_var (pv 2)) (re_ix rfl (re_lst (ra_cons re_int (ra_cons re_int (ra_cons re_int (ra_cons re_int (ra_cons re_int (ra_cons re_int ra_nil))))))) (re_var (pv 3)) (fun _ _ => rfl))) re_int) re_int (nomark _)))) (fun _ _ _ _ _ => (re_ix rfl re_str (re_var (pv 3)) (fun _ _ => rfl))) (by decide)) ra_nil)))))
abbrev s_law_context : Stmt := top 53
theorem sc_law_context : FnScope ["draws", "k", "j"] ["draws", "k"] (defScope s_law_context) := ⟨rfl, rfl, rfl, by decide +kernel, rfl, by decide +kernel, by decide +kernel⟩
theorem ok_law_context (T : Tops K mg) (C_law_next : CalN P w K mg base 1 "_law_next" (spF K 1 F_law_next)) (C_law_place : CalN P w K mg base 2 "_law_place" (spF K 2 F_law_place)) (F : Fun K "_law_context" "_law_context" s_law_context f fd) : FnOk P w K mg base (L2N.CX P w) 3 f fd ["draws", "k"] (spF K 2 F_law_context) :=
  okN F sc_law_context rfl fun cdv A outer s H E hr => (rs_one (rs_ret (re_lc (own := [("j", 2)]) rfl sc_law_context.nd (ri_rng1 rfl T.f_range (ra_cons (re_ix rfl (re_lst (ra_cons re_int (ra_cons re_int (ra_cons re_int (ra_cons re_int (ra_cons re_int ra_nil)))))) (re_op op_mod of_mod (re_callTy call_int1 ca_int rfl T.f_int boot_int (ra_cons (re_call C_law_next (hr.mono (by decide)) rfl (L2N.takes_of rfl rfl rfl rfl) (ra_cons (re_var (pv 0)) ra_nil)) ra_nil)) re_int) (fun _ _ => rfl)) ra_nil)) (blkOk_by (N := ["draws", "k", "j"]) (sc := defScope s_law_context) (by decide +kernel)) (fun _ _ _ _ _ => (rg_name (i := 2) sc_law_context.nd rfl (Or.inl rfl))) (fun _ _ _ _ _ => rt_yes) (fun _ _ _ _ _ => (re_sh (re_call C_law_place (hr.mono (by decide)) rfl takesF (ra_cons (re_var (pv 0)) (ra_cons (re_sh (re_var (pv 1))) ra_nil))))) (by decide))))
abbrev s_law_rule : Stmt := top 54
theorem sc_law_rule : FnScope ["draws", "k", "letter", "new", "left", "right", "edge"] ["draws", "k"] (defScope s_law_rule) := ⟨rfl, rfl, rfl, by decide +kernel, rfl, by decide +kernel, by decide +kernel⟩
theorem ok_law_rule (T : Tops K mg) (C_law_context : CalN P w K mg base 3 "_law_context" (spF K 2 F_law_context)) (C_law_next : CalN P w K mg base 1 "_law_next" (spF K 1 F_law_next)) (C_law_string : CalN P w K mg base 2 "_law_string" (spF K 3 F_law_string)) (F : Fun K "_law_rule" "_law_rule" s_law_rule f fd) : FnOk P w K mg base (L2N.CX P w) 4 f fd ["draws", "k"] (spF K 2 F_law_rule) :=
  okN F sc_law_rule rfl fun cdv A outer s H E hr => (rs_cons (rs_set (i := 2) sc_law_rule.nd rfl (Or.inl rfl) (re_ix rfl re_str (re_op op_mod of_mod (re_callTy call_int1 ca_int rfl T.f_int boot_int (ra_cons (re_call C_law_next (hr.mono (by decide)) rfl (L2N.takes_of rfl rfl rfl rfl) (ra_cons (re_var (pv 0)) ra_nil)) ra_nil)) (re_var (pv 1))) (fun _ _ => rfl)))
 (rs_cons (rs_set (i := 3) sc_law_rule.nd rfl (Or.inl rfl) (re_call C_law_string (hr.mono (by decide)) rfl (L2N.takes_of rfl rfl rfl rfl) (ra_cons (re_var (pv 0)) (ra_cons (re_sh (re_var (pv 1))) (ra_cons (re_ix rfl (re_lst (ra_cons re_int (ra_cons re_int (ra_cons re_int ra_nil)))) (re_op op_mod of_mod (re_callTy call_int1 ca_int rfl T.f_int boot_int (ra_cons (re_call C_law_next (hr.mono (by decide)) rfl (L2N.takes_of rfl rfl rfl rfl) (ra_cons (re_var (pv 0)) ra_nil)) ra_nil)) re_int) (fun _ _ => rfl)) ra_nil)))))
 (rs_cons (rs_set (i := 4) sc_law_rule.nd rfl (Or.inl rfl) (re_call C_law_context (hr.mono (by decide)) rfl (L2N.takes_of rfl rfl rfl rfl) (ra_cons (re_var (pv 0)) (ra_cons (re_sh (re_var (pv 1))) ra_nil))))
 (rs_cons (rs_set (i := 5) sc_law_rule.nd rfl (Or.inl rfl) (re_call C_law_context (hr.mono (by decide)) rfl (L2N.takes_of rfl rfl rfl rfl) (ra_cons (re_var (pv 0)) (ra_cons (re_sh (re_var (pv 1))) ra_nil))))
 (rs_cons (rs_set (i := 6) sc_law_rule.nd rfl (Or.inl rfl) (re_op op_mod of_mod (re_callTy call_int1 ca_int rfl T.f_int boot_int (ra_cons (re_call C_law_next (hr.mono (by decide)) rfl (L2N.takes_of rfl rfl rfl rfl) (ra_cons (re_var (pv 0)) ra_nil)) ra_nil)) re_int))
 (rs_cons (rs_if (rt_cmp (op_inU (hu64 hr)) of_in (re_var (pv 6)) (re_lst (ra_cons re_int (ra_cons re_int ra_nil))) (by rfl)) (rs_one (rs_set (i := 4) sc_law_rule.nd rfl (Or.inl rfl) (re_op op_addU of_add (re_lst (ra_cons re_str ra_nil)) (re_slice rfl (re_var (pv 4)) (ro_some (re_un un_neg uf_neg re_int)) ro_none)))) rs_nil)
 (rs_cons (rs_if (rt_cmp (op_inU (hu64 hr)) of_in (re_var (pv 6)) (re_lst (ra_cons re_int (ra_cons re_int ra_nil))) (by rfl)) (rs_one (rs_set (i := 5) sc_law_rule.nd rfl (Or.inl rfl) (re_op op_addU of_add (re_slice rfl (re_var (pv 5)) ro_none (ro_some re_int)) (re_lst (ra_cons re_str ra_nil))))) rs_nil)
 (rs_one (rs_ret (re_tup (ra_cons (re_sh (re_var (pv 2))) (ra_cons (re_sh (re_var (pv 3))) (ra_cons (re_callTy cr_tupK ca_tup rfl T.f_tuple boot_tuple (ra_cons (re_var (pv 4)) ra_nil)) (ra_cons (re_callTy cr_tupK ca_tup rfl T.f_tuple boot_tuple (ra_cons (re_var (pv 5)) ra_nil)) ra_nil))))))))))))))
abbrev s_law_rules : Stmt := top 55
theorem sc_law_rules : FnScope ["draws", "k", "most", "j"] ["draws", "k", "most"] (defScope s_law_rules) := ⟨rfl, rfl, rfl, by decide +kernel, rfl, by decide +kernel, by decide +kernel⟩
theorem ok_law_rules (T : Tops K mg) (C_law_next : CalN P w K mg base 1 "_law_next" (spF K 1 F_law_next)) (C_law_rule : CalN P w K mg base 4 "_law_rule" (spF K 2 F_law_rule)) (F : Fun K "_law_rules" "_law_rules" s_law_rules f fd) : FnOk P w K mg base (L2N.CX P w) 5 f fd ["draws", "k", "most"] (spF K 3 F_law_rules) :=
  okN F sc_law_rules rfl fun cdv A outer s H E hr => (rs_one (rs_ret (re_callTy cr_tupK ca_tup rfl T.f_tuple boot_tuple (ra_cons (re_lc (own := [("j", 3)]) rfl sc_law_rules.nd (ri_rng1 rfl T.f_range (ra_cons (re_op op_mod of_mod (re_callTy call_int1 ca_int rfl T.f_int boot_int (ra_cons (re_call C_law_next (hr.mono (by decide)) rfl (L2N.takes_of rfl rfl rfl rfl) (ra_cons (re_var (pv 0)) ra_nil)) ra_nil)) (re_op op_addU of_add (re_var (pv 2)) re_int)) ra_nil)) (blkOk_by (N := ["draws", "k", "most", "j"]) (sc := defScope s_law_rules) (by decide +kernel)) (fun _ _ _ _ _ => (rg_name (i := 3) sc_law_rules.nd rfl (Or.inl rfl))) (fun _ _ _ _ _ => rt_yes) (fun _ _ _ _ _ => (re_sh (re_call C_law_rule (hr.mono (by decide)) rfl takesF (ra_cons (re_var (pv 0)) (ra_cons (re_sh (re_var (pv 1))) ra_nil))))) (by decide)) ra_nil))))
abbrev s_law_names : Stmt := top 56
theorem sc_law_names : FnScope ["draws", "k", "left", "names", "j", "at"] ["draws", "k"] (defScope s_law_names) := ⟨rfl, rfl, rfl, by decide +kernel, rfl, by decide +kernel, by decide +kernel⟩
theorem ok_law_names (T : Tops K mg) (C_law_next : CalN P w K mg base 1 "_law_next" (spF K 1 F_law_next)) (F : Fun K "_law_names" "_law_names" s_law_names f fd) : FnOk P w K mg base (L2N.CX P w) 2 f fd ["draws", "k"] (spF K 2 F_law_names) :=
  okN F sc_law_names rfl fun cdv A outer s H E hr => (rs_cons (rs_set (i := 2) sc_law_names.nd rfl (Or.inl rfl) (re_callTy cr_lstU ca_lst rfl T.f_list boot_list (ra_cons (re_slice rfl re_str ro_none (ro_some (re_var (pv 1)))) ra_nil)))
 (rs_cons (rs_set (i := 3) sc_law_names.nd rfl (Or.inl rfl) re_str)
 (rs_cons (rs_for (passes_of rfl) rfl (ri_rng1 rfl T.f_range (ra_cons (re_var (pv 1)) ra_nil)) (rg_name (i := 4) sc_law_names.nd rfl (Or.inl rfl))
 (rs_cons (rs_set (i := 5) sc_law_names.nd rfl (Or.inl rfl) (re_op op_mod of_mod (re_callTy call_int1 ca_int rfl T.f_int boot_int (ra_cons (re_call C_law_next (hr.mono (by decide)) rfl (L2N.takes_of rfl rfl rfl rfl) (ra_cons (re_var (pv 0)) ra_nil)) ra_nil)) (re_callB cr_lenK ca_len rfl T.f_len boot_len (ra_cons (re_var (pv 2)) ra_nil))))
 (rs_cons (rs_set (i := 3) sc_law_names.nd rfl (Or.inl rfl) (re_op op_addU of_add (re_var (pv 3)) (re_ix rfl (re_var (pv 2)) (re_var (pv 5)) (fun _ _ => rfl))))
 (rs_one (rs_set (i := 2) sc_law_names.nd rfl (Or.inl rfl) (re_op op_addU of_add (re_slice rfl (re_var (pv 2)) ro_none (ro_some (re_var (pv 5)))) (re_slice rfl (re_var (pv 2)) (ro_some (re_op op_addU of_add (re_var (pv 5)) re_int)) ro_none)))))))
 (rs_one (rs_ret (re_var (pv 3)))))))
abbrev s_law : Stmt := top 57
theorem sc_law : FnScope ["script", "draws", "k", "rules", "names", "back", "other", "about", "j", "word", "form", "letter", "sign"] ["script"] (defScope s_law) := ⟨rfl, rfl, rfl, by decide +kernel, rfl, by decide +kernel, by decide +kernel⟩
theorem goes_law (T : Tops K mg) (C_law_draws : CalN P w K mg base 2 "_law_draws" (spF K 1 F_law_draws)) (C_law_names : CalN P w K mg base 2 "_law_names" (spF K 2 F_law_names)) (C_law_next : CalN P w K mg base 1 "_law_next" (spF K 1 F_law_next)) (C_law_rules : CalN P w K mg base 5 "_law_rules" (spF K 3 F_law_rules)) (C_law_string : CalN P w K mg base 2 "_law_string" (spF K 3 F_law_string)) (C_changed : CalN P w K mg base 6 "changed" (spF K 3 F_changed)) (C_form_of : CalN P w K mg base 8 "form_of" (spF K 3 F_form_of)) (C_renamed_rules : CalN P w K mg base 7 "renamed_rules" (spF K 3 F_renamed_rules)) (C_renamed_word : CalN P w K mg base 6 "renamed_word" (spF K 3 F_renamed_word)) (C_turned_rules : CalN P w K mg base 7 "turned_rules" (spF K 2 F_turned_rules)) (F : Fun K "law" "law" s_law f fd) : LawN P w K mg base f fd "script" (spF K 1 F_law) :=
  lawN F sc_law fun cdv s H E hr => by
    have hg : (callerA.deeper (envOfC "law" (defScope s_law) s.heap.objs.size f cdv)).guards = some [] := rfl
    exact (rs_cons (rs_set (i := 1) sc_law.nd rfl (Or.inl rfl) (re_call C_law_draws (hr.mono (by decide)) rfl (L2N.takes_of rfl rfl rfl rfl) (ra_cons (re_var (pv 0)) ra_nil)))
 (rs_cons (rs_expr (re_rvs rfl (pv 1)))
 (rs_cons (rs_set (i := 2) sc_law.nd rfl (Or.inl rfl) (re_op op_addU of_add re_int (re_op op_mod of_mod (re_callTy call_int1 ca_int rfl T.f_int boot_int (ra_cons (re_call C_law_next (hr.mono (by decide)) rfl (L2N.takes_of rfl rfl rfl rfl) (ra_cons (re_var (pv 1)) ra_nil)) ra_nil)) re_int)))
 (rs_cons (rs_set (i := 3) sc_law.nd rfl (Or.inl rfl) (re_call C_law_rules (hr.mono (by decide)) rfl (L2N.takes_of rfl rfl rfl rfl) (ra_cons (re_var (pv 1)) (ra_cons (re_sh (re_var (pv 2))) (ra_cons re_int ra_nil)))))
 (rs_cons (rs_set (i := 4) sc_law.nd rfl (Or.inr rfl) (re_call C_law_names (hr.mono (by decide)) rfl (L2N.takes_of rfl rfl rfl rfl) (ra_cons (re_var (pv 1)) (ra_cons (re_sh (re_var (pv 2))) ra_nil))))
 (rs_cons (rs_set (i := 5) sc_law.nd rfl (Or.inl rfl) (re_mt rfl PySem.F.plainAttrs_str PySem.F.slot_str_join PySem.F.type_str_join mt_joinK ca_join ty_str re_str (ra_cons (re_lc (own := [("letter", 11)]) rfl sc_law.nd (ri_seq (re_sh (re_slice rfl re_str ro_none (ro_some (re_var (pv 2)))))) (blkOk_by (N := ["script", "draws", "k", "rules", "names", "back", "other", "about", "j", "word", "form", "letter", "sign"]) (sc := defScope s_law) (by decide +kernel)) (fun _ _ _ _ _ => (rg_name (i := 11) sc_law.nd rfl (Or.inl rfl))) (fun _ _ _ _ _ => rt_yes) (fun _ _ _ _ _ => (re_ix rfl re_str (re_mt rfl PySem.F.plainAttrs_str PySem.F.slot_str_index PySem.F.type_str_index mt_sindex ca_sindex ty_str (re_var (pv 4)) (ra_cons (re_var (pv 11)) ra_nil)) (fun _ _ => rfl))) (by decide)) ra_nil)))
 (rs_cons (rs_set (i := 6) sc_law.nd rfl (Or.inl rfl) (re_call C_renamed_rules (hr.mono (by decide)) rfl (L2N.takes_of rfl rfl rfl rfl) (ra_cons (re_sh (re_var (pv 2))) (ra_cons (re_sh (re_var (pv 3))) (ra_cons (re_sh (re_var (pv 4))) ra_nil)))))
 (rs_cons (rs_set (i := 7) sc_law.nd rfl (Or.inl rfl) (re_call C_turned_rules (hr.mono (by decide)) rfl (L2N.takes_of rfl rfl rfl rfl) (ra_cons (re_sh (re_var (pv 2))) (ra_cons (re_sh (re_var (pv 3))) ra_nil))))
 (rs_cons (rs_if (PW.pt (rw_or (rt_cmp (op_neU (hu64 hr)) of_ne (re_call C_renamed_rules (hr.mono (by decide)) rfl (L2N.takes_of rfl rfl rfl rfl) (ra_cons (re_sh (re_var (pv 2))) (ra_cons (re_sh (re_var (pv 6))) (ra_cons (re_sh (re_var (pv 5))) ra_nil)))) (re_var (pv 3)) (nomark _)) (rw_or1 (rt_cmp (op_neU (hu64 hr)) of_ne (re_call C_turned_rules (hr.mono (by decide)) rfl (L2N.takes_of rfl rfl rfl rfl) (ra_cons (re_sh (re_var (pv 2))) (ra_cons (re_sh (re_var (pv 7))) ra_nil))) (re_var (pv 3)) (nomark _))))) (rs_one (rs_ret re_bl)) rs_nil)
 (rs_cons (rs_for (passes_of rfl) rfl (ri_rng1 rfl T.f_range (ra_cons re_int ra_nil)) (rg_name (i := 8) sc_law.nd rfl (Or.inl rfl))
 (rs_cons (rs_set (i := 9) sc_law.nd rfl (Or.inl rfl) (re_call C_law_string (hr.mono (by decide)) rfl (L2N.takes_of rfl rfl rfl rfl) (ra_cons (re_var (pv 1)) (ra_cons (re_sh (re_var (pv 2))) (ra_cons re_int ra_nil)))))
 (rs_cons (rs_set (i := 10) sc_law.nd rfl (Or.inl rfl) (re_call C_form_of (hr.mono (by decide)) rfl (L2N.takes_of rfl rfl rfl rfl) (ra_cons (re_sh (re_var (pv 2))) (ra_cons (re_sh (re_var (pv 3))) (ra_cons (re_sh (re_var (pv 9))) ra_nil)))))
 (rs_cons (rs_if (rt_cmp (op_neU (hu64 hr)) of_ne (re_call C_form_of (hr.mono (by decide)) rfl (L2N.takes_of rfl rfl rfl rfl) (ra_cons (re_sh (re_var (pv 2))) (ra_cons (re_sh (re_var (pv 6))) (ra_cons (re_sh (re_call C_renamed_word (hr.mono (by decide)) rfl (L2N.takes_of rfl rfl rfl rfl) (ra_cons (re_sh (re_var (pv 2))) (ra_cons (re_sh (re_var (pv 9))) (ra_cons (re_sh (re_var (pv 4))) ra_nil))))) ra_nil)))) (re_mt rfl PySem.F.plainAttrs_str PySem.F.slot_str_join PySem.F.type_str_join mt_joinK ca_join ty_str re_str (ra_cons (re_lc (own := [("sign", 12)]) rfl sc_law.nd (ri_seq (re_sh (re_var (pv 10)))) (blkOk_by (N := ["script", "draws", "k", "rules", "names", "back", "other", "about", "j", "word", "form", "letter", "sign"]) (sc := defScope s_law) (by decide +kernel)) (fun _ _ _ _ _ => (rg_name (i := 12) sc_law.nd rfl (Or.inl rfl))) (fun _ _ _ _ _ => rt_yes) (fun _ _ _ _ _ => (re_ix rfl (re_var (pv 4)) (re_mt rfl PySem.F.plainAttrs_str PySem.F.slot_str_index PySem.F.type_str_index mt_sindex ca_sindex ty_str re_str (ra_cons (re_var (pv 12)) ra_nil)) (fun _ _ => rfl))) (by decide)) ra_nil)) (nomark _)) (rs_one (rs_ret re_bl)) rs_nil)
 (rs_cons (rs_if (rt_cmp (op_neU (hu64 hr)) of_ne (re_call C_form_of (hr.mono (by decide)) rfl (L2N.takes_of rfl rfl rfl rfl) (ra_cons (re_sh (re_var (pv 2))) (ra_cons (re_sh (re_var (pv 7))) (ra_cons (re_sh (re_revN (re_var (pv 9)))) ra_nil)))) (re_revN (re_var (pv 10))) (nomark _)) (rs_one (rs_ret re_bl)) rs_nil)
 (rs_one (rs_if (PW.pt (rw_and (rt_tru rfl (re_var (pv 3)) (fun _ => rfl)) (rw_and1 (rt_cmp (op_neU (hu64 hr)) of_ne (re_call C_form_of (hr.mono (by decide)) rfl (L2N.takes_of rfl rfl rfl rfl) (ra_cons (re_sh (re_var (pv 2))) (ra_cons (re_sh (re_slice rfl (re_var (pv 3)) ro_none (ro_some re_int))) (ra_cons (re_sh (re_var (pv 9))) ra_nil)))) (re_call C_changed (hr.mono (by decide)) rfl (L2N.takes_of rfl rfl rfl rfl) (ra_cons (re_sh (re_var (pv 2))) (ra_cons (re_ix rfl (re_var (pv 3)) re_int (fun _ _ => rfl)) (ra_cons (re_sh (re_var (pv 9))) ra_nil)))) (nomark _))))) (rs_one (rs_ret re_bl)) rs_nil)))))))
 (rs_one (rs_ret re_bl))))))))))))
end
set_option maxHeartbeats 0
/-! ### the head: facts by names, the run of the top -/
def exs (K : PySem.W.Frag) : Bool := kitsB K tabX && exmsB K tabX
def d_is_number_of_letters : He.DefD := ⟨("is_number_of_letters", none), "is_number_of_letters", "is_number_of_letters", defArgs s_is_number_of_letters, defBody s_is_number_of_letters, defScope s_is_number_of_letters, [], []⟩
def d_check_number : He.DefD := ⟨("check_number", none), "check_number", "check_number", defArgs s_check_number, defBody s_check_number, defScope s_check_number, [], []⟩
def d_letters_of : He.DefD := ⟨("letters_of", none), "letters_of", "letters_of", defArgs s_letters_of, defBody s_letters_of, defScope s_letters_of, [], []⟩
def d_is_word : He.DefD := ⟨("is_word", none), "is_word", "is_word", defArgs s_is_word, defBody s_is_word, defScope s_is_word, [], []⟩
def d_check_word : He.DefD := ⟨("check_word", none), "check_word", "check_word", defArgs s_check_word, defBody s_check_word, defScope s_check_word, [], []⟩
def d_is_set : He.DefD := ⟨("is_set", none), "is_set", "is_set", defArgs s_is_set, defBody s_is_set, defScope s_is_set, [], []⟩
def d_is_context : He.DefD := ⟨("_is_context", none), "_is_context", "_is_context", defArgs s_is_context, defBody s_is_context, defScope s_is_context, [], []⟩
def d_is_new : He.DefD := ⟨("is_new", none), "is_new", "is_new", defArgs s_is_new, defBody s_is_new, defScope s_is_new, [], []⟩
def d_is_rule : He.DefD := ⟨("is_rule", none), "is_rule", "is_rule", defArgs s_is_rule, defBody s_is_rule, defScope s_is_rule, [], []⟩
def d_is_rules : He.DefD := ⟨("is_rules", none), "is_rules", "is_rules", defArgs s_is_rules, defBody s_is_rules, defScope s_is_rules, [], []⟩
def d_check_rule : He.DefD := ⟨("check_rule", none), "check_rule", "check_rule", defArgs s_check_rule, defBody s_check_rule, defScope s_check_rule, [], []⟩
def d_check_rules : He.DefD := ⟨("check_rules", none), "check_rules", "check_rules", defArgs s_check_rules, defBody s_check_rules, defScope s_check_rules, [], []⟩
def d_check_names : He.DefD := ⟨("check_names", none), "check_names", "check_names", defArgs s_check_names, defBody s_check_names, defScope s_check_names, [], []⟩
def d_fits : He.DefD := ⟨("_fits", none), "_fits", "_fits", defArgs s_fits, defBody s_fits, defScope s_fits, [], []⟩
def d_all_fit : He.DefD := ⟨("_all_fit", none), "_all_fit", "_all_fit", defArgs s_all_fit, defBody s_all_fit, defScope s_all_fit, [], []⟩
def d_stands_at : He.DefD := ⟨("stands_at", none), "stands_at", "stands_at", defArgs s_stands_at, defBody s_stands_at, defScope s_stands_at, [], []⟩
def d_indexes_of : He.DefD := ⟨("indexes_of", none), "indexes_of", "indexes_of", defArgs s_indexes_of, defBody s_indexes_of, defScope s_indexes_of, [], []⟩
def d_parts_of : He.DefD := ⟨("parts_of", none), "parts_of", "parts_of", defArgs s_parts_of, defBody s_parts_of, defScope s_parts_of, [], []⟩
def d_changed : He.DefD := ⟨("changed", none), "changed", "changed", defArgs s_changed, defBody s_changed, defScope s_changed, [], []⟩
def d_turned : He.DefD := ⟨("turned", none), "turned", "turned", defArgs s_turned, defBody s_turned, defScope s_turned, [], []⟩
def d_renamed_letters : He.DefD := ⟨("_renamed_letters", none), "_renamed_letters", "_renamed_letters", defArgs s_renamed_letters, defBody s_renamed_letters, defScope s_renamed_letters, [], []⟩
def d_renamed_places : He.DefD := ⟨("_renamed_places", none), "_renamed_places", "_renamed_places", defArgs s_renamed_places, defBody s_renamed_places, defScope s_renamed_places, [], []⟩
def d_renamed_word : He.DefD := ⟨("renamed_word", none), "renamed_word", "renamed_word", defArgs s_renamed_word, defBody s_renamed_word, defScope s_renamed_word, [], []⟩
def d_renamed : He.DefD := ⟨("renamed", none), "renamed", "renamed", defArgs s_renamed, defBody s_renamed, defScope s_renamed, [], []⟩
def d_check_list : He.DefD := ⟨("check_list", none), "check_list", "check_list", defArgs s_check_list, defBody s_check_list, defScope s_check_list, [], []⟩
def d_check_made : He.DefD := ⟨("check_made", none), "check_made", "check_made", defArgs s_check_made, defBody s_check_made, defScope s_check_made, [], []⟩
def d_steps : He.DefD := ⟨("_steps", none), "_steps", "_steps", defArgs s_steps, defBody s_steps, defScope s_steps, [], []⟩
def d_form_of : He.DefD := ⟨("form_of", none), "form_of", "form_of", defArgs s_form_of, defBody s_form_of, defScope s_form_of, [], []⟩
def d_turned_rules : He.DefD := ⟨("turned_rules", none), "turned_rules", "turned_rules", defArgs s_turned_rules, defBody s_turned_rules, defScope s_turned_rules, [], []⟩
def d_renamed_rules : He.DefD := ⟨("renamed_rules", none), "renamed_rules", "renamed_rules", defArgs s_renamed_rules, defBody s_renamed_rules, defScope s_renamed_rules, [], []⟩
def d_law_number : He.DefD := ⟨("_law_number", none), "_law_number", "_law_number", defArgs s_law_number, defBody s_law_number, defScope s_law_number, [], []⟩
def d_law_draws : He.DefD := ⟨("_law_draws", none), "_law_draws", "_law_draws", defArgs s_law_draws, defBody s_law_draws, defScope s_law_draws, [], []⟩
def d_law_next : He.DefD := ⟨("_law_next", none), "_law_next", "_law_next", defArgs s_law_next, defBody s_law_next, defScope s_law_next, [], []⟩
def d_law_string : He.DefD := ⟨("_law_string", none), "_law_string", "_law_string", defArgs s_law_string, defBody s_law_string, defScope s_law_string, [], []⟩
def d_law_place : He.DefD := ⟨("_law_place", none), "_law_place", "_law_place", defArgs s_law_place, defBody s_law_place, defScope s_law_place, [], []⟩
def d_law_context : He.DefD := ⟨("_law_context", none), "_law_context", "_law_context", defArgs s_law_context, defBody s_law_context, defScope s_law_context, [], []⟩
def d_law_rule : He.DefD := ⟨("_law_rule", none), "_law_rule", "_law_rule", defArgs s_law_rule, defBody s_law_rule, defScope s_law_rule, [], []⟩
def d_law_rules : He.DefD := ⟨("_law_rules", none), "_law_rules", "_law_rules", defArgs s_law_rules, defBody s_law_rules, defScope s_law_rules, [], []⟩
def d_law_names : He.DefD := ⟨("_law_names", none), "_law_names", "_law_names", defArgs s_law_names, defBody s_law_names, defScope s_law_names, [], []⟩
def d_law : He.DefD := ⟨("law", none), "law", "law", defArgs s_law, defBody s_law, defScope s_law, [], []⟩
def fns : List He.DefD := [d_is_number_of_letters, d_check_number, d_letters_of, d_is_word, d_check_word, d_is_set, d_is_context, d_is_new, d_is_rule, d_is_rules, d_check_rule, d_check_rules, d_check_names, d_fits, d_all_fit, d_stands_at, d_indexes_of, d_parts_of, d_changed, d_turned, d_renamed_letters, d_renamed_places, d_renamed_word, d_renamed, d_check_list, d_check_made, d_steps, d_form_of, d_turned_rules, d_renamed_rules, d_law_number, d_law_draws, d_law_next, d_law_string, d_law_place, d_law_context, d_law_rule, d_law_rules, d_law_names, d_law]
def fas : List He.Fa := ([.glo "is_number_of_letters", .glo "check_number", .glo "letters_of", .glo "is_word", .glo "check_word", .glo "is_set", .glo "_is_context", .glo "is_new", .glo "is_rule", .glo "is_rules", .glo "check_rule", .glo "check_rules", .glo "check_names", .glo "_fits", .glo "_all_fit", .glo "stands_at", .glo "indexes_of", .glo "parts_of", .glo "changed", .glo "turned", .glo "_renamed_letters", .glo "_renamed_places", .glo "renamed_word", .glo "renamed", .glo "check_list", .glo "check_made", .glo "_steps", .glo "form_of", .glo "turned_rules", .glo "renamed_rules"] : List He.Fa) ++ ([.glo "_law_number", .glo "_law_draws", .glo "_law_next", .glo "_law_string", .glo "_law_place", .glo "_law_context", .glo "_law_rule", .glo "_law_rules", .glo "_law_names", .glo "law", .glo "ShiftError", .exc "ShiftError", .glo "NotWord", .exc "NotWord", .glo "NotRule", .exc "NotRule", .glo "BadNumber", .exc "BadNumber", .glo "TooLarge", .exc "TooLarge", .free "all", .free "enumerate", .free "int", .free "len", .free "list", .free "range", .free "sorted", .free "tuple", .str "EDGE" "#", .int "LEAST_LETTERS" 2] : List He.Fa) ++ ([.str "LETTERS" "abcdef", .int "LONGEST" 60, .int "LONGEST_MADE" 2000, .int "MOST_NEW" 3, .int "MOST_PLACES" 2, .int "MOST_RULES" 8] : List He.Fa)
abbrev R : PySem.W.OpenRow := PySem.W.OpenLaw.row PySem.Challenge.rw_soundturns_k03_whole_renaming_and_turnin
abbrev hk : PySem.W.Hook := He.hookX 4 fas fns [] [] exs
def ob (s : PySem.W.SharedT) : He.AlX := He.obsX 4 fas fns [] [] exs (HandSHeadRun.getT s)
theorem ob_eq (s : PySem.W.SharedT) : ob s = hk.obs s.abs := He.obsX_eq (HandSHeadRun.getT_eq s)
def loose : List PySem.Str := (["ShiftError", "NotWord", "NotRule", "BadNumber", "TooLarge", "LETTERS", "LEAST_LETTERS", "LONGEST", "is_number_of_letters", "check_number", "letters_of", "is_word", "check_word", "EDGE", "MOST_NEW", "MOST_PLACES", "MOST_RULES", "is_set", "_is_context", "is_new", "is_rule", "is_rules", "check_rule", "check_rules", "check_names", "_fits", "_all_fit", "stands_at", "indexes_of", "parts_of"] : List PySem.Str) ++ (["changed", "turned", "_renamed_letters", "_renamed_places", "renamed_word", "renamed", "LONGEST_MADE", "check_list", "check_made", "_steps", "form_of", "turned_rules", "renamed_rules", "_law_number", "_law_draws", "_law_next", "_law_string", "_law_place", "_law_context", "_law_rule", "_law_rules", "_law_names"] : List PySem.Str)
theorem run (w : World) : HandSHeadRun.RunEq R (PySem.W.view R.prog [57]) hk ob 4500 loose w := by
  intro os
  kernel_rfl
section
variable {P : Program} {w : World} {K : PySem.W.Frag} {h base : Heap} {mg : Str → Option Value}
theorem tops (X : K.In h) (G : h.Ns mainGlobals mg) {hh : Heap} (c : He.SaysX fas fns [] [] exs w hh K) : Tops K mg := by
  have d := c.t.d
  have gl : ∀ x : Str, He.Fa.glo x ∈ fas → mg x = some (.ref (He.ga K x)) := fun x m => He.glo_ok X G (d.facts m)
  have fr : ∀ x : Str, He.Fa.free x ∈ fas → mg x = none := fun x m => He.free_ok X G (d.facts m)
  have st : ∀ x z : Str, He.Fa.str x z ∈ fas → ∃ u, mg x = some u ∧ RelV (.str z) u := fun x z m => gS (He.str_ok X G (d.facts m))
  have it : ∀ (x : Str) (i : Int), He.Fa.int x i ∈ fas → ∃ u, mg x = some u ∧ RelV (.int i) u := fun x i m => gI (He.int_ok X G (d.facts m))
  have ec : ∀ x : Str, He.Fa.glo x ∈ fas → He.Fa.exc x ∈ fas → ExcF K mg x := fun x m1 m2 => by
    obtain ⟨a, b, e, f⟩ := He.exc_ok (d.facts m2)
    exact ⟨gl x m1, a, b, e, f⟩
  have xx : exs K = true := c.more
  obtain ⟨x1, x2⟩ := He.ba xx
  exact Tops.mk (c_EDGE := st "EDGE" "#" (by simp [fas]))
    (c_LEAST_LETTERS := it "LEAST_LETTERS" 2 (by simp [fas]))
    (c_LETTERS := st "LETTERS" "abcdef" (by simp [fas]))
    (c_LONGEST := it "LONGEST" 60 (by simp [fas]))
    (c_LONGEST_MADE := it "LONGEST_MADE" 2000 (by simp [fas]))
    (c_MOST_NEW := it "MOST_NEW" 3 (by simp [fas]))
    (c_MOST_PLACES := it "MOST_PLACES" 2 (by simp [fas]))
    (c_MOST_RULES := it "MOST_RULES" 8 (by simp [fas]))
    (f_all := fr "all" (by simp [fas]))
    (f_enumerate := fr "enumerate" (by simp [fas]))
    (f_int := fr "int" (by simp [fas]))
    (f_len := fr "len" (by simp [fas]))
    (f_list := fr "list" (by simp [fas]))
    (f_range := fr "range" (by simp [fas]))
    (f_sorted := fr "sorted" (by simp [fas]))
    (f_tuple := fr "tuple" (by simp [fas]))
    (e_ShiftError := ec "ShiftError" (by simp [fas]) (by simp [fas]))
    (e_NotWord := ec "NotWord" (by simp [fas]) (by simp [fas]))
    (e_NotRule := ec "NotRule" (by simp [fas]) (by simp [fas]))
    (e_BadNumber := ec "BadNumber" (by simp [fas]) (by simp [fas]))
    (e_TooLarge := ec "TooLarge" (by simp [fas]) (by simp [fas]))
    (x_kit := x1)
    (x_exm := x2)
theorem law_ok (X : K.In h) (G : h.Ns mainGlobals mg) {hh : Heap} (c : He.SaysX fas fns [] [] exs w hh K) {f : Addr} (hf : mg ("law" : Str) = some (.ref f)) :
    ∃ fd : FuncData, (∀ (s : Shared) (v : Value), BindsTo s fd ⟨[v], []⟩ [("script", v)]) ∧ ∀ base : Heap, K.In base → base.Ns mainGlobals mg → LawN P w K mg base f fd "script" (spF K 1 F_law) := by
  have T := tops X G c
  have d := c.t.d
  obtain ⟨fd_is_number_of_letters, D_is_number_of_letters⟩ := d.defs (d := d_is_number_of_letters) (by simp [fns])
  obtain ⟨fd_is_set, D_is_set⟩ := d.defs (d := d_is_set) (by simp [fns])
  obtain ⟨fd_is_new, D_is_new⟩ := d.defs (d := d_is_new) (by simp [fns])
  obtain ⟨fd_fits, D_fits⟩ := d.defs (d := d_fits) (by simp [fns])
  obtain ⟨fd_renamed_letters, D_renamed_letters⟩ := d.defs (d := d_renamed_letters) (by simp [fns])
  obtain ⟨fd_check_made, D_check_made⟩ := d.defs (d := d_check_made) (by simp [fns])
  obtain ⟨fd_law_number, D_law_number⟩ := d.defs (d := d_law_number) (by simp [fns])
  obtain ⟨fd_law_next, D_law_next⟩ := d.defs (d := d_law_next) (by simp [fns])
  obtain ⟨fd_check_number, D_check_number⟩ := d.defs (d := d_check_number) (by simp [fns])
  obtain ⟨fd_is_context, D_is_context⟩ := d.defs (d := d_is_context) (by simp [fns])
  obtain ⟨fd_all_fit, D_all_fit⟩ := d.defs (d := d_all_fit) (by simp [fns])
  obtain ⟨fd_renamed_places, D_renamed_places⟩ := d.defs (d := d_renamed_places) (by simp [fns])
  obtain ⟨fd_law_draws, D_law_draws⟩ := d.defs (d := d_law_draws) (by simp [fns])
  obtain ⟨fd_law_string, D_law_string⟩ := d.defs (d := d_law_string) (by simp [fns])
  obtain ⟨fd_law_place, D_law_place⟩ := d.defs (d := d_law_place) (by simp [fns])
  obtain ⟨fd_law_names, D_law_names⟩ := d.defs (d := d_law_names) (by simp [fns])
  obtain ⟨fd_letters_of, D_letters_of⟩ := d.defs (d := d_letters_of) (by simp [fns])
  obtain ⟨fd_stands_at, D_stands_at⟩ := d.defs (d := d_stands_at) (by simp [fns])
  obtain ⟨fd_law_context, D_law_context⟩ := d.defs (d := d_law_context) (by simp [fns])
  obtain ⟨fd_is_word, D_is_word⟩ := d.defs (d := d_is_word) (by simp [fns])
  obtain ⟨fd_is_rule, D_is_rule⟩ := d.defs (d := d_is_rule) (by simp [fns])
  obtain ⟨fd_check_names, D_check_names⟩ := d.defs (d := d_check_names) (by simp [fns])
  obtain ⟨fd_indexes_of, D_indexes_of⟩ := d.defs (d := d_indexes_of) (by simp [fns])
  obtain ⟨fd_law_rule, D_law_rule⟩ := d.defs (d := d_law_rule) (by simp [fns])
  obtain ⟨fd_check_word, D_check_word⟩ := d.defs (d := d_check_word) (by simp [fns])
  obtain ⟨fd_is_rules, D_is_rules⟩ := d.defs (d := d_is_rules) (by simp [fns])
  obtain ⟨fd_check_rule, D_check_rule⟩ := d.defs (d := d_check_rule) (by simp [fns])
  obtain ⟨fd_parts_of, D_parts_of⟩ := d.defs (d := d_parts_of) (by simp [fns])
  obtain ⟨fd_law_rules, D_law_rules⟩ := d.defs (d := d_law_rules) (by simp [fns])
  obtain ⟨fd_check_rules, D_check_rules⟩ := d.defs (d := d_check_rules) (by simp [fns])
  obtain ⟨fd_changed, D_changed⟩ := d.defs (d := d_changed) (by simp [fns])
  obtain ⟨fd_turned, D_turned⟩ := d.defs (d := d_turned) (by simp [fns])
  obtain ⟨fd_renamed_word, D_renamed_word⟩ := d.defs (d := d_renamed_word) (by simp [fns])
  obtain ⟨fd_renamed, D_renamed⟩ := d.defs (d := d_renamed) (by simp [fns])
  obtain ⟨fd_steps, D_steps⟩ := d.defs (d := d_steps) (by simp [fns])
  obtain ⟨fd_check_list, D_check_list⟩ := d.defs (d := d_check_list) (by simp [fns])
  obtain ⟨fd_turned_rules, D_turned_rules⟩ := d.defs (d := d_turned_rules) (by simp [fns])
  obtain ⟨fd_renamed_rules, D_renamed_rules⟩ := d.defs (d := d_renamed_rules) (by simp [fns])
  obtain ⟨fd_form_of, D_form_of⟩ := d.defs (d := d_form_of) (by simp [fns])
  obtain ⟨fd_law, D_law⟩ := d.defs (d := d_law) (by simp [fns])
  have e := hf.symm.trans (He.glo_ok X G (d.facts (f := .glo "law") (by simp [fas])))
  cases e
  refine ⟨fd_law, fun s v => FunD.bindsA (ps := ["script"]) D_law (fun _ _ _ _ _ _ us hl => match us, hl with | [_], _ => rfl) s [v] rfl, fun base Xb Gb => ?_⟩
  have C_is_number_of_letters : CalN P w K mg base 1 "is_number_of_letters" (spF K 1 F_is_number_of_letters) := ⟨_, fd_is_number_of_letters, ["k"], ok_is_number_of_letters T  (He5.fun_of D_is_number_of_letters), He.glo_ok X G (d.facts (f := .glo "is_number_of_letters") (by simp [fas])), D_is_number_of_letters.kp, D_is_number_of_letters.bindsN fun _ _ _ _ _ _ us hl => match us, hl with | [_], _ => rfl⟩
  have C_is_set : CalN P w K mg base 1 "is_set" (spF K 2 F_is_set) := ⟨_, fd_is_set, ["letters", "place"], ok_is_set T  (He5.fun_of D_is_set), He.glo_ok X G (d.facts (f := .glo "is_set") (by simp [fas])), D_is_set.kp, D_is_set.bindsN fun _ _ _ _ _ _ us hl => match us, hl with | [_, _], _ => rfl⟩
  have C_is_new : CalN P w K mg base 1 "is_new" (spF K 2 F_is_new) := ⟨_, fd_is_new, ["letters", "new"], ok_is_new T  (He5.fun_of D_is_new), He.glo_ok X G (d.facts (f := .glo "is_new") (by simp [fas])), D_is_new.kp, D_is_new.bindsN fun _ _ _ _ _ _ us hl => match us, hl with | [_, _], _ => rfl⟩
  have C_fits : CalN P w K mg base 1 "_fits" (spF K 3 F_fits) := ⟨_, fd_fits, ["place", "word", "at"], ok_fits T  (He5.fun_of D_fits), He.glo_ok X G (d.facts (f := .glo "_fits") (by simp [fas])), D_fits.kp, D_fits.bindsN fun _ _ _ _ _ _ us hl => match us, hl with | [_, _, _], _ => rfl⟩
  have C_renamed_letters : CalN P w K mg base 1 "_renamed_letters" (spF K 3 F_renamed_letters) := ⟨_, fd_renamed_letters, ["letters", "names", "word"], ok_renamed_letters T  (He5.fun_of D_renamed_letters), He.glo_ok X G (d.facts (f := .glo "_renamed_letters") (by simp [fas])), D_renamed_letters.kp, D_renamed_letters.bindsN fun _ _ _ _ _ _ us hl => match us, hl with | [_, _, _], _ => rfl⟩
  have C_check_made : CalN P w K mg base 1 "check_made" (spF K 1 F_check_made) := ⟨_, fd_check_made, ["word"], ok_check_made T  (He5.fun_of D_check_made), He.glo_ok X G (d.facts (f := .glo "check_made") (by simp [fas])), D_check_made.kp, D_check_made.bindsN fun _ _ _ _ _ _ us hl => match us, hl with | [_], _ => rfl⟩
  have C_law_number : CalN P w K mg base 1 "_law_number" (spF K 1 F_law_number) := ⟨_, fd_law_number, ["cell"], ok_law_number T  (He5.fun_of D_law_number), He.glo_ok X G (d.facts (f := .glo "_law_number") (by simp [fas])), D_law_number.kp, D_law_number.bindsN fun _ _ _ _ _ _ us hl => match us, hl with | [_], _ => rfl⟩
  have C_law_next : CalN P w K mg base 1 "_law_next" (spF K 1 F_law_next) := ⟨_, fd_law_next, ["draws"], ok_law_next T  (He5.fun_of D_law_next), He.glo_ok X G (d.facts (f := .glo "_law_next") (by simp [fas])), D_law_next.kp, D_law_next.bindsN fun _ _ _ _ _ _ us hl => match us, hl with | [_], _ => rfl⟩
  have C_check_number : CalN P w K mg base 2 "check_number" (spF K 1 F_check_number) := ⟨_, fd_check_number, ["k"], ok_check_number T C_is_number_of_letters (He5.fun_of D_check_number), He.glo_ok X G (d.facts (f := .glo "check_number") (by simp [fas])), D_check_number.kp, D_check_number.bindsN fun _ _ _ _ _ _ us hl => match us, hl with | [_], _ => rfl⟩
  have C_is_context : CalN P w K mg base 2 "_is_context" (spF K 3 F_is_context) := ⟨_, fd_is_context, ["letters", "places", "edge"], ok_is_context T C_is_set (He5.fun_of D_is_context), He.glo_ok X G (d.facts (f := .glo "_is_context") (by simp [fas])), D_is_context.kp, D_is_context.bindsN fun _ _ _ _ _ _ us hl => match us, hl with | [_, _, _], _ => rfl⟩
  have C_all_fit : CalN P w K mg base 2 "_all_fit" (spF K 3 F_all_fit) := ⟨_, fd_all_fit, ["places", "word", "begin"], ok_all_fit T C_fits (He5.fun_of D_all_fit), He.glo_ok X G (d.facts (f := .glo "_all_fit") (by simp [fas])), D_all_fit.kp, D_all_fit.bindsN fun _ _ _ _ _ _ us hl => match us, hl with | [_, _, _], _ => rfl⟩
  have C_renamed_places : CalN P w K mg base 2 "_renamed_places" (spF K 3 F_renamed_places) := ⟨_, fd_renamed_places, ["letters", "names", "places"], ok_renamed_places T C_renamed_letters (He5.fun_of D_renamed_places), He.glo_ok X G (d.facts (f := .glo "_renamed_places") (by simp [fas])), D_renamed_places.kp, D_renamed_places.bindsN fun _ _ _ _ _ _ us hl => match us, hl with | [_, _, _], _ => rfl⟩
  have C_law_draws : CalN P w K mg base 2 "_law_draws" (spF K 1 F_law_draws) := ⟨_, fd_law_draws, ["script"], ok_law_draws T C_law_number (He5.fun_of D_law_draws), He.glo_ok X G (d.facts (f := .glo "_law_draws") (by simp [fas])), D_law_draws.kp, D_law_draws.bindsN fun _ _ _ _ _ _ us hl => match us, hl with | [_], _ => rfl⟩
  have C_law_string : CalN P w K mg base 2 "_law_string" (spF K 3 F_law_string) := ⟨_, fd_law_string, ["draws", "k", "most"], ok_law_string T C_law_next (He5.fun_of D_law_string), He.glo_ok X G (d.facts (f := .glo "_law_string") (by simp [fas])), D_law_string.kp, D_law_string.bindsN fun _ _ _ _ _ _ us hl => match us, hl with | [_, _, _], _ => rfl⟩
  have C_law_place : CalN P w K mg base 2 "_law_place" (spF K 2 F_law_place) := ⟨_, fd_law_place, ["draws", "k"], ok_law_place T C_law_next (He5.fun_of D_law_place), He.glo_ok X G (d.facts (f := .glo "_law_place") (by simp [fas])), D_law_place.kp, D_law_place.bindsN fun _ _ _ _ _ _ us hl => match us, hl with | [_, _], _ => rfl⟩
  have C_law_names : CalN P w K mg base 2 "_law_names" (spF K 2 F_law_names) := ⟨_, fd_law_names, ["draws", "k"], ok_law_names T C_law_next (He5.fun_of D_law_names), He.glo_ok X G (d.facts (f := .glo "_law_names") (by simp [fas])), D_law_names.kp, D_law_names.bindsN fun _ _ _ _ _ _ us hl => match us, hl with | [_, _], _ => rfl⟩
  have C_letters_of : CalN P w K mg base 3 "letters_of" (spF K 1 F_letters_of) := ⟨_, fd_letters_of, ["k"], ok_letters_of T C_check_number (He5.fun_of D_letters_of), He.glo_ok X G (d.facts (f := .glo "letters_of") (by simp [fas])), D_letters_of.kp, D_letters_of.bindsN fun _ _ _ _ _ _ us hl => match us, hl with | [_], _ => rfl⟩
  have C_stands_at : CalN P w K mg base 3 "stands_at" (spF K 3 F_stands_at) := ⟨_, fd_stands_at, ["rule", "word", "at"], ok_stands_at T C_all_fit (He5.fun_of D_stands_at), He.glo_ok X G (d.facts (f := .glo "stands_at") (by simp [fas])), D_stands_at.kp, D_stands_at.bindsN fun _ _ _ _ _ _ us hl => match us, hl with | [_, _, _], _ => rfl⟩
  have C_law_context : CalN P w K mg base 3 "_law_context" (spF K 2 F_law_context) := ⟨_, fd_law_context, ["draws", "k"], ok_law_context T C_law_next C_law_place (He5.fun_of D_law_context), He.glo_ok X G (d.facts (f := .glo "_law_context") (by simp [fas])), D_law_context.kp, D_law_context.bindsN fun _ _ _ _ _ _ us hl => match us, hl with | [_, _], _ => rfl⟩
  have C_is_word : CalN P w K mg base 4 "is_word" (spF K 2 F_is_word) := ⟨_, fd_is_word, ["k", "word"], ok_is_word T C_letters_of (He5.fun_of D_is_word), He.glo_ok X G (d.facts (f := .glo "is_word") (by simp [fas])), D_is_word.kp, D_is_word.bindsN fun _ _ _ _ _ _ us hl => match us, hl with | [_, _], _ => rfl⟩
  have C_is_rule : CalN P w K mg base 4 "is_rule" (spF K 2 F_is_rule) := ⟨_, fd_is_rule, ["k", "rule"], ok_is_rule T C_is_context C_is_new C_letters_of (He5.fun_of D_is_rule), He.glo_ok X G (d.facts (f := .glo "is_rule") (by simp [fas])), D_is_rule.kp, D_is_rule.bindsN fun _ _ _ _ _ _ us hl => match us, hl with | [_, _], _ => rfl⟩
  have C_check_names : CalN P w K mg base 4 "check_names" (spF K 2 F_check_names) := ⟨_, fd_check_names, ["k", "names"], ok_check_names T C_letters_of (He5.fun_of D_check_names), He.glo_ok X G (d.facts (f := .glo "check_names") (by simp [fas])), D_check_names.kp, D_check_names.bindsN fun _ _ _ _ _ _ us hl => match us, hl with | [_, _], _ => rfl⟩
  have C_indexes_of : CalN P w K mg base 4 "indexes_of" (spF K 2 F_indexes_of) := ⟨_, fd_indexes_of, ["rule", "word"], ok_indexes_of T C_stands_at (He5.fun_of D_indexes_of), He.glo_ok X G (d.facts (f := .glo "indexes_of") (by simp [fas])), D_indexes_of.kp, D_indexes_of.bindsN fun _ _ _ _ _ _ us hl => match us, hl with | [_, _], _ => rfl⟩
  have C_law_rule : CalN P w K mg base 4 "_law_rule" (spF K 2 F_law_rule) := ⟨_, fd_law_rule, ["draws", "k"], ok_law_rule T C_law_context C_law_next C_law_string (He5.fun_of D_law_rule), He.glo_ok X G (d.facts (f := .glo "_law_rule") (by simp [fas])), D_law_rule.kp, D_law_rule.bindsN fun _ _ _ _ _ _ us hl => match us, hl with | [_, _], _ => rfl⟩
  have C_check_word : CalN P w K mg base 5 "check_word" (spF K 2 F_check_word) := ⟨_, fd_check_word, ["k", "word"], ok_check_word T C_is_word (He5.fun_of D_check_word), He.glo_ok X G (d.facts (f := .glo "check_word") (by simp [fas])), D_check_word.kp, D_check_word.bindsN fun _ _ _ _ _ _ us hl => match us, hl with | [_, _], _ => rfl⟩
  have C_is_rules : CalN P w K mg base 5 "is_rules" (spF K 2 F_is_rules) := ⟨_, fd_is_rules, ["k", "rules"], ok_is_rules T C_check_number C_is_rule (He5.fun_of D_is_rules), He.glo_ok X G (d.facts (f := .glo "is_rules") (by simp [fas])), D_is_rules.kp, D_is_rules.bindsN fun _ _ _ _ _ _ us hl => match us, hl with | [_, _], _ => rfl⟩
  have C_check_rule : CalN P w K mg base 5 "check_rule" (spF K 2 F_check_rule) := ⟨_, fd_check_rule, ["k", "rule"], ok_check_rule T C_is_rule (He5.fun_of D_check_rule), He.glo_ok X G (d.facts (f := .glo "check_rule") (by simp [fas])), D_check_rule.kp, D_check_rule.bindsN fun _ _ _ _ _ _ us hl => match us, hl with | [_, _], _ => rfl⟩
  have C_parts_of : CalN P w K mg base 5 "parts_of" (spF K 2 F_parts_of) := ⟨_, fd_parts_of, ["rule", "word"], ok_parts_of T C_indexes_of (He5.fun_of D_parts_of), He.glo_ok X G (d.facts (f := .glo "parts_of") (by simp [fas])), D_parts_of.kp, D_parts_of.bindsN fun _ _ _ _ _ _ us hl => match us, hl with | [_, _], _ => rfl⟩
  have C_law_rules : CalN P w K mg base 5 "_law_rules" (spF K 3 F_law_rules) := ⟨_, fd_law_rules, ["draws", "k", "most"], ok_law_rules T C_law_next C_law_rule (He5.fun_of D_law_rules), He.glo_ok X G (d.facts (f := .glo "_law_rules") (by simp [fas])), D_law_rules.kp, D_law_rules.bindsN fun _ _ _ _ _ _ us hl => match us, hl with | [_, _, _], _ => rfl⟩
  have C_check_rules : CalN P w K mg base 6 "check_rules" (spF K 2 F_check_rules) := ⟨_, fd_check_rules, ["k", "rules"], ok_check_rules T C_is_rules (He5.fun_of D_check_rules), He.glo_ok X G (d.facts (f := .glo "check_rules") (by simp [fas])), D_check_rules.kp, D_check_rules.bindsN fun _ _ _ _ _ _ us hl => match us, hl with | [_, _], _ => rfl⟩
  have C_changed : CalN P w K mg base 6 "changed" (spF K 3 F_changed) := ⟨_, fd_changed, ["k", "rule", "word"], ok_changed T C_check_rule C_check_word C_parts_of (He5.fun_of D_changed), He.glo_ok X G (d.facts (f := .glo "changed") (by simp [fas])), D_changed.kp, D_changed.bindsN fun _ _ _ _ _ _ us hl => match us, hl with | [_, _, _], _ => rfl⟩
  have C_turned : CalN P w K mg base 6 "turned" (spF K 2 F_turned) := ⟨_, fd_turned, ["k", "rule"], ok_turned T C_check_rule (He5.fun_of D_turned), He.glo_ok X G (d.facts (f := .glo "turned") (by simp [fas])), D_turned.kp, D_turned.bindsN fun _ _ _ _ _ _ us hl => match us, hl with | [_, _], _ => rfl⟩
  have C_renamed_word : CalN P w K mg base 6 "renamed_word" (spF K 3 F_renamed_word) := ⟨_, fd_renamed_word, ["k", "word", "names"], ok_renamed_word T C_renamed_letters C_check_names C_check_word C_letters_of (He5.fun_of D_renamed_word), He.glo_ok X G (d.facts (f := .glo "renamed_word") (by simp [fas])), D_renamed_word.kp, D_renamed_word.bindsN fun _ _ _ _ _ _ us hl => match us, hl with | [_, _, _], _ => rfl⟩
  have C_renamed : CalN P w K mg base 6 "renamed" (spF K 3 F_renamed) := ⟨_, fd_renamed, ["k", "rule", "names"], ok_renamed T C_renamed_letters C_renamed_places C_check_names C_check_rule C_letters_of (He5.fun_of D_renamed), He.glo_ok X G (d.facts (f := .glo "renamed") (by simp [fas])), D_renamed.kp, D_renamed.bindsN fun _ _ _ _ _ _ us hl => match us, hl with | [_, _, _], _ => rfl⟩
  have C_steps : CalN P w K mg base 6 "_steps" (spF K 2 F_steps) := ⟨_, fd_steps, ["rules", "word"], ok_steps T C_check_made C_parts_of (He5.fun_of D_steps), He.glo_ok X G (d.facts (f := .glo "_steps") (by simp [fas])), D_steps.kp, D_steps.bindsN fun _ _ _ _ _ _ us hl => match us, hl with | [_, _], _ => rfl⟩
  have C_check_list : CalN P w K mg base 7 "check_list" (spF K 3 F_check_list) := ⟨_, fd_check_list, ["k", "rules", "word"], ok_check_list T C_check_rules C_check_word (He5.fun_of D_check_list), He.glo_ok X G (d.facts (f := .glo "check_list") (by simp [fas])), D_check_list.kp, D_check_list.bindsN fun _ _ _ _ _ _ us hl => match us, hl with | [_, _, _], _ => rfl⟩
  have C_turned_rules : CalN P w K mg base 7 "turned_rules" (spF K 2 F_turned_rules) := ⟨_, fd_turned_rules, ["k", "rules"], ok_turned_rules T C_check_rules C_turned (He5.fun_of D_turned_rules), He.glo_ok X G (d.facts (f := .glo "turned_rules") (by simp [fas])), D_turned_rules.kp, D_turned_rules.bindsN fun _ _ _ _ _ _ us hl => match us, hl with | [_, _], _ => rfl⟩
  have C_renamed_rules : CalN P w K mg base 7 "renamed_rules" (spF K 3 F_renamed_rules) := ⟨_, fd_renamed_rules, ["k", "rules", "names"], ok_renamed_rules T C_check_names C_check_rules C_renamed (He5.fun_of D_renamed_rules), He.glo_ok X G (d.facts (f := .glo "renamed_rules") (by simp [fas])), D_renamed_rules.kp, D_renamed_rules.bindsN fun _ _ _ _ _ _ us hl => match us, hl with | [_, _, _], _ => rfl⟩
  have C_form_of : CalN P w K mg base 8 "form_of" (spF K 3 F_form_of) := ⟨_, fd_form_of, ["k", "rules", "word"], ok_form_of T C_steps C_check_list (He5.fun_of D_form_of), He.glo_ok X G (d.facts (f := .glo "form_of") (by simp [fas])), D_form_of.kp, D_form_of.bindsN fun _ _ _ _ _ _ us hl => match us, hl with | [_, _, _], _ => rfl⟩
  exact goes_law T C_law_draws C_law_names C_law_next C_law_rules C_law_string C_changed C_form_of C_renamed_rules C_renamed_word C_turned_rules (He5.fun_of D_law)
end
end K
open PySem PySem.W PySem.Calls PyProof.Rows
theorem PySem.Challenge.cw_soundturns_k03_whole_renaming_and_turnin_holds : PySem.Challenge.rw_soundturns_k03_whole_renaming_and_turnin.Holds := by
  w_on; o_law
  refine HandSHeadRun.head_any (r := OpenLaw.row PySem.Challenge.rw_soundturns_k03_whole_renaming_and_turnin) (q := view (OpenLaw.row PySem.Challenge.rw_soundturns_k03_whole_renaming_and_turnin).prog [57]) (H := K.hk) (ob := K.ob) (M := 4500) (loose := K.loose) (d := HandSHeadRun.topDef (OpenLaw.row PySem.Challenge.rw_soundturns_k03_whole_renaming_and_turnin).prog 57) (kwd := []) K.ob_eq
    (by kernel_rfl) (fun s => by kernel_rfl) K.run (by kernel_rfl) (by kernel_rfl) (by kernel_rfl) (by rfl) (by first | assumption | decide +kernel) (by decide +kernel) ⟨rfl, rfl, rfl, rfl, rfl, by decide +kernel⟩ ?hw ?hc
  case hw => w_witness2
  case hc =>
    refine M.claim_walkN (l := PySem.Challenge.rw_soundturns_k03_whole_renaming_and_turnin) (n := 63) (x := "script") rfl (by decide) (by kernel_rfl) ?F
    intro w mg f h Y G named
    obtain ⟨Kf, KX, c⟩ := Y
    have hmg : mg ("law" : PySem.Str) = some (.ref f) := by
      have e : (HandSHeadRun.topDef (OpenLaw.row PySem.Challenge.rw_soundturns_k03_whole_renaming_and_turnin).prog 57).name = ("law" : PySem.Str) := by kernel_rfl
      rw [← e]
      exact named
    obtain ⟨fd, hb, hF⟩ := K.law_ok (P := (PySem.Challenge.rw_soundturns_k03_whole_renaming_and_turnin).prog) (w := w) KX G c hmg
    exact ⟨Kf, fd, M.spF Kf 1 K.F_law, KX, hb, fun H a ns hl hS => M.law_sp hS (K.law_true ns hl), hF⟩

